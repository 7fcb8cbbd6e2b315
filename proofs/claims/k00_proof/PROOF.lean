import PyProof.Rows.All
import Wide.All
import OpenK.AllK
import Wide.FinOn
import HandS.ForMost
import HandS.ForExc
import HandS.ExcInit
import HandS.ExcField
import HandS.TryMany
import HandS.IsInst
import HandS.MakeKw
import HandS.OwnEq
import HandS.Wide
import HandS.Defaults
import HandS.ClsMeth
import KE.KCallOwn
import HandS.Head0
import HandS.Head1
import HandS.Head2
import HandS.HeadEnd
import HandS.HeadHook1
import HandS.HeadHook2
import HandS.HeadNt
import HandS.WideBits
import HandS.StrMore
import HandS.Walk
import HandS.MakeKwOnly
import HandS.TupAny
import HandS.Iter
import HandS.Zip
import HandS.Gcd
import HandS.Style
import PyProof.WalksMore
import KE.GoesMore
import KE.GoesEnum
import KE.KIsAll
import HandS.ExcIs
import Flt.RightSqrt
import PyProof.ReprRoads
import HandS.Lambda
import HandS.EndTab
import HandS.EndBits
import PyProof.StrBlock2
import HandS.SortInts
import HandS.RaiseMore
import HandS.CallLocal
import KE.KMathGC
import KE.KRevSl
import HandS.ExcValue
import HandS.HeadHook4
import KE.GoesZip
import HandS.NoneIn
import KE.GoesRaise
import HandS.SortRule
import HandS.Conv
import KE.KExcPX
import HandS.DeepEq
import HandS.DictComp
import HandS.Head3
import PySem.Challenge.RW_goodsigns_k00_errors_and_checks
set_option Elab.async false
set_option linter.all false
set_option maxRecDepth 100000
set_option maxHeartbeats 4000000
namespace M00
def go (d : Int) (ns : List Int) : Int := ns.foldl (fun d v => ((Nat.gcd d.natAbs v.natAbs : Nat) : Int)) d
theorem go_nil (d : Int) : go d [] = d := rfl
theorem go_cons (d x : Int) (ns : List Int) : go d (x :: ns) = go ((Nat.gcd d.natAbs x.natAbs : Nat) : Int) ns := rfl
theorem go_dvd (k : Nat) : ∀ (ns : List Int) (d : Int), k ∣ (go d ns).natAbs ↔ k ∣ d.natAbs ∧ ∀ x ∈ ns, k ∣ x.natAbs
  | [], d => by simp [go_nil]
  | x :: ns, d => by
    rw [go_cons, go_dvd k ns, Int.natAbs_natCast, Nat.dvd_gcd_iff]
    simp [and_assoc]
theorem go_nn : ∀ (ns : List Int) (d : Int), 0 ≤ d → 0 ≤ go d ns
  | [], d, h => h
  | x :: ns, d, _ => by rw [go_cons]; exact go_nn ns _ (Int.natCast_nonneg _)
theorem go_mul (b : Nat) : ∀ (ns : List Int) (d : Int), go ((b : Int) * d) (ns.map ((b : Int) * ·)) = (b : Int) * go d ns
  | [], d => rfl
  | x :: ns, d => by
    rw [List.map_cons, go_cons, go_cons, ← go_mul b ns, Int.natAbs_mul, Int.natAbs_mul, Int.natAbs_natCast, Nat.gcd_mul_left, Int.natCast_mul]
theorem go_zero (d : Int) (h : 0 ≤ d) (ns : List Int) : go d (ns ++ [0]) = go d ns := by
  unfold go
  rw [List.foldl_append]
  show ((Nat.gcd (go d ns).natAbs (0 : Int).natAbs : Nat) : Int) = go d ns
  have := go_nn ns d h
  simp only [Int.natAbs_zero, Nat.gcd_zero_right]
  omega
theorem mod_dvd (x : Int) (k : Nat) (hk : 0 < k) : x % (k : Int) = 0 ↔ k ∣ x.natAbs := by
  rw [← Int.natCast_dvd_natCast, Int.dvd_natAbs]
  exact ⟨Int.dvd_of_emod_eq_zero, Int.emod_eq_zero_of_dvd⟩
def due (ns : List Int) (i : Nat) : Bool := decide (ns.filter (fun x => !decide (x % (20 - (i : Int)) = 0)) = [])
theorem due_iff (ns : List Int) (i : Nat) (hi : i < 20) : due ns i = true ↔ ∀ x ∈ ns, (20 - i) ∣ x.natAbs := by
  unfold due
  rw [decide_eq_true_iff, List.filter_eq_nil_iff]
  have e : (20 : Int) - i = ((20 - i : Nat) : Int) := by omega
  rw [e]
  constructor
  · intro h x hx
    have := h x hx
    simp only [Bool.not_eq_true', decide_eq_false_iff_not, Decidable.not_not] at this
    exact (mod_dvd x _ (by omega)).mp this
  · intro h x hx
    simp only [Bool.not_eq_true', decide_eq_false_iff_not, Decidable.not_not]
    exact (mod_dvd x _ (by omega)).mpr (h x hx)
theorem head_filter {α : Type} (t : Nat → Bool) (f : Nat → α) (n i : Nat) (hi : i < n) (h : t i = true) (no : ∀ j, j < i → t j = false) : (((List.range n).filter t).map f)[0]? = some (f i) := by
  have e : ((List.range n).filter t).head? = some i := by
    rw [List.head?_filter]
    rw [List.find?_range_eq_some]
    exact ⟨h, by simpa using hi, fun j hj => by simp [no j hj]⟩
  rw [List.getElem?_map, ← List.head?_eq_getElem?, e]
  rfl
theorem due_head {α : Type} (f : Int → α) (ns : List Int) (hs : ∀ x ∈ ns, x.natAbs ≤ 20) : ∃ d : Int, 0 < d ∧ d ≤ 20 ∧ (((List.range 20).filter (due ns)).map fun (i : Nat) => f (20 - (i : Int)))[0]? = some (f d) ∧ (if decide (ns.filter (fun x => !decide (x = 0)) = []) = true then 0 else d) = go 0 ns := by
  by_cases z : ns.filter (fun x => !decide (x = 0)) = []
  · have all : ∀ x ∈ ns, x = 0 := by
      intro x hx
      have := List.filter_eq_nil_iff.mp z x hx
      simpa using this
    refine ⟨20, by decide, by decide, ?_, ?_⟩
    · refine head_filter (due ns) (fun (i : Nat) => f (20 - (i : Int))) 20 0 (by decide) ?_ (fun j hj => by omega)
      rw [due_iff _ _ (by decide)]
      intro x hx
      rw [all x hx]
      exact Nat.dvd_zero _
    · rw [if_pos (decide_eq_true z)]
      have : ∀ k : Nat, k ∣ (go 0 ns).natAbs := fun k => (go_dvd k ns 0).mpr ⟨Nat.dvd_zero _, fun x hx => by rw [all x hx]; exact Nat.dvd_zero _⟩
      have h0 := Nat.eq_zero_of_zero_dvd (this 0)
      omega
  · have nn := go_nn ns 0 (by decide)
    obtain ⟨g, hg⟩ : ∃ g : Nat, go 0 ns = g := ⟨(go 0 ns).toNat, by omega⟩
    have dv : ∀ k : Nat, k ∣ g ↔ ∀ x ∈ ns, k ∣ x.natAbs := fun k => by
      have := go_dvd k ns 0
      rw [hg] at this
      simpa using this
    obtain ⟨x, hx, hx0⟩ : ∃ x ∈ ns, x ≠ 0 := by
      apply Classical.byContradiction
      intro no
      apply z
      rw [List.filter_eq_nil_iff]
      intro x hx
      have : x = 0 := Classical.byContradiction fun h => no ⟨x, hx, h⟩
      simp [this]
    have gx : g ∣ x.natAbs := (dv g).mp (Nat.dvd_refl g) x hx
    have g1 : g ≤ 20 := Nat.le_trans (Nat.le_of_dvd (by omega) gx) (hs x hx)
    have g0 : 0 < g := Nat.pos_of_ne_zero fun h => by
      rw [h] at gx
      have := Nat.eq_zero_of_zero_dvd gx
      omega
    refine ⟨g, by omega, by omega, ?_, ?_⟩
    · have := head_filter (due ns) (fun (i : Nat) => f (20 - (i : Int))) 20 (20 - g) (by omega) ?_ ?_
      · rw [this]
        congr 2
        omega
      · rw [due_iff _ _ (by omega)]
        rw [show 20 - (20 - g) = g by omega]
        exact (dv g).mp (Nat.dvd_refl g)
      · intro j hj
        cases q : due ns j with
        | false => rfl
        | true =>
          rw [due_iff _ _ (by omega)] at q
          have := Nat.le_of_dvd g0 ((dv _).mpr q)
          omega
    · rw [if_neg (by simpa using z), hg]
theorem sq_less (r : Nat) (h : 0 < r) : (r - 1) * (r - 1) ≤ r * r - 1 ∧ r * r - 1 < (r - 1 + 1) * (r - 1 + 1) := by
  obtain ⟨s, rfl⟩ : ∃ s, r = s + 1 := ⟨r - 1, by omega⟩
  have : (s + 1) * (s + 1) = s * s + 2 * s + 1 := by rw [Nat.add_mul, Nat.mul_add]; omega
  simp only [Nat.add_sub_cancel]
  omega
end M00
/-! Own rules: == and != by an own __eq__, str by an own __str__, a staticmethod of a class. -/
namespace GS
open PySem PySem.Spec PyProof.Rows L2
section
variable {X : Cx}
theorem notImpl_no {v : V} (h : RelV v Value.notImplemented) : False := by
  cases v with
  | non => cases (show Value.notImplemented = Value.none from h)
  | bl b => cases (show Value.notImplemented = Value.bool b from h)
  | int i => obtain ⟨t, q⟩ := (show ∃ t, Value.notImplemented = Value.int i t from h); cases q
  | str i => obtain ⟨t, q⟩ := (show ∃ t, Value.notImplemented = Value.str i t from h); cases q
  | byt i => obtain ⟨t, q⟩ := (show ∃ t, Value.notImplemented = Value.bytes i t from h); cases q
  | flt i => obtain ⟨t, q⟩ := (show ∃ t, Value.notImplemented = Value.float i t from h); cases q
  | ref a => cases (show Value.notImplemented = Value.ref a from h)
  | ty n => cases (show Value.notImplemented = Value.type n from h)
/-- what a call of the def gives, from any place below the body -/
theorem run_at {CX : CXT} {k : Nat} {f : Addr} {fd : FuncData} {ps : List Str} {sp : Sp} {E : XK} {pins : List (Addr × Obj)} {σ : L2.St} {H : Hp} {s : Shared} {Q : VK} {us : List Value} {vs : List V} {A : Around}
    (F : FnOk X.prog X.w X.K X.mg X.base CX k f fd ps sp) (hr : Room k A) (hA : A.frames = X.A.frames) (hb : Binds X.K fd ps []) (hx : Passes CX X E) (I : Inv X pins σ H s) (r : Vals vs us) (hsp : sp vs H Q E) :
    wpAny (model X.prog X.w) A (call (.ref f) us) (EP X pins σ Q) X.xe s := by
  have e0 : Env0 X.prog X.w X.K X.mg X.base A X.stack s H := by
    have e := I.env0
    exact ⟨by rw [hA]; exact e.frames, e.mod, e.bs, e.bsz, e.funs, e.frf, e.hok, e.bare⟩
  have hl := F.len _ _ _ _ hsp
  refine wpAny_call (codeAny_mono (F.run A X.stack s H ⟨us, []⟩ us vs _ E hr e0 (by
    have := hb s us I.kIn (by rw [List.append_nil, ← r.length]; exact hl)
    simpa using this) r hsp) fun r s' hq => ?_)
  cases r with
  | error e => exact hx pins σ H s e s' I hq
  | ok fl =>
    cases fl with
    | ret w => exact I.after hq
    | next => exact False.elim hq
    | brk => exact False.elim hq
    | cont => exact False.elim hq
/-- x == y by the own __eq__ of x's class; y of any kind -/
def rEqOwn (K : PySem.W.Frag) (C : Addr) (sp : Sp) (E : XK) : R2 := fun x y H Q => ∃ a dx fs t, x = .ref a ∧ H a = some (.ins C dx fs) ∧ TyX K H y t ∧ PySem.W.notFirst K C t = true ∧ sp [x, y] H Q E
theorem op_eqOwn {CX : CXT} {k : Nat} {C f : Addr} {fd : FuncData} {ps : List Str} {sp : Sp} {E : XK} (F : FnOk X.prog X.w X.K X.mg X.base CX k f fd ps sp) (hr : Room k X.A)
    (hs : PySem.W.findIn X.K (.ref C) "__eq__" = some (some (.ref f))) (hf : PySem.W.isFn X.K (.ref f) = true) (hb : Binds X.K fd ps []) (hx : Passes CX X E) : OpR X (compareOp .Eq) (rEqOwn X.K C sp E) := by
  intro pins s σ H x y v u Q I rx ry hq
  obtain ⟨a, dx, fs, t, rfl, ha, ty, hn, hsp⟩ := hq
  cases rx
  obtain ⟨mA, J, _⟩ := ins_get I.hok ha
  obtain ⟨od, J, _⟩ := J.look
  obtain ⟨m, hF⟩ := I.fr
  obtain ⟨P, Z, p, _⟩ := kit_of I ry ty
  show wpAny (model X.prog X.w) X.A (richCompare .Eq (.ref a) u) (EP X pins σ Q) X.xe s
  refine PySem.W.cmp_K (op := .Eq) (tb := t) hr.units0 hF I.ok.mod.kin J (Z.ty _ _ I.kIn p) hn hs hf ?_
  refine wpAny_mono (run_at F hr rfl hb hx I (.cons (show L2.RelV (V.ref a) (Value.ref a) from rfl) (.cons ry .nil)) hsp) (fun v s' hv => ?_) fun _ _ z => z
  cases v <;> first | exact hv | (obtain ⟨w, _, _, z, _⟩ := hv; exact (notImpl_no z).elim)
open Builtin in
theorem objNe_K {A : Around} {s : Shared} {a C f : Addr} {ox : Obj} {od : Option Obj} {u : Value} {E : Value → Shared → Prop} {Q : Fin → Shared → Prop} (hu : A.units < cLine) (XI : X.K.In s.heap) (J : PySem.W.InstAt s.heap a ox C od)
    (hs : PySem.W.findIn X.K (.ref C) "__eq__" = some (some (.ref f))) (hf : PySem.W.isFn X.K (.ref f) = true)
    (hcall : wpAny (model X.prog X.w) A (call (.ref f) [.ref a, u]) (fun v s' => ∃ b, v = .bool b ∧ Q (.done (.ret (.bool (!b)))) s') E s) :
    wpAny (model X.prog X.w) A (Builtin.«object.__ne__» ⟨[.ref a, u], []⟩) Q E s := by
  unfold Builtin.«object.__ne__»
  repeat (first
    | with_reducible refine wpAny_cRoomFor hu ?_
    | (refine wpAny_bind (m := callSpecialIfBound? (.ref a) (Str.ofString "__eq__") [u])
        (PySem.W.ifBound_K XI J hs hf (wpAny_mono hcall (fun r s' hr => by
          obtain ⟨b, rfl, hq⟩ := hr
          repeat (first | exact hq | exact wpAny_pure hq | exact wpAny_truthy_bool hq | (refine wpAny_bind (m := truthy (.bool _)) (wpAny_truthy_bool ?_)) | wp_step)) fun _ _ e => e)))
    | wp_step)
/-- x != y, the class says nothing of != -/
def rNeOwn (K : PySem.W.Frag) (C : Addr) (sp : Sp) (E : XK) : R2 := fun x y H Q => ∃ a dx fs t, x = .ref a ∧ H a = some (.ins C dx fs) ∧ TyX K H y t ∧ PySem.W.notFirst K C t = true ∧ sp [x, y] H (fun v H' => ∃ b, v = .bl b ∧ Q (.bl (!b)) H') E

theorem ifBound_B {M : Model} {A : Around} {s : Shared} {a C : Addr} {ox : Obj} {od : Option Obj} {name : Str} {id : String} {args : List Value} {E : Value → Shared → Prop} {Q : Option Value → Shared → Prop} (XI : X.K.In s.heap) (J : PySem.W.InstAt s.heap a ox C od)
    (hs : PySem.W.findIn X.K (.ref C) name = some (some (.builtin id))) (S : Slot "object" name id) (h : wpAny M A (call (.builtin id) (.ref a :: args)) (fun v => Q (some v)) E s) : wpAny M A (callSpecialIfBound? (.ref a) name args) Q E s := by
  have last : wpAny M A (call (.builtin id) ([.ref a] ++ args) >>= fun v => pure (some v)) Q E s := wpAny_bind (wpAny_mono h (fun _ _ z => wpAny_pure z) fun _ _ z => z)
  simp only [callSpecialIfBound?, bindSpecialIfBound?]
  refine wpAny_holding (wpAny_bind (wpAny_bind (wpAny_bind (J.type.here ((PySem.W.looks_findIn XI hs).here ?_)))))
  simp only [S.bind]
  refine wpAny_bind (wpAny_askSetting (wpAny_ite ?_))
  split
  · exact wpAny_bind (wpAny_pure (wpAny_pure last))
  · exact wpAny_tryCatch (wpAny_bind (wpAny_pure (wpAny_pure last)))
theorem op_neOwn {CX : CXT} {k : Nat} {C f : Addr} {fd : FuncData} {ps : List Str} {sp : Sp} {E : XK} (F : FnOk X.prog X.w X.K X.mg X.base CX k f fd ps sp) (hr : Room (k + 2) X.A) (hn0 : PySem.W.findIn X.K (.ref C) "__ne__" = some (some (.builtin "object.__ne__"))) (hm : PySem.W.mroIn X.K C (.type "object") = some true)
    (hs : PySem.W.findIn X.K (.ref C) "__eq__" = some (some (.ref f))) (hf : PySem.W.isFn X.K (.ref f) = true) (hb : Binds X.K fd ps []) (hx : Passes CX X E) : OpR X (compareOp .NotEq) (rNeOwn X.K C sp E) := by
  intro pins s σ H x y v u Q I rx ry hq
  obtain ⟨a, dx, fs, t, rfl, ha, ty, hn, hsp⟩ := hq
  cases rx
  obtain ⟨mA, J, _⟩ := ins_get I.hok ha
  obtain ⟨od, J, _⟩ := J.look
  obtain ⟨P, Z, p, _⟩ := kit_of I ry ty
  have LU := Z.ty (model X.prog X.w) _ I.kIn p
  have sub : PySem.W.Looks (model X.prog X.w) s.heap (isInstance (.ref a) (.type "object")) true := J.type.andThen (PySem.W.looks_mroIn I.kIn hm)
  have try1 : wpAny (model X.prog X.w) X.A (tryCompare (.ref a) "__ne__" u) (fun r s' => ∃ v, r = some v ∧ EP X pins σ Q v s') X.xe s := by
    unfold tryCompare
    refine wpAny_bind (ifBound_B I.kIn J hn0 PySem.F.cmp_object.ne (wpAny_call (codeAny_call_builtin PySem.F.cmp_object.ne.plain PySem.F.cmpEntry_ne
      (PySem.W.check_slot PySem.F.cmpKind_ne PySem.F.cmpSplit_ne sub (PySem.F.cmpArgs_ne _ _) ?_))))
    refine objNe_K (A := X.A.in1) hr.in1.units0 I.kIn J hs hf ?_
    refine wpAny_mono (run_at F (hr.in1.mono (by omega)) rfl hb hx I (.cons (show L2.RelV (V.ref a) (Value.ref a) from rfl) (.cons ry .nil)) hsp) (fun v s' hv => ?_) fun _ _ z => z
    obtain ⟨z, H', I', rz, b, rfl, q⟩ := hv
    have ev : v = .bool b := rz
    have fin : EP X pins σ Q (.bool (!b)) s' := ⟨.bl (!b), H', I', rfl, q⟩
    refine ⟨b, ev, ?_⟩
    first
      | exact wpAny_pure ⟨_, rfl, fin⟩
      | exact ⟨_, wpAny_pure ⟨_, rfl, fin⟩⟩
      | (show _ ∧ _; exact ⟨by simp, wpAny_pure ⟨_, rfl, fin⟩⟩)
  show wpAny (model X.prog X.w) X.A (richCompare .NotEq (.ref a) u) (EP X pins σ Q) X.xe s
  unfold richCompare
  simp only [oneThing_ref]
  refine wpAny_holding (wpAny_bind (wpAny_cRoomFor hr.units0 (wpAny_bind (J.type.here (wpAny_bind (LU.here ?_))))))
  have fin : ∀ r s', (∃ v, r = some v ∧ EP X pins σ Q v s') → wpAny (model X.prog X.w) X.A (match r with | some v => pure v | none => richCompare .NotEq (.ref a) u) (EP X pins σ Q) X.xe s' := fun r s' ⟨v, e, z⟩ => by subst e; exact wpAny_pure z
  split
  · rename_i q
    have e : PySem.W.subIn X.K t (.ref C) = some false := by
      cases Bool.or_eq_true_iff.mp hn with
      | inl e => rw [beq_iff_eq.mp e] at q; simp at q
      | inr e => exact beq_iff_eq.mp e
    refine wpAny_bind ((PySem.W.looks_subIn I.kIn e).here ?_)
    simp only [Bool.false_eq_true, if_false]
    refine wpAny_bind (wpAny_mono try1 (fun r s' ⟨v, e, z⟩ => ?_) fun _ _ z => z)
    subst e
    exact wpAny_pure z
  · refine wpAny_bind (wpAny_pure ?_)
    simp only [Bool.false_eq_true, if_false]
    refine wpAny_bind (wpAny_mono try1 (fun r s' ⟨v, e, z⟩ => ?_) fun _ _ z => z)
    subst e
    exact wpAny_pure z
/-- str(x) by an own __str__ -/
def rStrOwn (C : Addr) (sp : Sp) (E : XK) : List V → Hp → VK → Prop := fun xs H Q => ∃ a dx fs, xs = [.ref a] ∧ H a = some (.ins C dx fs) ∧ sp xs H (fun v H' => (∃ z, v = .str z) ∧ Q v H') E
theorem call_strOwn {CX : CXT} {k : Nat} {C f : Addr} {fd : FuncData} {ps : List Str} {sp : Sp} {E : XK} (F : FnOk X.prog X.w X.K X.mg X.base CX k f fd ps sp) (hr : Room (k + 2) X.A)
    (hs : PySem.W.findIn X.K (.ref C) "__str__" = some (some (.ref f))) (hf : PySem.W.isFn X.K (.ref f) = true) (hb : Binds X.K fd ps []) (hx : Passes CX X E) : CallR X (.type "str") (rStrOwn C sp E) := by
  intro pins s σ H xs us Q I r hq
  obtain ⟨a, dx, fs, rfl, ha, hsp⟩ := hq
  obtain ⟨u, rfl, ru⟩ := vals1 r
  cases ru
  obtain ⟨mA, J, _⟩ := ins_get I.hok ha
  obtain ⟨od, J, _⟩ := J.look
  refine PySem.W.kso_call hr.in1.in1.units0 I.kIn J hs hf ?_
  refine wpAny_mono (run_at F hr.in1.in1 rfl hb hx I r hsp) (fun v s' hv => ?_) fun _ _ z => z
  obtain ⟨w, H', I', rw', ⟨z, rfl⟩, q⟩ := hv
  obtain ⟨tk, e⟩ := rw'
  subst e
  exact ⟨.str z, H', I', ⟨tk, rfl⟩, q⟩
/-! ### a staticmethod of a class -/
structure SMet (K : PySem.W.Frag) (C : Addr) (mc : Value) (m : Str) (p g : Addr) : Prop where
  at_ : PySem.W.findCls K (.ref C) mc m = some (.get (.builtin "staticmethod.__get__") (.ref p) .none (.ref C))
  rc : ∃ rest, PySem.W.recIn K p "staticmethod" = some (.ref g :: rest)
def tSMeth (C : Addr) (sp : Sp) (E : XK) (ta : TE) (t : TA) : TE := fun σ H Q => ta σ H fun x H1 => x = .ref C ∧ t σ H1 fun vs H2 => sp vs H2 Q E
theorem pe_smeth {CX : CXT} {k : Nat} {C p g : Addr} {mc : Value} {fd : FuncData} {ps : List Str} {sp : Sp} {E : XK} {o e : Expr} {es : List Expr} {m : Str} {pos apos : Pos} {ta : TE} {t : TA} {pl : Sem Bool}
    (he : PE X o ta) (r : ClX.CRead X.K C mc) (c : SMet X.K C mc m p g) (F : FnOk X.prog X.w X.K X.mg X.base CX k g fd ps sp) (hk : PySem.W.keepIn X.K (.ref g) = true) (hr : Room k X.A) (hb : Binds X.K fd ps []) (hx : Passes CX X E) (ha : PA X (e :: es) t)
    (hst : starEach (e :: es) X.env = (false, eval e X.env) :: starEach es X.env := by rfl) (hpl : (backTo pos (starEach es X.env)).any (·.1) = false := by rfl)
    (ht : eval (.Call (.Attribute o m apos) (e :: es) [] pos) X.env = (do let ov ← eval o X.env; standAt apos.atName; let (f, first) ← holding [ov] (getMethod ov m pl); callWith pos f first (backTo pos (starEach (e :: es) X.env)) (backToKw pos (keywordEach [] X.env))) := by rfl) :
    PE X (.Call (.Attribute o m apos) (e :: es) [] pos) (tSMeth C sp E ta t) := by
  refine ⟨fun pins s σ H Q I h => PySem.W.methodCall_KW (pl := pl) (thn (he.run pins s σ H _ I h) fun u s1 ⟨x, H1, I1, rx, ex, q⟩ => ?_) ht⟩
  subst ex
  obtain rfl : u = Value.ref C := rx
  obtain ⟨rest, hp⟩ := c.rc
  refine PySem.W.method_cls I1.kIn r.ga (PySem.W.cls_bind I1.kIn r.rd c.at_ (wpAny_call (PySem.W.sm_get (s := { s1 with toks := s1.toks + 1 }) I1.kIn hp (PySem.W.handed_on rfl ?_))))
  have I2 := I1.tok (s1.toks + 1)
  refine PySem.W.callWith_K (h₀ := X.base) I2.ok.mod.kin hk (thn (ha.run pos pins _ σ H1 _ I2 q) fun us s3 ⟨vs, H2, I3, rv, q2⟩ => ⟨I3.kIn, ?_⟩) hst hpl
  exact run_at F hr rfl hb hx I3 rv q2
end
end GS
/-! Own rule: several except clauses, each with or without «as n». -/
namespace GS
open PySem PySem.Spec PyProof.Rows L2
abbrev Cl := Value × Option Nat × (Addr → Value → Option Addr → TS)
/-- the ends and the slots of a suite whose error's name has slot i -/
def asEnds (i : Nat) (D : Ends) : Ends := { nx := fun σ' H' => D.nx (σ'.set i none) H', rt := D.rt, bk := fun σ' H' => D.bk (σ'.set i none) H', ct := fun σ' H' => D.ct (σ'.set i none) H' }
def wCl (D : Ends) (q : Cl) (a : Addr) (cls : Value) (d : Option Addr) (σ : L2.St) (H : Hp) : Prop := match q.2.1 with
  | none => q.2.2 a cls d D σ H
  | some i => q.2.2 a cls d (asEnds i D) (σ.set i (some (.ref a))) H
def wCls (K : PySem.W.Frag) (Wout : WX) (D : Ends) : List Cl → WX
  | [] => Wout
  | q :: r => fun cls d σ H => ∃ b, PySem.W.exmOne K cls q.1 = some b ∧ (b = true → ∀ a, H a = none → wCl D q a cls d σ H) ∧ (b = false → wCls K Wout D r cls d σ H)
/-- one clause is as it is told -/
inductive ClOk (X : Cx) : ExceptHandler → Cl → Prop
  | bare {x : Str} {c : Value} {ts : Addr → Value → Option Addr → TS} {st : Stmt} {sts : List Stmt} {np pos' : Pos} (hc : Names X x c)
      (su : ∀ (a : Addr) (oe : Obj) (cls : Value) (d : Option Addr) (pn : List (Addr × Obj)), Zc cls d oe → (∃ vs, oe.data = .fields vs) → PSs (X.suite a ((a, oe) :: pn)) (st :: sts) (ts a cls d)) :
      ClOk X (.ExceptHandler (some (.Name x np)) none (st :: sts) pos') (c, none, ts)
  | as {x n : Str} {c : Value} {ts : Addr → Value → Option Addr → TS} {st : Stmt} {sts : List Stmt} {np pos' : Pos} {i : Nat} (hc : Names X x c) (hN : X.N.Nodup) (hi : X.N[i]? = some n) (hln : X.env.kindOf n = some .local)
      (su : ∀ (a : Addr) (oe : Obj) (cls : Value) (d : Option Addr) (pn : List (Addr × Obj)), Zc cls d oe → (∃ vs, oe.data = .fields vs) → PSs (X.suite a ((a, oe) :: pn)) (st :: sts) (ts a cls d)) :
      ClOk X (.ExceptHandler (some (.Name x np)) (some n) (st :: sts) pos') (c, some i, ts)
inductive ClsOk (X : Cx) : List ExceptHandler → List Cl → Prop
  | nil : ClsOk X [] []
  | cons {h : ExceptHandler} {q : Cl} {hs : List ExceptHandler} {qs : List Cl} (o : ClOk X h q) (r : ClsOk X hs qs) : ClsOk X (h :: hs) (q :: qs)

/-- the frame holds the error at a; sI: the body's last state -/
structure Caught (X : Cx) (pins : List (Addr × Obj)) (σ : L2.St) (H : Hp) (a : Addr) (B : Heap) (cls : Value) (d : Option Addr) (sI s : Shared) : Prop where
  inv : Inv X pins σ H sI
  nb : ∀ (b : Addr) (o : Obj), sI.heap.get? b = some o → ¬b ∈ frs X.stack → B.get? b = some o
  up : sI.heap.UpToSlots s.heap
  na : H a = none
  os : s.os = sI.os
  ag : AllBare s.gens
  fl : PySem.HandSPX.FlyingZ B (X.env :: X.outer) a (Zc cls d) s.heap
section
variable {X : Cx} {pins : List (Addr × Obj)} {σ : L2.St} {H : Hp} {s sI : Shared} {a : Addr} {B : Heap} {cls : Value} {d : Option Addr} {D : Ends} {Wout : WX}
theorem Caught.here (c : Caught X pins σ H a B cls d sI s) : Inv X pins σ H s := c.inv.landed c.nb c.fl.1 c.up c.os c.ag
theorem Caught.off (c : Caught X pins σ H a B cls d sI s) (hf : X.env.frame = some X.env.locals) : a ≠ X.env.locals ∧ ¬ a ∈ X.fs := by
  obtain ⟨oe, vs, e1, _, e3⟩ := c.fl.there
  have none_of : ∀ b, b ∈ frs (X.env :: X.outer) → b ≠ a := fun b hb z => by
    obtain ⟨_, o, ho, hnf⟩ := c.fl.2.2.1.mem hb
    rw [z, e1] at ho
    exact hnf vs (by rw [← Option.some.inj ho]; exact e3)
  refine ⟨fun z => none_of a ?_ rfl, fun z => none_of a ?_ rfl⟩
  · rw [z]; exact List.mem_filterMap.mpr ⟨X.env, List.mem_cons_self, hf⟩
  · obtain ⟨e, he, q⟩ := List.mem_filterMap.mp z
    exact List.mem_filterMap.mpr ⟨e, List.mem_cons_of_mem _ he, q⟩
/-- it flies again -/
theorem Caught.again {M : Model} {A : Around} {E : Value → Shared → Prop} {Q : Unit → Shared → Prop} (c : Caught X pins σ H a B cls d sI s) (k : ∀ s', Caught X pins σ H a B cls d sI s' → Q () s') : wpAny M A (setFlight (.ref a) none) Q E s :=
  PySem.HandSPX.lands_againZ c.fl fun h' f u => k _ ⟨c.inv, c.nb, c.up.trans u, c.na, c.os, c.ag, f⟩
/-- a suite, from what its reading says, to the ends -/
theorem Caught.suite {M : Model} (c : Caught X pins σ H a B cls d sI s) (hf : X.env.frame = some X.env.locals) : ∃ oe, Zc cls d oe ∧ (∃ vs, oe.data = .fields vs) ∧ Inv (X.suite a ((a, oe) :: (X.pn ++ pins))) [] σ H s := by
  obtain ⟨oe, vs, e1, e2, e3⟩ := c.fl.there
  obtain ⟨n1, n2⟩ := c.off hf
  exact ⟨oe, e2, ⟨vs, e3⟩, c.here.suite e1 e3 c.na n1 n2⟩
/-- the class named in a clause, evaluated -/
theorem names_eval {x : Str} {c0 : Value} {np : Pos} {Q : Value → Shared → Prop} {E : Value → Shared → Prop} (c : Caught X pins σ H a B cls d sI s) (hf : X.env.frame = some X.env.locals) (hc : Names X x c0) (q : Q c0 s) :
    wpAny (model X.prog X.w) (X.A.mark (some (.ref a))) (eval (.Name x np) X.env) Q E s := by
  obtain ⟨oe, _, _, S⟩ := c.suite (M := model X.prog X.w) hf
  obtain ⟨hg, hdb, hh⟩ := hc
  cases hh with
  | inl hm => exact ld_glob (X := X.suite a ((a, oe) :: (X.pn ++ pins))) S hg hm q hdb
  | inr hm => exact ld_blt (X := X.suite a ((a, oe) :: (X.pn ++ pins))) S hg hm.1 hm.2.1 q hm.2.2 hdb
theorem clauses {hs : List ExceptHandler} {qs : List Cl} (k : ClsOk X hs qs) (hst : X.stack = X.env :: X.outer) (hf : X.env.frame = some X.env.locals) (tk : Takes X Wout) :
    ∀ {s : Shared}, Caught X pins σ H a B cls d sI s → wCls X.K Wout D qs cls d σ H → wpAny (model X.prog X.w) X.A (handleBy (.ref a) X.env hs) (SP X pins D) X.xe s := by
  induction k with
  | nil =>
    intro s c w
    refine wpAny_handleBy_nil ?_
    obtain ⟨k1, k2, k3, oe, vs, T, oT, ts', he, hz, hd, h1, hr⟩ := id c.fl
    have out : wpAny (model X.prog X.w) X.A (setFlight (.ref a) X.env.frame) (fun _ s4 => wpAny (model X.prog X.w) X.A (throw (.ref a) : Sem Flow) (SP X pins D) X.xe s4) X.xe s := by
      rw [hf]
      exact PySem.HandSPX.setFlight_upZ c.fl fun h4 hh4 up4 => wpAny_throw (tk _ _ ⟨a, B, sI, pins, σ, H, cls, d, rfl, c.inv, c.nb, c.up.trans up4, .inr (.inr (by rw [hst]; exact hh4)), c.na, c.os, c.ag, w⟩)
    unfold PySem.passOn
    refine wpAny_bind (wpAny_field he hd h1 ?_)
    rw [if_neg (show ¬ ((Value.ref T == Value.none) = true) from by simp)]
    first
      | exact wpAny_bind (wpAny_pure (wpAny_bind out))
      | exact wpAny_bind out
  | @cons h q hs qs o r ih =>
    intro s c w
    obtain ⟨b, hb1, hyes, hno⟩ := w
    obtain ⟨oe0, vs0, e01, e02, e03⟩ := c.fl.there
    have LT : PySem.W.Looks (model X.prog X.w) s.heap (typeOf (.ref a)) cls := fun A Q E s' kk z => wpAny_typeOf_ref (kk _ _ e01) (by rw [e02.1]; exact z)
    have LM := PySem.W.exm_one (M := model X.prog X.w) c.here.kIn LT hb1
    cases o with
    | bare hc su =>
      refine wpAny_handleBy_cons (codeAny_handlers_test ?_) (by intro q; cases q)
      refine names_eval c hf hc (LM.here ?_)
      cases b with
      | false => exact ih c (hno rfl)
      | true =>
        refine codeAny_handlers_suite (c.again fun s4 c4 => ?_)
        obtain ⟨oe, z1, z2, S⟩ := c4.suite (M := model X.prog X.w) hf
        have ok := c4.here.ok
        refine wpAny_mono ((su a oe cls d (X.pn ++ pins) z1 z2).run [] _ _ H _ S (hyes rfl a c.na)) (fun f s6 hsp => ?_) (fun _ _ z => False.elim z)
        cases f with
        | next => exact let ⟨σ6, H6, S6, q6⟩ := hsp; ⟨_, _, S6.unsuite ok, q6⟩
        | brk => exact let ⟨σ6, H6, S6, q6⟩ := hsp; ⟨_, _, S6.unsuite ok, q6⟩
        | cont => exact let ⟨σ6, H6, S6, q6⟩ := hsp; ⟨_, _, S6.unsuite ok, q6⟩
        | ret u => exact let ⟨v6, σ6, H6, S6, r6, q6⟩ := hsp; ⟨_, _, _, S6.unsuite ok, r6, q6⟩
    | @as x n c0 ts st sts np pos' i hc hN hi hln su =>
      refine wpAny_handleBy_cons (codeAny_handlers_test ?_) (by intro q; cases q)
      refine names_eval c hf hc (LM.here ?_)
      cases b with
      | false => exact ih c (hno rfl)
      | true =>
        refine codeAny_handlers_suite_as (c.again fun s4 c4 => ?_)
        obtain ⟨oe, z1, z2, S⟩ := c4.suite (M := model X.prog X.w) hf
        have ok := c4.here.ok
        refine store_ok (X := X.suite a ((a, oe) :: (X.pn ++ pins))) (v := .ref a) S hN hi (.inl hln) rfl (fun s5 S5 => ?_) (.inr hln)
        refine wpAny_mono ((su a oe cls d (X.pn ++ pins) z1 z2).run [] s5 _ H (asEnds i D) S5 (hyes rfl a c.na)) (fun f s6 hsp => ?_) (fun _ _ z => False.elim z)
        cases f with
        | next => exact let ⟨σ6, H6, S6, q6⟩ := hsp; gone_ok (S6.unsuite ok) hN hi hln fun s7 J7 => ⟨_, _, J7, q6⟩
        | brk => exact let ⟨σ6, H6, S6, q6⟩ := hsp; gone_ok (S6.unsuite ok) hN hi hln fun s7 J7 => ⟨_, _, J7, q6⟩
        | cont => exact let ⟨σ6, H6, S6, q6⟩ := hsp; gone_ok (S6.unsuite ok) hN hi hln fun s7 J7 => ⟨_, _, J7, q6⟩
        | ret u => exact let ⟨v6, σ6, H6, S6, r6, q6⟩ := hsp; gone_ok (S6.unsuite ok) hN hi hln fun s7 J7 => ⟨_, _, _, J7, r6, q6⟩
/-- THE RULE: try .. except A as x: .. except B: .. -/
theorem ps_try_cls {body : List Stmt} {h₀ : ExceptHandler} {hds : List ExceptHandler} {qs : List Cl} {pos : Pos} {tb : WX → TS} (hst : X.stack = X.env :: X.outer) (hf : X.env.frame = some X.env.locals) (tk : Takes X Wout)
    (hb : ∀ (W : WX) (pn : List (Addr × Obj)) (xe : Value → Shared → Prop), Takes (X.tr pn xe) W → PassesOwn (model X.prog X.w) X.A X.env xe → PSs (X.tr pn xe) body (tb W)) (hh : ClsOk X (h₀ :: hds) qs) :
    PS X (.Try body (h₀ :: hds) [] [] pos) (fun D σ H => tb (wCls X.K Wout D qs) D σ H) := by
  refine ⟨fun pins s σ H D I h => wpAny_Try_except ?_⟩
  have ok := I.ok
  have fr : X.A.frames = some (X.env :: X.outer) := by rw [ok.frames, hst]
  have B0 := hb (wCls X.K Wout D qs) (X.pn ++ pins) (fun e s₁ => wpAny (model X.prog X.w) X.A (noteFrame e X.env) (fun _ s₂ => wpAny (model X.prog X.w) X.A (setFlight e none) (fun _ s₃ => wpAny (model X.prog X.w) X.A (handleBy e X.env (h₀ :: hds)) (SP X pins D) X.xe s₃) X.xe s₂) X.xe s₁)
    (fun u s' xx => by
      obtain ⟨a, B, sI, pins', σ', H', cls, d, rfl, J', nb, up, sky, na, os, ag, w⟩ := xx
      refine Sky.land Zc.steady fr hf (show Sky B (X.env :: X.outer) a (Zc cls d) X.env.locals s'.heap by rw [← hst]; exact sky) fun h3 fl3 up3 => ?_
      exact clauses hh hst hf tk ⟨J'.ofTry ok, nb, up.trans up3, na, os, ag, fl3⟩ w) PassesOwn.looking
  refine wpAny_mono (B0.run [] s σ H D (I.toTry _) h) (fun f s1 hsp => ?_) (fun _ _ z => z)
  cases f with
  | next => exact let ⟨σ', H', J', q⟩ := hsp; wpAny_execs_nil ⟨σ', H', J'.ofTry ok, q⟩
  | brk => exact let ⟨σ', H', J', q⟩ := hsp; ⟨σ', H', J'.ofTry ok, q⟩
  | cont => exact let ⟨σ', H', J', q⟩ := hsp; ⟨σ', H', J'.ofTry ok, q⟩
  | ret u => exact let ⟨v, σ', H', J', r, q⟩ := hsp; ⟨v, σ', H', J'.ofTry ok, r, q⟩
end
end GS
/-! What the head tells: a list of Bools of the written part, and the defs. -/
namespace GS
open PySem PySem.W PySem.Calls PyProof.Rows He
abbrev Chk := PySem.W.Frag → Bool
def obsM (fa : List He.Fa) (ex : List Chk) (fn : List He5.DefA) (K : PySem.W.Frag) : He.AlD := ((fa.all fun f => f.ok K) && ((ex.all fun f => f K) && fn.all fun d => d.ok K), fn.map fun d => He5.fnA K (d.at_ K))
def SaysM (fa : List He.Fa) (ex : List Chk) (fn : List He5.DefA) (K : PySem.W.Frag) : Prop := obsM fa ex fn K = He5.valA fn
def obsMG (n : Nat) (fa : List He.Fa) (ex : List Chk) (fn : List He5.DefA) (g : Addr → Option Obj) : He.AlD := obsM fa ex fn (frG g (He5.asA g n))
def hookM (n : Nat) (fa : List He.Fa) (ex : List Chk) (fn : List He5.DefA) : PySem.W.Hook where
  α := He.AlD
  obs s := obsMG n fa ex fn s.heap.get?
  val _ := He5.valA fn
  says _ h := ∃ K : PySem.W.Frag, K.In h ∧ SaysM fa ex fn K
  of _ _ e := ⟨_, frG_in, e⟩
  keeps := fun _ _ _ ⟨K, i, c⟩ k => ⟨K, Frag.In.keeps i k, c⟩
theorem obsMG_eq {n : Nat} {fa : List He.Fa} {ex : List Chk} {fn : List He5.DefA} {g : Addr → Option Obj} {s : Shared} (h : ∀ a, g a = s.heap.get? a) : obsMG n fa ex fn g = (hookM n fa ex fn).obs s := by
  obtain rfl : g = s.heap.get? := funext h
  rfl
section
variable {fa : List He.Fa} {ex : List Chk} {fn : List He5.DefA} {K : PySem.W.Frag}
theorem SaysM.fst (c : SaysM fa ex fn K) : (∀ f ∈ fa, f.ok K = true) ∧ (∀ f ∈ ex, f K = true) ∧ ∀ d ∈ fn, d.ok K = true := by
  have e : ((fa.all fun f => f.ok K) && ((ex.all fun f => f K) && fn.all fun d => d.ok K)) = true := congrArg (fun z : He.AlD => z.1) c
  obtain ⟨h1, h2⟩ := ba e
  obtain ⟨h3, h4⟩ := ba h2
  exact ⟨List.all_eq_true.mp h1, List.all_eq_true.mp h3, List.all_eq_true.mp h4⟩
theorem SaysM.fact (c : SaysM fa ex fn K) (i : Nat) {f : He.Fa} (h : fa[i]? = some f := by rfl) : f.ok K = true := c.fst.1 f (List.mem_of_getElem? h)
theorem SaysM.chk (c : SaysM fa ex fn K) (i : Nat) {f : Chk} (h : ex[i]? = some f := by rfl) : f K = true := c.fst.2.1 f (List.mem_of_getElem? h)
theorem SaysM.def_ (c : SaysM fa ex fn K) (i : Nat) {d : He5.DefA} (h : fn[i]? = some d := by rfl) : ∃ fd, L2.FunD K d.name d.qual d.params d.body d.scope (d.dvs K) (d.kws K) (d.at_ K) fd := by
  have e : fn.map (fun d => He5.fnA K (d.at_ K)) = fn.map He5.DefA.val := congrArg (fun z : He.AlD => z.2) c
  have e2 := congrArg (fun l => l[i]?) e
  simp only [List.getElem?_map, h, Option.map_some, Option.some.injEq] at e2
  exact He5.DefA.funD e2 (c.fst.2.2 d (List.mem_of_getElem? h))
end
/-! ### classes of errors -/
def oexB (K : PySem.W.Frag) (C : Addr) : Bool := (match K.lookup C with
    | some ⟨.type t, _, .cls cd, sl⟩ => (match cd.mro, sl.toList with
      | .ref c :: bm, [_, _, _, _, some (.builtin n), _] => decide (t = "type") && (decide (c = C) && (decide (n = "ValueError.__new__") && (!cd.hasDel && (cd.hasDict && PySem.HandSPX.refsVE bm))))
      | _, _ => false)
    | _ => false) && (eqO (findIn K (.ref C) "__setattr__") (some (some (.builtin "object.__setattr__"))) && (decide (subIn K (.ref C) (.type "BaseException") = some true) && (decide (typeIn K (.ref C) = some (.type "type")) && keepIn K (.ref C))))
theorem oexB_ok {K : PySem.W.Frag} {C : Addr} (h : oexB K C = true) : L2.OexC K C := by
  obtain ⟨h0, h⟩ := ba h
  obtain ⟨h1, h⟩ := ba h
  obtain ⟨h2, h⟩ := ba h
  obtain ⟨h3, h4⟩ := ba h
  refine ⟨?_, eqO_ok h1, of_decide_eq_true h2, of_decide_eq_true h3, h4⟩
  clear h1 h2 h3 h4 h
  split at h0
  · rename_i t dd cd sl ho
    split at h0
    · rename_i c bm k0 k1 k2 k3 n k5 hm hs
      obtain ⟨a1, a⟩ := ba h0
      obtain ⟨a2, a⟩ := ba a
      obtain ⟨a3, a⟩ := ba a
      obtain ⟨a4, a⟩ := ba a
      obtain ⟨a5, a6⟩ := ba a
      obtain ⟨nm, bs, mro, ns, qn, hd, sn, sub, ab, col, del⟩ := cd
      obtain ⟨l⟩ := sl
      dsimp only at hm hs a4 a5
      subst hm hs a5
      obtain rfl := of_decide_eq_true a1
      obtain rfl := of_decide_eq_true a2
      obtain rfl := of_decide_eq_true a3
      have a4' : del = false := by simpa using a4
      subst a4'
      exact ⟨nm, qn, ns, bs, bm, sn, sub, ab, col, dd, k0, k1, k2, k3, k5, ho, a6⟩
    · cases h0
  · cases h0
/-- an error class X with the fields fs: made by its own __init__, caught by the classes yes, not by the classes no; its fields are read -/
def errB (x : PySem.Str) (fs : List PySem.Str) (yes no : List PySem.Str) : Chk := fun K => oexB K (ga K x) && (L2.xfB K (ga K x) && ((fs.all fun f => eqO (findIn K (.ref (ga K x)) f) (some none)) &&
  ((yes.all fun y => decide (exmOne K (.ref (ga K x)) (.ref (ga K y)) = some true)) && ((no.all fun y => decide (exmOne K (.ref (ga K x)) (.ref (ga K y)) = some false)) &&
    (eqO (findIn K (.ref (ga K x)) "__init__") (some (some (.ref (ma K (ga K x) "__init__")))) && decide (typeIn K (.ref (ma K (ga K x) "__init__")) = some (.type "function")))))))
structure ErrC (K : PySem.W.Frag) (x : PySem.Str) (fs yes no : List PySem.Str) : Prop where
  o : L2.OexC K (ga K x)
  xf : L2.XfC K (ga K x)
  no_ : ∀ f ∈ fs, findIn K (.ref (ga K x)) f = some none
  y : ∀ c ∈ yes, exmOne K (.ref (ga K x)) (.ref (ga K c)) = some true
  n : ∀ c ∈ no, exmOne K (.ref (ga K x)) (.ref (ga K c)) = some false
  i : findIn K (.ref (ga K x)) "__init__" = some (some (.ref (ma K (ga K x) "__init__")))
  t : typeIn K (.ref (ma K (ga K x) "__init__")) = some (.type "function")
theorem errB_ok {K : PySem.W.Frag} {x : PySem.Str} {fs yes no : List PySem.Str} (h : errB x fs yes no K = true) : ErrC K x fs yes no := by
  obtain ⟨h1, h⟩ := ba h
  obtain ⟨h2, h⟩ := ba h
  obtain ⟨h3, h⟩ := ba h
  obtain ⟨h4, h⟩ := ba h
  obtain ⟨h5, h⟩ := ba h
  obtain ⟨h6, h7⟩ := ba h
  exact ⟨oexB_ok h1, L2.xfB_ok h2, fun f hf => eqO_ok (List.all_eq_true.mp h3 f hf), fun f hf => of_decide_eq_true (List.all_eq_true.mp h4 f hf), fun f hf => of_decide_eq_true (List.all_eq_true.mp h5 f hf), eqO_ok h6, of_decide_eq_true h7⟩
/-! ### own classes -/
/-- a class whose instances are asked by isinstance; values of built-in types are none of it, and it is none of them -/
def clsB (x : PySem.Str) (tys : List String) : Chk := fun K => eqO (findIn K (.ref (ga K x)) "__class__") (some (some (.builtin "object.__class__"))) && (decide (mroIn K (ga K x) (.type "object") = some true) &&
  ((tys.all fun t => decide (kitOne K (.type t) (.ref (ga K x)) = some false) && (decide (kitOne K (.ref (ga K x)) (.type t) = some false) && notFirst K (ga K x) (.type t))) &&
    (decide (kitOne K (.ref (ga K x)) (.ref (ga K x)) = some true) && notFirst K (ga K x) (.ref (ga K x)))))
structure ClsC (K : PySem.W.Frag) (x : PySem.Str) (tys : List String) : Prop where
  ha : findIn K (.ref (ga K x)) "__class__" = some (some (.builtin "object.__class__"))
  hm : mroIn K (ga K x) (.type "object") = some true
  ty : ∀ t ∈ tys, kitOne K (.type t) (.ref (ga K x)) = some false ∧ kitOne K (.ref (ga K x)) (.type t) = some false ∧ notFirst K (ga K x) (.type t) = true
  me : kitOne K (.ref (ga K x)) (.ref (ga K x)) = some true
  nf : notFirst K (ga K x) (.ref (ga K x)) = true
theorem clsB_ok {K : PySem.W.Frag} {x : PySem.Str} {tys : List String} (h : clsB x tys K = true) : ClsC K x tys := by
  obtain ⟨h1, h⟩ := ba h
  obtain ⟨h2, h⟩ := ba h
  obtain ⟨h3, h⟩ := ba h
  obtain ⟨h4, h5⟩ := ba h
  refine ⟨eqO_ok h1, of_decide_eq_true h2, fun t ht => ?_, of_decide_eq_true h4, h5⟩
  obtain ⟨a, b⟩ := ba (List.all_eq_true.mp h3 t ht)
  obtain ⟨b, c⟩ := ba b
  exact ⟨of_decide_eq_true a, of_decide_eq_true b, c⟩
/-- what holds of every program: how __class__ is read -/
def topB : Chk := fun K => eqO (specialIn K (.builtin "object.__class__") "__get__") (some (some (.builtin "getset_descriptor.__get__"))) && decide (takesIn K (.builtin "object.__class__") = some true)
/-- the class says nothing of != -/
def neB (x : PySem.Str) : Chk := fun K => eqO (findIn K (.ref (ga K x)) "__ne__") (some (some (.builtin "object.__ne__")))
/-- a staticmethod -/
def smB (x m : PySem.Str) : Chk := fun K => He5.wrapB K (ga K x) "staticmethod" "staticmethod.__get__" m && (readsIn K (ga K x) (.type "type") && (eqO (specialIn K (.ref (ga K x)) "__getattribute__") (some (some (.builtin "type.__getattribute__"))) && keepIn K (.ref (He5.wf K (ga K x) "staticmethod" m))))
theorem smB_ok {K : PySem.W.Frag} {x m : PySem.Str} (h : smB x m K = true) : SMet K (ga K x) (.type "type") m (ma K (ga K x) m) (He5.wf K (ga K x) "staticmethod" m) ∧ ClX.CRead K (ga K x) (.type "type") ∧ keepIn K (.ref (He5.wf K (ga K x) "staticmethod" m)) = true := by
  obtain ⟨h1, h⟩ := ba h
  obtain ⟨h2, h⟩ := ba h
  obtain ⟨h3, h4⟩ := ba h
  obtain ⟨a, b⟩ := He5.wrapB_ok h1
  exact ⟨⟨a, b⟩, ⟨h2, eqO_ok h3⟩, h4⟩
end GS
/-! Readings, step by step: one lemma a construct, and a step tactic. -/
namespace GS
open PySem PySem.Spec PyProof.Rows L2

/-! ### promises by the number of arguments -/
def sp1 (S : V → Hp → VK → XK → Prop) : Sp := fun vs H Q E => match vs with | [a] => S a H Q E | _ => False
def sp2 (S : V → V → Hp → VK → XK → Prop) : Sp := fun vs H Q E => match vs with | [a, b] => S a b H Q E | _ => False
def sp3 (S : V → V → V → Hp → VK → XK → Prop) : Sp := fun vs H Q E => match vs with | [a, b, c] => S a b c H Q E | _ => False
def sp4 (S : V → V → V → V → Hp → VK → XK → Prop) : Sp := fun vs H Q E => match vs with | [a, b, c, d] => S a b c d H Q E | _ => False
theorem sp1_len {S : V → Hp → VK → XK → Prop} : ∀ vs H Q E, sp1 S vs H Q E → vs.length = 1 := fun vs _ _ _ h => match vs, h with | [_], _ => rfl
theorem sp2_len {S : V → V → Hp → VK → XK → Prop} : ∀ vs H Q E, sp2 S vs H Q E → vs.length = 2 := fun vs _ _ _ h => match vs, h with | [_, _], _ => rfl
theorem sp3_len {S : V → V → V → Hp → VK → XK → Prop} : ∀ vs H Q E, sp3 S vs H Q E → vs.length = 3 := fun vs _ _ _ h => match vs, h with | [_, _, _], _ => rfl
theorem sp4_len {S : V → V → V → V → Hp → VK → XK → Prop} : ∀ vs H Q E, sp4 S vs H Q E → vs.length = 4 := fun vs _ _ _ h => match vs, h with | [_, _, _, _], _ => rfl
theorem sp1_is {S : V → Hp → VK → XK → Prop} {vs H Q E} (h : sp1 S vs H Q E) : ∃ a, vs = [a] ∧ S a H Q E := match vs, h with | [a], h => ⟨a, rfl, h⟩
theorem sp2_is {S : V → V → Hp → VK → XK → Prop} {vs H Q E} (h : sp2 S vs H Q E) : ∃ a b, vs = [a, b] ∧ S a b H Q E := match vs, h with | [a, b], h => ⟨a, b, rfl, h⟩
theorem sp3_is {S : V → V → V → Hp → VK → XK → Prop} {vs H Q E} (h : sp3 S vs H Q E) : ∃ a b c, vs = [a, b, c] ∧ S a b c H Q E := match vs, h with | [a, b, c], h => ⟨a, b, c, rfl, h⟩
theorem sp4_is {S : V → V → V → V → Hp → VK → XK → Prop} {vs H Q E} (h : sp4 S vs H Q E) : ∃ a b c d, vs = [a, b, c, d] ∧ S a b c d H Q E := match vs, h with | [a, b, c, d], h => ⟨a, b, c, d, rfl, h⟩

/-! ### heaps that grow -/
def Ex (H H' : Hp) : Prop := ∀ a o, H a = some o → H' a = some o
theorem Ex.refl (H : Hp) : Ex H H := fun _ _ h => h
theorem Ex.trans {H H1 H2 : Hp} (a : Ex H H1) (b : Ex H1 H2) : Ex H H2 := fun x o h => b x o (a x o h)
theorem Ex.new {H : Hp} {p : Addr} {o : HO} (h : H p = none) : Ex H (upd H p o) := fun a u e => by rw [upd_ne (ne_of_none e h)]; exact e
theorem Ex.get {H H' : Hp} {a : Addr} {o : HO} (e : Ex H H') (h : H a = some o) : H' a = some o := e _ _ h
theorem Ex.free {H H' : Hp} {p : Addr} (e : Ex H H') (h : H' p = none) : H p = none := by
  cases q : H p with
  | none => rfl
  | some o => rw [e _ _ q] at h; cases h
theorem Ex.sql {K : PySem.W.Frag} {H H' : Hp} {a : Addr} {xs : List V} (e : Ex H H') (h : SqL K H a xs) : SqL K H' a xs := Same.seq e h
theorem Ex.sqt {K : PySem.W.Frag} {H H' : Hp} {a : Addr} {xs : List V} (e : Ex H H') (h : SqT K H a xs) : SqT K H' a xs := SqT.ext h e
/-- the heap without what stands at b -/
def wo (H : Hp) (b : Addr) : Hp := fun a => if a = b then none else H a
theorem wo_ex (H : Hp) (b : Addr) : Ex (wo H b) H := fun a o h => by
  unfold wo at h
  split at h
  · cases h
  · exact h
theorem Ex.wo {H H' : Hp} (b : Addr) (e : Ex H H') : Ex (wo H b) (wo H' b) := fun a o h => by
  unfold GS.wo at h ⊢
  split at h
  · cases h
  · rename_i n
    rw [if_neg n]
    exact e _ _ h
theorem wo_at {H : Hp} {a b : Addr} {o u : HO} (h : H a = some o) (hb : H b = some u) (n : o ≠ u) : wo H b a = some o := by
  unfold wo
  rw [if_neg (ne_of h hb n)]
  exact h
theorem wo_upd {H : Hp} {b : Addr} {o : HO} : wo (upd H b o) b = wo H b := by
  funext a
  unfold wo upd
  split <;> rfl

/-- what is wished of a new instance -/
def mkK (C : Addr) (sp : Sp) (E : XK) (Q : VK) : List V → Hp → Prop := fun vs H1 => ∀ x dx, H1 x = none → H1 dx = none → dx ≠ x → sp (.ref x :: (vs ++ [])) (upd (upd H1 dx (.own x)) x (.ins C dx [])) (fun v H2 => v = .non ∧ Q (.ref x) H2) E
/-- what is wished of a new tuple, a new list -/
def newT (Q : VK) : List V → Hp → Prop := fun xs H1 => xs.length ≤ sizeLine ∧ ∀ p, H1 p = none → Q (.ref p) (upd H1 p (.tup xs))
def newL (Q : VK) : List V → Hp → Prop := fun xs H1 => xs.length ≤ sizeLine ∧ ∀ p, H1 p = none → Q (.ref p) (upd H1 p (.lst xs))
theorem r_newT {Q : VK} {xs : List V} {H : Hp} (hz : xs.length ≤ sizeLine) (q : ∀ p H', H p = none → Ex H H' → H' p = some (.tup xs) → Q (.ref p) H') : newT Q xs H := ⟨hz, fun p hp => q p _ hp (Ex.new hp) upd_same⟩
theorem r_newL {Q : VK} {xs : List V} {H : Hp} (hz : xs.length ≤ sizeLine) (q : ∀ p H', H p = none → Ex H H' → H' p = some (.lst xs) → Q (.ref p) H') : newL Q xs H := ⟨hz, fun p hp => q p _ hp (Ex.new hp) upd_same⟩
/-! ### expressions -/
section
variable {K : PySem.W.Frag} {σ : L2.St} {H : Hp} {Q : VK} {ta tb te tc : TE} {t u : TT} {v x y : V} {i j : Int}
theorem r_var {n : Nat} (h : σ[n]? = some (some v)) (q : Q v H) : tVar n σ H Q := ⟨v, h, q⟩
theorem r_var3 {n : Nat} (q : Q v H) (h : σ[n]? = some (some v)) : tVar n σ H Q := ⟨v, h, q⟩
theorem r_c (q : Q v H) : tC v σ H Q := q
theorem r_op {r : R2} (q : ta σ H fun x H1 => tb σ H1 fun y H2 => r x y H2 Q) : tOp r ta tb σ H Q := q
theorem r_un {r : V → Hp → VK → Prop} (q : ta σ H fun x H1 => r x H1 Q) : tUn r ta σ H Q := q
theorem r_I0 {g : Int → Int → V} (q : Q (g i j) H) : rI0 g (.int i) (.int j) H Q := ⟨i, j, rfl, rfl, q⟩
theorem r_I {C : Int → Int → Prop} {g : Int → Int → V} (c : C i j) (q : Q (g i j) H) : rI C g (.int i) (.int j) H Q := ⟨i, j, rfl, rfl, c, q⟩
theorem r_U {g : Int → V} (q : Q (g i) H) : rU g (.int i) H Q := ⟨i, rfl, q⟩
theorem r_eq (h : scal x y = true) (q : Q (.bl (decide (x = y))) H) : rEq x y H Q := ⟨h, q⟩
theorem r_eqI (q : Q (.bl (decide (i = j))) H) : rEq (.int i) (.int j) H Q := ⟨rfl, by rwa [show decide (V.int i = V.int j) = decide (i = j) from by simp]⟩
theorem r_neI (q : Q (.bl (!decide (i = j))) H) : rNe (.int i) (.int j) H Q := ⟨rfl, by rwa [show decide (V.int i = V.int j) = decide (i = j) from by simp]⟩
theorem r_ne (h : scal x y = true) (q : Q (.bl (!decide (x = y))) H) : rNe x y H Q := ⟨h, q⟩
theorem r_test {R : Bool → Hp → Prop} (q : ta σ H fun x H' => ∃ k, x = .bl k ∧ R k H') : tTest ta σ H R := q
theorem r_B {R : Bool → Hp → Prop} (q : ta σ H fun x H' => ∃ k, x = .bl k ∧ R k H') : tB ta σ H R := q
theorem r_k {b : Bool} {R : Bool → Hp → Prop} (q : R b H) : ∃ k, V.bl b = .bl k ∧ R k H := ⟨b, rfl, q⟩
theorem r_and {R : Bool → Hp → Prop} (q : t σ H fun c H1 => if c = true then u σ H1 R else R false H1) : tAnd t u σ H R := q
theorem r_or {R : Bool → Hp → Prop} (q : t σ H fun c H1 => if c = true then R true H1 else u σ H1 R) : tOr t u σ H R := q
theorem r_not {R : Bool → Hp → Prop} (q : t σ H fun c H1 => R (!c) H1) : tNot t σ H R := q
theorem r_andV (q : ta σ H fun x H1 => ∃ c, x = .bl c ∧ if c = true then tb σ H1 Q else Q (.bl false) H1) : tAndV ta tb σ H Q := q
theorem r_orV (q : ta σ H fun x H1 => ∃ c, x = .bl c ∧ if c = true then Q (.bl true) H1 else tb σ H1 Q) : tOrV ta tb σ H Q := q
theorem r_notV (q : ta σ H fun x H1 => ∃ c, x = .bl c ∧ Q (.bl (!c)) H1) : tNotV ta σ H Q := q
theorem r_kV {b : Bool} {R : Bool → Prop} (q : R b) : ∃ c, V.bl b = .bl c ∧ R c := ⟨b, rfl, q⟩
theorem r_if (q : t σ H fun c H1 => if c = true then ta σ H1 Q else tb σ H1 Q) : tIf t ta tb σ H Q := q
theorem r_nil {R : List V → Hp → Prop} (q : R [] H) : tNil σ H R := q
theorem r_cons {tr : TA} {R : List V → Hp → Prop} (q : ta σ H fun x H1 => tr σ H1 fun xs H2 => R (x :: xs) H2) : tCons ta tr σ H R := q
theorem r_cb {r : List V → Hp → VK → Prop} {tr : TA} (q : tr σ H fun vs H1 => r vs H1 Q) : tCB r tr σ H Q := q
theorem r_call {sp : Sp} {E : XK} {tr : TA} (q : tr σ H fun vs H1 => sp (vs ++ []) H1 Q E) : tCall sp [] E tr σ H Q := q
theorem r_make {C : Addr} {sp : Sp} {E : XK} {tr : TA} (q : tr σ H (mkK C sp E Q)) : tMake C sp [] E tr σ H Q := q
theorem r_fld {a C dx : Addr} {fs : List (Str × V)} {f : Str} (h : H a = some (.ins C dx fs)) (c : Cls K C) (n : NoAttr K C f) (l : fs.lookup f = some v) (q : Q v H) : ∃ a' C dx fs v, V.ref a = .ref a' ∧ H a' = some (.ins C dx fs) ∧ Cls K C ∧ NoAttr K C f ∧ fs.lookup f = some v ∧ Q v H :=
  ⟨a, C, dx, fs, v, rfl, h, c, n, l, q⟩
theorem r_tup {tr : TA} (q : tr σ H (newT Q)) : tTup tr σ H Q := q
theorem r_lst {tr : TA} (q : tr σ H (newL Q)) : tLst tr σ H Q := q
/-! ### statements -/
variable {D : Ends} {ts tu : TS}
theorem r_seq (q : ts { D with nx := tu D } σ H) : tSeq ts tu D σ H := q
theorem r_asg {n : Nat} (q : te σ H fun x H1 => D.nx (σ.set n (some x)) H1) : tAsg te (gName n) D σ H := q
theorem r_asgG {g : TG} (q : te σ H fun x H1 => g x σ H1 D.nx) : tAsg te g D σ H := q
theorem r_ret (q : te σ H D.rt) : tRet te D σ H := q
theorem r_drop (q : te σ H fun _ H1 => D.nx σ H1) : tDrop te D σ H := q
theorem r_next (q : D.nx σ H) : tNext D σ H := q
theorem r_ifS (q : t σ H fun b H1 => if b = true then ts D σ H1 else tu D σ H1) : tIfS t ts tu D σ H := q
theorem r_raise {W : WX} {X : L2.St → Hp → XK → Prop} (q : X σ H fun cls d H' => W cls d σ H') : (fun (_ : Ends) σ H => X σ H fun cls d H' => W cls d σ H') D σ H := q
end
theorem ite_t {c : Bool} {A B : Prop} (hc : c = true) (h : A) : if c = true then A else B := by rw [if_pos hc]; exact h
theorem ite_f {c : Bool} {A B : Prop} (hc : c = false) (h : B) : if c = true then A else B := by rw [hc, if_neg Bool.false_ne_true]; exact h
theorem ite_b {c : Bool} {A B : Prop} (h1 : c = true → A) (h2 : c = false → B) : if c = true then A else B := by
  cases c with
  | true => rw [if_pos rfl]; exact h1 rfl
  | false => rw [if_neg Bool.false_ne_true]; exact h2 rfl

/-! ### own rules that the layer lacks -/
section
variable {X : Cx}
theorem pe_gint {x : Str} {pos : Pos} {i : Int} (hg : Gl X x) (h : ∃ t, X.mg x = some (.int i t)) (hd : (x == ("__debug__" : Str)) = false := by decide) : PE X (.Name x pos) (tC (.int i)) := let ⟨t, e⟩ := h; pe_glob hg e ⟨t, rfl⟩ hd
theorem pe_gstr {x : Str} {pos : Pos} {z : Str} (hg : Gl X x) (h : ∃ t, X.mg x = some (.str z t)) (hd : (x == ("__debug__" : Str)) = false := by decide) : PE X (.Name x pos) (tC (.str z)) := let ⟨t, e⟩ := h; pe_glob hg e ⟨t, rfl⟩ hd
def CPowW (i j : Int) : Prop := 0 ≤ j ∧ (Builtin.Int.intBits i : Int) * j ≤ 2 ^ 27
theorem op_powW : OpR X (binaryOp .Pow) (rI CPowW fun i j => .int (i ^ j.toNat)) := opI fun _ _ _ _ _ _ _ hc q => pow_int hc.1 hc.2 q
theorem cpow_of {i : Int} {n k : Nat} (h : i.natAbs < 2 ^ n) (hk : n * k ≤ 2 ^ 27) : CPowW i (k : Int) := by
  refine ⟨by omega, ?_⟩
  have b : Builtin.Int.intBits i ≤ n := by
    unfold Builtin.Int.intBits
    split
    · exact Nat.zero_le _
    · rename_i h0
      have h1 : i ≠ 0 := by simpa using h0
      have : i.natAbs.log2 < n := (Nat.log2_lt (by omega)).mpr h
      omega
  have : Builtin.Int.intBits i * k ≤ 2 ^ 27 := Nat.le_trans (Nat.mul_le_mul_right k b) hk
  exact_mod_cast this
end
end GS
/-! Comprehensions whose turns only let the heap grow; integers as texts. -/
namespace GS
open PySem PySem.Spec PyProof.Rows L2 TL
/-- the body of a comprehension's reading -/
def lcB (J : It) (g : TG) (tt : TT) (te : TE) (vs : List Nat) (σ : L2.St) (Q : VK) : Hp → Prop := fun H1 => ∀ D, H1 D = none → ∃ W : Nat → Nat → Hp → Prop, (∃ m, W 0 m (upd H1 D (.lst []))) ∧ ∀ i m H, W i m H → (J.stop i H ∧ Q (.ref D) H) ∨
  (J.go i H ∧ ∃ Nx : Hp → Prop, (∀ H', Nx H' → ∃ m', m' < m ∧ W (i + 1) m' H') ∧ ∀ x H', J.yld i H x H' → g x (wipe σ vs) H' fun σ2 H2 => wipe σ2 vs = wipe σ vs ∧ tt σ2 H2 fun b H3 => if b = true then te σ2 H3 fun y H4 => ∃ acc, H4 D = some (.lst acc) ∧ acc.length < sizeLine ∧ Nx (upd H4 D (.lst (acc ++ [y]))) else Nx H3)
theorem r_lc {wi : TI} {g : TG} {tt : TT} {te : TE} {vs : List Nat} {σ : L2.St} {H : Hp} {Q : VK} (q : wi σ H fun J H1 => lcB J g tt te vs σ Q H1) : tLc wi g tt te vs σ H Q := q
theorem r_chain {r r' : R2} {ta tb tc : TE} {σ : L2.St} {H : Hp} {Q : VK} (q : ta σ H fun x H1 => tb σ H1 fun y H2 => r x y H2 fun z H3 => ∃ k, z = .bl k ∧ (if k = true then tc σ H3 fun w' H4 => r' y w' H4 Q else Q (.bl false) H3)) : tChain r r' ta tb tc σ H Q := q
theorem all_true {K : PySem.W.Frag} {H : Hp} {p : Addr} {n : Nat} {Q : VK} (h : H p = some (.lst ((List.range n).map fun _ => V.bl true))) (q : Q (.bl true) H) : rAll K [.ref p] H Q := by
  refine ⟨p, (List.range n).map fun _ => true, rfl, SqL.of (by rw [List.map_map]; exact h), ?_⟩
  have e : ((List.range n).map fun _ => true).all id = true := by simp
  rw [e]
  exact q
theorem r_pickS {c : Prop} [Decidable c] {σ : L2.St} {H : Hp} {Q : VK} {ta tb : TE} {i j : Str} (h1 : ∀ Q : VK, Q (.str i) H → ta σ H Q) (h2 : ∀ Q : VK, Q (.str j) H → tb σ H Q) (q : Q (.str (if c then i else j)) H) : if decide c = true then ta σ H Q else tb σ H Q := by
  by_cases h : c
  · rw [if_pos h] at q
    exact ite_t (decide_eq_true h) (h1 Q q)
  · rw [if_neg h] at q
    exact ite_f (decide_eq_false h) (h2 Q q)
theorem r_iT {K : PySem.W.Frag} {tl : TE} {σ : L2.St} {H : Hp} {R : It → Hp → Prop} (q : tl σ H fun x H1 => ∃ a, x = .ref a ∧ (∃ xs, SqT K H1 a xs) ∧ R (Itt K a) H1) : iTup K tl σ H R := q
theorem r_iL {K : PySem.W.Frag} {tl : TE} {σ : L2.St} {H : Hp} {R : It → Hp → Prop} (q : tl σ H fun x H1 => ∃ a, x = .ref a ∧ (∃ xs, SqL K H1 a xs) ∧ R (Itl K a) H1) : iList K tl σ H R := q
theorem r_iR1 {ta : TA} {σ : L2.St} {H : Hp} {R : It → Hp → Prop} (q : ta σ H fun vs H1 => ∃ j : Int, vs = [.int j] ∧ -(2 ^ 62) ≤ j ∧ j < 2 ^ 62 ∧ R (Itr 0 j.toNat) H1) : iRng1 ta σ H R := q
theorem Ex.mut {H H' : Hp} {p : Addr} {o : HO} (e : Ex H H') (h : H p = none) : Ex H (upd H' p o) := fun a u ha => by
  rw [upd_ne (ne_of_none ha h)]
  exact e a u ha
theorem sz_le {n : Nat} (h : n ≤ 100000) : n ≤ sizeLine := Nat.le_trans h (by decide)
theorem sz_lt {n : Nat} (h : n < 100000) : n < sizeLine := Nat.lt_of_lt_of_le h (by decide)
/-- the items that a filtered comprehension gives -/
def given (n : Nat) (t : Nat → Bool) (f : Nat → V) : List V := ((List.range n).filter t).map f
theorem given_len (n : Nat) (t : Nat → Bool) (f : Nat → V) : (given n t f).length ≤ n := by
  unfold given
  rw [List.length_map]
  exact Nat.le_trans (List.length_filter_le _ _) (by rw [List.length_range]; exact Nat.le_refl _)
theorem given_all (n : Nat) (f : Nat → V) : given n (fun _ => true) f = (List.range n).map f := by
  unfold given
  rw [List.filter_eq_self.mpr (fun _ _ => rfl)]
theorem given_succ (n : Nat) (t : Nat → Bool) (f : Nat → V) : given (n + 1) t f = if t n = true then given n t f ++ [f n] else given n t f := by
  unfold given
  rw [List.range_succ, List.filter_append, List.map_append, List.filter_cons]
  split
  · rfl
  · show _ ++ [] = _
    rw [List.append_nil]
/-- one name, k its slot -/
theorem r_lcF {J : It} {n : Nat} {G : Hp → Prop} {Y : Nat → Hp → V → Hp → Prop} {k : Nat} {tt : TT} {te : TE} {σ : L2.St} {H1 : Hp} {Q : VK} (w : Walk J n G Y) (t : Nat → Bool) (f : Nat → V) (hn : n ≤ 50000) (hG : ∀ H' : Hp, Ex H1 H' → G H')
    (hw : ∀ x, wipe ((wipe σ [k]).set k (some x)) [k] = wipe σ [k])
    (hs : ∀ i x H H', i < n → Ex H1 H → Y i H x H' → Ex H H' ∧ ∀ R : Bool → Hp → Prop, (∀ H3, Ex H' H3 → R (t i) H3) → tt ((wipe σ [k]).set k (some x)) H' R)
    (he : ∀ i x H, i < n → t i = true → Ex H1 H → (∃ H0 H2, Y i H0 x H2 ∧ Ex H1 H0 ∧ Ex H0 H2 ∧ Ex H2 H) → ∀ R : VK, (∀ H4, Ex H H4 → R (f i) H4) → te ((wipe σ [k]).set k (some x)) H R)
    (q : ∀ p H', H1 p = none → Ex H1 H' → H' p = some (.lst (given n t f)) → Q (.ref p) H') : lcB J (gName k) tt te [k] σ Q H1 := by
  intro D hD
  refine lc_it w (fun i H => Ex H1 H ∧ H D = some (.lst (given i t f))) ⟨Ex.mut (Ex.refl _) hD, upd_same⟩ (fun i H _ p => hG H p.1) ?_ (fun H p => q D H hD p.1 p.2)
  intro i x H H' hi p y
  obtain ⟨e1, ht⟩ := hs i x H H' hi p.1 y
  refine ⟨hw x, ht _ fun H3 e3 => ?_⟩
  have hD3 : H3 D = some (.lst (given i t f)) := e3 _ _ (e1 _ _ p.2)
  cases c : t i with
  | false =>
    refine ite_f rfl ⟨(p.1.trans e1).trans e3, ?_⟩
    rw [given_succ, c]
    exact hD3
  | true =>
    refine ite_t rfl (he i x H3 hi c ((p.1.trans e1).trans e3) ⟨H, H', y, p.1, e1, e3⟩ _ fun H4 e4 => ?_)
    refine ⟨_, e4 _ _ hD3, sz_lt (by have := given_len i t f; omega), Ex.mut (((p.1.trans e1).trans e3).trans e4) hD, ?_⟩
    rw [given_succ, c]
    exact upd_same
/-- without a test -/
theorem r_lcM {J : It} {n : Nat} {G : Hp → Prop} {Y : Nat → Hp → V → Hp → Prop} {k : Nat} {te : TE} {σ : L2.St} {H1 : Hp} {Q : VK} (w : Walk J n G Y) (f : Nat → V) (hn : n ≤ 50000) (hG : ∀ H' : Hp, Ex H1 H' → G H')
    (hw : ∀ x, wipe ((wipe σ [k]).set k (some x)) [k] = wipe σ [k])
    (he : ∀ i x H H', i < n → Ex H1 H → Y i H x H' → Ex H H' ∧ ∀ H3, Ex H' H3 → ∀ R : VK, (∀ H4, Ex H3 H4 → R (f i) H4) → te ((wipe σ [k]).set k (some x)) H3 R)
    (q : ∀ p H', H1 p = none → Ex H1 H' → H' p = some (.lst ((List.range n).map f)) → Q (.ref p) H') : lcB J (gName k) tYes te [k] σ Q H1 := by
  refine r_lcF w (fun _ => true) f hn hG hw (fun i x H H' hi e y => ⟨(he i x H H' hi e y).1, fun R r => r H' (Ex.refl _)⟩) ?_ (fun p H' h1 h2 h3 => q p H' h1 h2 (by rw [given_all] at h3; exact h3))
  rintro i x H hi - e ⟨H0, H2, y, e0, e1, e2⟩ R r
  exact (he i x H0 H2 hi e0 y).2 H e2 R r
/-! ### integers as texts -/
def nS (i : Int) : Str := Str.ofString (toString i)
def dg (i : Int) : List Nat := numL i.natAbs
theorem tl_nS_nn {i : Int} (h : 0 ≤ i) : tl (nS i) = dg i := by
  obtain ⟨n, rfl⟩ := Int.eq_ofNat_of_zero_le h
  exact tl_num n
theorem tl_nS_neg {i : Int} (h : i < 0) : tl (nS i) = 45 :: dg i := by
  unfold nS dg
  have e : (0 - i) = ((i.natAbs : Nat) : Int) := by omega
  have f := tl_num i.natAbs
  rw [tl_ofString] at f
  rw [toString_neg h, tl_ofString, String.toList_append, List.map_append, e, f]
  rfl
theorem dg_digits (i : Int) : NumText.AllDigits (dg i) := numL_digits _
theorem dg_ne (i : Int) : dg i ≠ [] := numL_ne _
theorem dg_len {i : Int} {k : Nat} (hk : 0 < k) (h : i.natAbs < 10 ^ k) : (dg i).length ≤ k := numL_len hk h
theorem str_ext {a b : Str} (h : tl a = tl b) : a = b := ext_toList h
theorem nS_len {i : Int} {k : Nat} (hk : 0 < k) (h : i.natAbs < 10 ^ k) : (nS i).length ≤ k + 1 := by
  rw [len_tl]
  by_cases c : 0 ≤ i
  · rw [tl_nS_nn c]
    exact Nat.le_trans (dg_len hk h) (Nat.le_succ _)
  · rw [tl_nS_neg (by omega), List.length_cons]
    exact Nat.succ_le_succ (dg_len hk h)
/-- the sign and the digits apart -/
theorem nS_abs (i : Int) : nS i = (if i < 0 then Str.ofString "-" else Str.ofString "") ++ nS i.natAbs := by
  refine str_ext ?_
  have e : tl (nS (i.natAbs : Int)) = dg i := tl_nS_nn (i := (i.natAbs : Int)) (by omega)
  rw [tl_append, e]
  by_cases c : i < 0
  · rw [if_pos c, tl_nS_neg c]
    rfl
  · rw [if_neg c, tl_nS_nn (by omega)]
    rfl
theorem nS_free {i : Int} {s : Nat} (h : s ≠ 45) (h2 : s < 48 ∨ 57 < s) : s ∉ tl (nS i) := by
  by_cases c : 0 ≤ i
  · rw [tl_nS_nn c]
    exact numL_free h2
  · rw [tl_nS_neg (by omega)]
    intro hm
    rcases List.mem_cons.mp hm with e | e
    · exact h e
    · exact numL_free h2 e
theorem nS_int {i : Int} (h : i.natAbs < 10 ^ 600) : intText? (nS i) = some i := by
  have l := nS_len (k := 600) (by decide) h
  have v : ((NumText.digitsVal (dg i) : Nat) : Int) = i.natAbs := by unfold dg; rw [numL_val]
  by_cases c : 0 ≤ i
  · have e : (nS i).cps.toList = dg i := tl_nS_nn c
    rw [intText_digits (by rw [e]; exact dg_digits i) (by rw [e]; exact dg_ne i) (by omega), e, v]
    congr 1
    omega
  · have e : (nS i).cps.toList = 45 :: dg i := tl_nS_neg (by omega)
    rw [intText_neg e (dg_digits i) (dg_ne i) (by omega), v]
    congr 1
    omega
end GS
/-! A law's bag of drawn numbers; more stepping lemmas. -/
namespace GS
open PySem PySem.Spec PyProof.Rows L2 TL
/-! ### * of very great integers -/
def CMulB (i j : Int) : Prop := i.natAbs.log2 + j.natAbs.log2 < 100000000
theorem CMulB.ok {i j : Int} (h : CMulB i j) : IntMulOk i j := by
  have b : ∀ x : Int, Builtin.Int.intBits x ≤ x.natAbs.log2 + 1 := fun x => by
    unfold Builtin.Int.intBits
    split <;> omega
  have h1 := b i
  have h2 := b j
  unfold CMulB at h
  have e : bitsLine = 134217728 := by decide
  unfold IntMulOk
  intro z
  have z2 := (Bool.and_eq_true_iff.mp z).2
  unfold Builtin.Int.intTooBig at z2
  have z3 := of_decide_eq_true z2
  omega
theorem op_mulB {X : Cx} : OpR X (binaryOp .Mult) (rI CMulB fun i j => .int (i * j)) := opI fun _ _ _ _ _ _ _ hc q => mul_int q hc.ok
theorem lg_lt {i : Int} {n : Nat} (h : i.natAbs < 2 ^ n) (hn : 0 < n) : i.natAbs.log2 < n := PySem.Flt.log2_lt_of hn h
theorem mulB_of {i j : Int} {a b : Nat} (ha : i.natAbs < 2 ^ a) (hb : j.natAbs < 2 ^ b) (h0 : 0 < a) (h1 : 0 < b) (h : a + b ≤ 100000000) : CMulB i j := by
  have x := lg_lt ha h0
  have y := lg_lt hb h1
  unfold CMulB
  omega
/-! ### steps -/
section
variable {K : PySem.W.Frag} {σ : L2.St} {H : Hp} {Q : VK} {i j : Int} {b : Bool} {p : Addr} {xs : List V} {v : V}
theorem r_ixL (h : H p = some (.lst xs)) (e : atI xs i = some v) (q : Q v H) : rIxL K (.ref p) (.int i) H Q := ⟨_, _, _, _, rfl, rfl, SqL.of h, e, q⟩
theorem r_ixT (h : H p = some (.tup xs)) (e : atI xs i = some v) (q : Q v H) : rIxT K (.ref p) (.int i) H Q := ⟨_, _, _, _, rfl, rfl, SqT.of h, e, q⟩
theorem r_gSub {to ti : TE} {t : TSet} {N : L2.St → Hp → Prop} (q : to σ H fun o H1 => ti σ H1 fun i H2 => t o i v H2 fun H3 => N σ H3) : gSub to ti t v σ H N := q
theorem r_setL {k : Int} {n : Nat} {N : Hp → Prop} (h : H p = some (.lst xs)) (e : ixN xs.length k = some n) (q : N (upd H p (.lst (xs.set n v)))) : rSetL (.ref p) (.int k) v H N := ⟨p, xs, k, n, rfl, rfl, h, e, q⟩
theorem r_pow {v k : Int} (c : CPowW i k) (e : i ^ k.toNat = v) (q : Q (.int v) H) : rI CPowW (fun i j => .int (i ^ j.toNat)) (.int i) (.int k) H Q := r_I c (by rw [e]; exact q)
/-- what is wished behind int(..), abs(..), len(..) -/
def intK (Q : VK) : List V → Hp → Prop := fun xs H => (∃ i, xs = [V.int i] ∧ Q (.int i) H) ∨ ∃ k, xs = [V.bl k] ∧ Q (.int (if k = true then 1 else 0)) H
def absK (Q : VK) : List V → Hp → Prop := fun xs H => ∃ i, xs = [V.int i] ∧ Q (.int (if i < 0 then -i else i)) H
def lenK (K : PySem.W.Frag) (Q : VK) : List V → Hp → Prop := fun xs H => ∃ p ys, xs = [V.ref p] ∧ (SqL K H p ys ∨ SqT K H p ys) ∧ Q (.int ys.length) H
theorem r_cbInt {tr : TA} (q : tr σ H (intK Q)) : tCB (fun xs H Q => (∃ i, xs = [V.int i] ∧ Q (V.int i) H) ∨ ∃ k, xs = [V.bl k] ∧ Q (V.int (if k = true then 1 else 0)) H) tr σ H Q := q
theorem r_cbAbs {tr : TA} (q : tr σ H (absK Q)) : tCB (fun xs H Q => ∃ i, xs = [V.int i] ∧ Q (V.int (if i < 0 then -i else i)) H) tr σ H Q := q
theorem r_cbLen {tr : TA} (q : tr σ H (lenK K Q)) : tCB (fun xs H Q => ∃ p ys, xs = [V.ref p] ∧ (SqL K H p ys ∨ SqT K H p ys) ∧ Q (V.int ys.length) H) tr σ H Q := q
theorem r_intI (q : Q (.int j) H) : intK Q [.int j] H := .inl ⟨_, rfl, q⟩
theorem r_intB (q : Q (.int (if b = true then 1 else 0)) H) : intK Q [.bl b] H := .inr ⟨_, rfl, q⟩
theorem r_absI (q : Q (.int (if j < 0 then -j else j)) H) : absK Q [.int j] H := ⟨_, rfl, q⟩
theorem r_lenL (h : H p = some (.lst xs)) (q : Q (.int xs.length) H) : lenK K Q [.ref p] H := ⟨_, _, rfl, .inl (SqL.of h), q⟩
end
/-- a place where ways join -/
theorem r_seqJ {D : Ends} {ts tu : TS} {σ : L2.St} {H : Hp} (P : L2.St → Hp → Prop) (h : ∀ N : L2.St → Hp → Prop, (∀ σ' H', P σ' H' → N σ' H') → ts { D with nx := N } σ H) (h2 : ∀ σ' H', P σ' H' → tu D σ' H') : tSeq ts tu D σ H := h (tu D) h2
/-! ### lists of integers against one another -/
theorem dp_ints {K : PySem.W.Frag} {H : Hp} : ∀ xs : List Int, DpAll K H (xs.map V.int) (xs.map PyData.int)
  | [] => .nil
  | x :: xs => .cons (.int x) (dp_ints xs)
theorem can_ints : ∀ xs : List Int, PyData.canLayAll0 (xs.map PyData.int) = true
  | [] => rfl
  | x :: xs => by
    rw [List.map_cons]
    show (PyData.canLay0 (.int x) && PyData.canLayAll0 (xs.map PyData.int)) = true
    rw [can_ints xs]
    rfl
theorem depth_ints : ∀ xs : List Int, PyData.depthAll (xs.map PyData.int) = 0
  | [] => rfl
  | x :: xs => by
    rw [List.map_cons]
    show max (PyData.depth (.int x)) (PyData.depthAll (xs.map PyData.int)) = 0
    rw [depth_ints xs]
    rfl
theorem shaped_ints (xs : List Int) : SeqAt.shaped (.list (xs.map PyData.int)) = true ∧ SeqAt.shaped (.tuple (xs.map PyData.int)) = true := by
  have h1 := can_ints xs
  have h2 := depth_ints xs
  constructor
  · show (PyData.canLayAll0 (xs.map PyData.int) && decide (PyData.depthAll (xs.map PyData.int) + 1 ≤ 64)) = true
    rw [h1, h2]
    rfl
  · show (PyData.canLayAll0 (xs.map PyData.int) && decide (PyData.depthAll (xs.map PyData.int) + 1 ≤ 64)) = true
    rw [h1, h2]
    rfl
theorem eqv_ints : ∀ xs ys : List Int, PyData.eqvAll (xs.map PyData.int) (ys.map PyData.int) = decide (xs = ys)
  | [], [] => rfl
  | [], y :: ys => rfl
  | x :: xs, [] => rfl
  | x :: xs, y :: ys => by
    rw [List.map_cons, List.map_cons]
    show ((x == y) && PyData.eqvAll (xs.map PyData.int) (ys.map PyData.int)) = _
    rw [eqv_ints xs ys]
    by_cases c : x = y <;> simp [c]
/-- xs != ys, lists of integers -/
theorem r_neInts {K : PySem.W.Frag} {H : Hp} {Q : VK} {p q : Addr} {xs ys : List Int} (h1 : H p = some (.lst (xs.map V.int))) (h2 : H q = some (.lst (ys.map V.int))) (k : Q (.bl (!decide (xs = ys))) H) : rNeD K (.ref p) (.ref q) H Q := by
  refine ⟨_, _, .lst (SqL.of h1) (dp_ints xs), .lst (SqL.of h2) (dp_ints ys), (shaped_ints xs).1, (shaped_ints ys).1, ?_⟩
  show Q (.bl (!PyData.eqvAll (xs.map PyData.int) (ys.map PyData.int))) H
  rw [eqv_ints]
  exact k
theorem r_eqInts {K : PySem.W.Frag} {H : Hp} {Q : VK} {p q : Addr} {xs ys : List Int} (h1 : H p = some (.tup (xs.map V.int))) (h2 : H q = some (.tup (ys.map V.int))) (k : Q (.bl (decide (xs = ys))) H) : rEqD K (.ref p) (.ref q) H Q := by
  refine ⟨_, _, .tup (SqT.of h1) (dp_ints xs), .tup (SqT.of h2) (dp_ints ys), (shaped_ints xs).2, (shaped_ints ys).2, ?_⟩
  show Q (.bl (PyData.eqvAll (xs.map PyData.int) (ys.map PyData.int))) H
  rw [eqv_ints]
  exact k
/-! ### all but p is kept -/
def Bu (p : Addr) (H H' : Hp) : Prop := ∀ b o, b ≠ p → H b = some o → H' b = some o
theorem Bu.refl (p : Addr) (H : Hp) : Bu p H H := fun _ _ _ h => h
theorem Bu.trans {p : Addr} {H H1 H2 : Hp} (a : Bu p H H1) (b : Bu p H1 H2) : Bu p H H2 := fun c o n h => b c o n (a c o n h)
theorem Bu.upd {p : Addr} {H : Hp} {o : HO} : Bu p H (upd H p o) := fun b u n h => by rw [upd_ne n]; exact h
theorem Bu.of {p : Addr} {H H' : Hp} (e : Ex H H') : Bu p H H' := fun b o _ h => e b o h
/-- sizes -/
def Z (n : Nat) (i : Int) : Prop := i.natAbs < 2 ^ n
theorem Z.mono {n m : Nat} {i : Int} (h : Z n i) (l : n ≤ m) : Z m i := Nat.lt_of_lt_of_le h (Nat.pow_le_pow_right (by omega) l)
theorem Z.mul {n m : Nat} {i j : Int} (a : Z n i) (b : Z m j) : Z (n + m) (i * j) := wide_lt a b
theorem Z.add {n : Nat} {i j : Int} (a : Z n i) (b : Z n j) : Z (n + 1) (i + j) := by
  unfold Z at *
  have : (2 : Nat) ^ (n + 1) = 2 ^ n + 2 ^ n := by rw [Nat.pow_succ]; omega
  omega
theorem Z.sub {n : Nat} {i j : Int} (a : Z n i) (b : Z n j) : Z (n + 1) (i - j) := by
  unfold Z at *
  have : (2 : Nat) ^ (n + 1) = 2 ^ n + 2 ^ n := by rw [Nat.pow_succ]; omega
  omega
theorem Z.sq {n : Nat} {i : Int} (a : Z n i) : Z (n + n) (i ^ 2) := by rw [int_pow_two]; exact a.mul a
theorem mulOk {n m : Nat} {i j : Int} (a : Z n i) (b : Z m j) (hn : 0 < n) (hm : 0 < m) (h : n + m ≤ 1000000) : CMulW i j := wide_mul a b hn hm h
/-! ### the bag -/
structure Bag (H : Hp) (b : Addr) (n : Int) : Prop where
  is : ∃ (L : Addr) (xs : List Int) (at_ left : Int), H b = some (.lst [.ref L, .int at_, .int left]) ∧ H L = some (.lst (xs.map V.int)) ∧ L ≠ b ∧ 0 ≤ at_ ∧ at_ ≤ n ∧ 0 ≤ left ∧ xs.length ≤ 64 ∧ ∀ x ∈ xs, Z 2000000 x
theorem Bag.ex {H H' : Hp} {b : Addr} {n : Int} (h : Bag H b n) (e : Ex H H') : Bag H' b n := by
  obtain ⟨L, xs, a, l, h1, h2, h3⟩ := h.is
  exact ⟨L, xs, a, l, e _ _ h1, e _ _ h2, h3⟩
theorem Bag.le {H : Hp} {b : Addr} {n m : Int} (h : Bag H b n) (e : n ≤ m) : Bag H b m := by
  obtain ⟨L, xs, a, l, h1, h2, h3, h4, h5, h6⟩ := h.is
  exact ⟨L, xs, a, l, h1, h2, h3, h4, Int.le_trans h5 e, h6⟩
theorem Bag.ne {H : Hp} {b a : Addr} {n : Int} {o : HO} (h : Bag H b n) (ha : H a = some o) (ho : ∀ L x y, o ≠ .lst [.ref L, .int x, .int y]) : a ≠ b := by
  obtain ⟨L, xs, x, y, h1, _⟩ := h.is
  rintro rfl
  rw [ha] at h1
  exact ho _ _ _ (Option.some.inj h1)
/-- what a draw promises -/
def spDraw : Sp := sp2 fun b m H Q _ => ∃ p m' n, b = .ref p ∧ m = .int m' ∧ 0 < m' ∧ Z 1000 m' ∧ n ≤ 100000 ∧ Bag H p n ∧ ∀ r H', 0 ≤ r → r < m' → Bu p H H' → Bag H' p (n + 1) → Q (.int r) H'
theorem r_Draw {H : Hp} {Q : VK} {E : XK} {p : Addr} {m n : Int} (hb : Bag H p n) (hn : n ≤ 100000) (h0 : 0 < m) (hm : Z 1000 m) (k : ∀ r H', 0 ≤ r → r < m → Bu p H H' → Bag H' p (n + 1) → Q (.int r) H') : spDraw ([.ref p, .int m] ++ []) H Q E :=
  ⟨p, m, n, rfl, rfl, h0, hm, hn, hb, k⟩
end GS
/-! Calls by keywords alone; making an instance inside try. -/
namespace GS
open PySem PySem.Spec PyProof.Rows L2 TL
/-- the arguments in the parameters' order -/
def pm (ix : List Nat) {α : Type} (us ws : List α) : List α := ix.filterMap fun i => (us ++ ws)[i]?
theorem pm_vals (ix : List Nat) {vs zs : List V} {us ws : List Value} (a : Vals vs us) (b : Vals zs ws) : Vals (pm ix vs zs) (pm ix us ws) := by
  have c := a.append b
  unfold pm
  generalize vs ++ zs = l at c
  generalize us ++ ws = m at c
  induction ix with
  | nil => exact .nil
  | cons i ix ih =>
    cases h : l[i]? with
    | none =>
      rw [List.filterMap_cons_none h, List.filterMap_cons_none (c.none_of h)]
      exact ih
    | some x =>
      obtain ⟨u, hu, r⟩ := c.get h
      rw [List.filterMap_cons_some h, List.filterMap_cons_some hu]
      exact .cons r ih
theorem kb_of {K : PySem.W.Frag} {x qual : Str} {params : Arguments} {body : List Stmt} {scope : Scope} {kws : List (Str × V)} {f : Addr} {fd : FuncData} {ps : List Str} (F : FunD K x qual params body scope [] kws f fd) (n : Nat) (ks : List Str) (ix : List Nat)
    (h : ∀ (kV doc pmv : Value) (an : Option Addr) (cdv ct : Value) (us ws : List Value), us.length = n → ws.length = ks.length → bindArgs (PySem.W.fnOf x qual params body scope .none kV doc pmv an cdv ct) ⟨us, ks.zip ws⟩ = pure (ps.zip (pm ix us ws))) : KBn K fd ps n ks (pm ix) (pm ix) := by
  obtain ⟨oc, od, dV, kV, doc, pmv, an, cdv, ct, osl, rfl, lk, hcd, hD, hK⟩ := F.ex
  rcases hD with ⟨-, rfl⟩ | ⟨no, -⟩
  · exact ⟨fun s us ws _ l1 l2 => .of_eq (h kV doc pmv an cdv ct us ws l1 l2), pm_vals ix⟩
  · exact absurd rfl no
section
variable {X : Cx} {CX : CXT} {k : Nat} {f C : Addr} {fd : FuncData} {ps ks : List Str} {sp : Sp} {x : Str} {p pos : Pos} {g : List Value → List Value → List Value} {gV : List V → List V → List V}
/-- f(k = v, ..) -/
theorem pe_callK0 {E : XK} {kws : List Keyword} {tk : TA} (F : FnOk X.prog X.w X.K X.mg X.base CX k f fd ps sp) (hr : Room k X.A) (hg : Gl X x) (hm : X.mg x = some (.ref f)) (keep : PySem.W.keepIn X.K (.ref f) = true) (kb : KBn X.K fd ps 0 ks g gV) (hx : Passes CX X E) (hw : PK X kws tk)
    (named : (backToKw pos (keywordEach kws X.env)).all (·.1.isSome) = true := by rfl) (names : (backToKw pos (keywordEach kws X.env)).filterMap (·.1) = ks := by rfl) (nodb : (x == ("__debug__" : Str)) = false := by decide)
    (plain : ((backTo pos (starEach [] X.env)).any (·.1) || (backToKw pos (keywordEach kws X.env)).any (·.1.isNone)) = false := by rfl) : PE X (.Call (.Name x p) [] kws pos) (tCallN 0 ks.length sp gV E tNil tk) := by
  refine ⟨fun pins s σ H Q I h => wpAny_Call_Name_kw (ld_glob I hg hm ?_ nodb)⟩
  refine PySem.W.callWith_KW0 (h₀ := X.base) I.ok.mod.kin keep named (thn (hw.run pos pins s σ H _ I h) fun ws s2 ⟨zs, H2, I2, rz, m1, m2, q⟩ => ⟨I2.kIn, ?_⟩) plain
  rw [names]
  exact run_fnN F hr kb hx I2 .nil rz m1 m2 q
/-- C(e, ..) inside try: what passes may lean on the slots -/
def tMakeS (C : Addr) (sp : Sp) (E : L2.St → XK) (t : TA) : TE := fun σ H Q => t σ H (mkK C sp (E σ) Q)
theorem pe_makeS {E : L2.St → XK} {e : Expr} {es : List Expr} {t : TA} (M : Mk X.K C f) (F : FnOk X.prog X.w X.K X.mg X.base CX k f fd ps sp) (hr : Room (k + 1) X.A) (hg : Gl X x) (hm : X.mg x = some (.ref C)) (hb : Binds X.K fd ps []) (hx : ∀ σ, PassesAt CX X σ (E σ)) (ha : PA X (e :: es) t)
    (nodb : (x == ("__debug__" : Str)) = false := by decide) (st : starEach (e :: es) X.env = (false, eval e X.env) :: starEach es X.env := by rfl) (plain : (backTo pos (starEach es X.env)).any (·.1) = false := by rfl) :
    PE X (.Call (.Name x p) (e :: es) [] pos) (tMakeS C sp E t) := by
  refine ⟨fun pins s σ H Q I h => wpAny_Call_Name_kw (ld_glob I hg hm ?_ nodb)⟩
  refine PySem.W.callWith_K (h₀ := X.base) I.ok.mod.kin M.kp (thn (ha.run pos pins s σ H _ I h) fun us s1 ⟨vs, H1, I1, r, q⟩ => ⟨I1.kIn, ?_⟩) st plain
  have n0 := I1.hok.fresh (Nat.le_refl s1.heap.objs.size)
  have n1 := I1.hok.fresh (Nat.le_succ s1.heap.objs.size)
  have w1 := q _ _ n1 n0 (Nat.ne_of_lt (Nat.lt_succ_self _))
  have J := Inv.made (C := C) I1
  have rs : Vals (V.ref (s1.heap.objs.size + 1) :: (vs ++ [])) (Value.ref (s1.heap.objs.size + 1) :: us) := by
    rw [List.append_nil]
    exact .cons rfl r
  have many : (Value.ref (s1.heap.objs.size + 1) :: us).length = ps.length := rs.length.symm.trans (F.len _ _ _ _ w1)
  have bound := hb _ (Value.ref (s1.heap.objs.size + 1) :: us) J.kIn (by rw [List.append_nil]; exact many)
  rw [List.append_nil] at bound
  refine wpAny_call (make_map (f := f) I1.kIn M.makes M.init (beq_iff_eq.mp M.fn) (codeAny_mono (F.run _ X.stack _ _ ⟨_ :: us, []⟩ _ _ _ (E σ) (hr.make C us []) (J.env0.make C us []) bound rs w1) fun out s' got => ?_))
  match out, got with
  | .error y, got => exact hx σ pins _ _ y s' J got
  | .ok (.ret u), got =>
    obtain ⟨v, H3, J3, rv, ⟨nv, fine⟩⟩ := J.after got
    rw [nv] at rv
    exact ⟨rv, V.ref (s1.heap.objs.size + 1), H3, J3, rfl, fine⟩
/-! steps -/
variable {σ : L2.St} {H : Hp} {Q : VK} {E : XK} {m : Nat} {t tk : TA}
def clKN (m : Nat) (sp : Sp) (gV : List V → List V → List V) (E : XK) (Q : VK) : List V → Hp → Prop := fun zs H2 => ([] : List V).length = 0 ∧ zs.length = m ∧ sp (gV [] zs) H2 Q E
theorem r_callN0 (q : tk σ H (clKN m sp gV E Q)) : tCallN 0 m sp gV E tNil tk σ H Q := q
theorem r_clKN {zs vs : List V} (l : zs.length = m) (e : gV [] zs = vs) (q : sp (vs ++ []) H Q E) : clKN m sp gV E Q zs H := ⟨rfl, l, by rw [e]; rwa [List.append_nil] at q⟩
def mkKN (m : Nat) (C : Addr) (sp : Sp) (gV : List V → List V → List V) (E : XK) (Q : VK) : List V → Hp → Prop := fun zs H2 => ([] : List V).length = 0 ∧ zs.length = m ∧ ∀ x dx, H2 x = none → H2 dx = none → dx ≠ x → sp (gV [.ref x] zs) (upd (upd H2 dx (.own x)) x (.ins C dx [])) (fun v H3 => v = .non ∧ Q (.ref x) H3) E
theorem r_makeK0 (q : tk σ H (mkKN m C sp gV E Q)) : tMakeK C 0 m sp gV E tNil tk σ H Q := q
theorem r_mkKN {zs vs : List V} (l : zs.length = m) (e : ∀ x, gV [.ref x] zs = .ref x :: (vs ++ [])) (q : mkK C sp E Q vs H) : mkKN m C sp gV E Q zs H := ⟨rfl, l, fun x dx h1 h2 h3 => by rw [e]; exact q x dx h1 h2 h3⟩
theorem r_makeS {E : L2.St → XK} (q : t σ H (mkK C sp (E σ) Q)) : tMakeS C sp E t σ H Q := q
theorem r_callS {E : L2.St → XK} (q : t σ H fun vs H1 => sp vs H1 Q (E σ)) : tCallS sp E t σ H Q := q
end
theorem r_gCons {g : TG} {gs : TGs} {x : V} {xs : List V} {σ : L2.St} {H : Hp} {N : L2.St → Hp → Prop} (q : g x σ H fun σ' H' => gs xs σ' H' N) : gCons g gs (x :: xs) σ H N := ⟨x, xs, rfl, q⟩
theorem r_gNil {σ : L2.St} {H : Hp} {N : L2.St → Hp → Prop} (q : N σ H) : gNil [] σ H N := ⟨rfl, q⟩
theorem r_gName {n : Nat} {x : V} {σ : L2.St} {H : Hp} {N : L2.St → Hp → Prop} (q : N (σ.set n (some x)) H) : gName n x σ H N := q
theorem r_gTup {K : PySem.W.Frag} {n : Nat} {gs : TGs} {p : Addr} {xs : List V} {σ : L2.St} {H : Hp} {N : L2.St → Hp → Prop} (h : H p = some (.tup xs)) (l : xs.length = n) (q : gs xs σ H N) : gTup K n gs (.ref p) σ H N := ⟨p, xs, rfl, SqT.of h, l, q⟩
/-- a, b = c, d -/
def parK (i j : Nat) (σ : L2.St) (N : L2.St → Hp → Prop) : List V → Hp → Prop := fun vs H1 => ∃ v w, vs = [v, w] ∧ N ((σ.set i (some v)).set j (some w)) H1
theorem r_par {i j : Nat} {ta : TA} {D : Ends} {σ : L2.St} {H : Hp} (q : ta σ H (parK i j σ D.nx)) : tPar i j ta D σ H := q
theorem r_parK {i j : Nat} {N : L2.St → Hp → Prop} {σ : L2.St} {H : Hp} {v w : V} (q : N ((σ.set i (some v)).set j (some w)) H) : parK i j σ N [v, w] H := ⟨v, w, rfl, q⟩
/-! clauses -/
theorem r_wAs {D : Ends} {c : Value} {i : Nat} {ts : Addr → Value → Option Addr → TS} {a : Addr} {cls : Value} {d : Option Addr} {σ : L2.St} {H : Hp} (q : ts a cls d (asEnds i D) (σ.set i (some (.ref a))) H) : wCl D (c, some i, ts) a cls d σ H := q
theorem r_cl1 {K : PySem.W.Frag} {Wout : WX} {D : Ends} {c : Value} {o : Option Nat} {ts : Addr → Value → Option Addr → TS} {r : List Cl} {cls : Value} {d : Option Addr} {σ : L2.St} {H : Hp} (y : PySem.W.exmOne K cls c = some true) (q : ∀ a, H a = none → wCl D (c, o, ts) a cls d σ H) : wCls K Wout D ((c, o, ts) :: r) cls d σ H := ⟨true, y, fun _ => q, fun z => by cases z⟩
theorem r_cl0 {K : PySem.W.Frag} {Wout : WX} {D : Ends} {c : Value} {o : Option Nat} {ts : Addr → Value → Option Addr → TS} {r : List Cl} {cls : Value} {d : Option Addr} {σ : L2.St} {H : Hp} (n : PySem.W.exmOne K cls c = some false) (q : wCls K Wout D r cls d σ H) : wCls K Wout D ((c, o, ts) :: r) cls d σ H := ⟨false, n, fun z => (by cases z), fun _ => q⟩
theorem r_xf {a C dd : Addr} {f : Str} {te : TE} {σ : L2.St} {H : Hp} {Q : VK} {fs : List (Str × V)} {v : V} (h : H dd = some (.xd fs)) (l : fs.lookup f = some v) (s : te σ H (fun x H1 => x = .ref a ∧ H1 = H)) (m : ∀ {P P' : VK}, te σ H P → (∀ x H1, P x H1 → P' x H1) → te σ H P') (q : Q v H) : tXf a (.ref C) (some dd) C f te σ H Q :=
  m s fun x H1 e => ⟨e.1, rfl, dd, fs, v, rfl, by rw [e.2]; exact h, l, by rw [e.2]; exact q⟩
theorem r_smeth {C : Addr} {sp : Sp} {E : XK} {t : TA} {σ : L2.St} {H : Hp} {Q : VK} (q : t σ H fun vs H2 => sp vs H2 Q E) : tSMeth C sp E (tC (.ref C)) t σ H Q := ⟨rfl, q⟩
theorem r_yes {σ : L2.St} {H : Hp} {R : Bool → Hp → Prop} (q : R true H) : tYes σ H R := q
/-- each turn gives a new tuple of the same items -/
theorem r_lcT {J : It} {n : Nat} {G : Hp → Prop} {Y : Nat → Hp → V → Hp → Prop} {k : Nat} {te : TE} {σ : L2.St} {H1 : Hp} {Q : VK} (w : Walk J n G Y) (o : List V) (hn : n ≤ 50000) (hG : ∀ H' : Hp, Ex H1 H' → G H')
    (hw : ∀ x, wipe ((wipe σ [k]).set k (some x)) [k] = wipe σ [k])
    (he : ∀ i x H H', i < n → Ex H1 H → Y i H x H' → Ex H H' ∧ ∀ R : VK, (∀ t H4, Ex H' H4 → H4 t = some (.tup o) → R (.ref t) H4) → te ((wipe σ [k]).set k (some x)) H' R)
    (q : ∀ p ys H', H1 p = none → Ex H1 H' → H' p = some (.lst ys) → ys.length = n → (∀ y ∈ ys, ∃ t, y = .ref t ∧ H' t = some (.tup o)) → Q (.ref p) H') : lcB J (gName k) tYes te [k] σ Q H1 := by
  intro D hD
  refine lc_it w (fun i H => Ex H1 H ∧ ∃ ys, H D = some (.lst ys) ∧ ys.length = i ∧ ∀ y ∈ ys, ∃ t, y = .ref t ∧ H t = some (.tup o)) ⟨Ex.mut (Ex.refl _) hD, [], upd_same, rfl, fun _ z => by cases z⟩ (fun i H _ p => hG H p.1) ?_ (fun H p => let ⟨ys, h1, h2, h3⟩ := p.2; q D ys H hD p.1 h1 h2 h3)
  intro i x H H' hi p y
  obtain ⟨p1, ys, p2, p3, p4⟩ := p
  obtain ⟨e1, hte⟩ := he i x H H' hi p1 y
  refine ⟨hw x, ?_⟩
  refine r_yes ?_
  rw [if_pos rfl]
  refine hte _ fun t H4 e4 h4 => ⟨ys, e4 _ _ (e1 _ _ p2), sz_lt (by omega), Ex.mut ((p1.trans e1).trans e4) hD, ys ++ [.ref t], upd_same, (by rw [List.length_append, p3]; rfl), fun z hz => ?_⟩
  have keep' : ∀ {t : Addr} (l : List V), H4 t = some (.tup o) → upd H4 D (.lst l) t = some (.tup o) := fun {t} l ht => by
    rw [upd_ne (fun e => ?_)]
    · exact ht
    · rw [e, e4 _ _ (e1 _ _ p2)] at ht
      cases ht
  rcases List.mem_append.mp hz with hz | hz
  · obtain ⟨t', rfl, ht'⟩ := p4 z hz
    exact ⟨t', rfl, keep' _ (e4 _ _ (e1 _ _ ht'))⟩
  · obtain rfl := List.mem_singleton.mp hz
    exact ⟨t, rfl, keep' _ h4⟩
/-- the same, the items told by the turn -/
theorem r_lcI {J : It} {n : Nat} {G : Hp → Prop} {Y : Nat → Hp → V → Hp → Prop} {k : Nat} {te : TE} {σ : L2.St} {H1 : Hp} {Q : VK} (w : Walk J n G Y) (o : Nat → List V) (hn : n ≤ 50000) (hG : ∀ H' : Hp, Ex H1 H' → G H')
    (hw : ∀ x, wipe ((wipe σ [k]).set k (some x)) [k] = wipe σ [k])
    (he : ∀ i x H H', i < n → Ex H1 H → Y i H x H' → Ex H H' ∧ ∀ R : VK, (∀ t H4, Ex H' H4 → H4 t = some (.tup (o i)) → R (.ref t) H4) → te ((wipe σ [k]).set k (some x)) H' R)
    (q : ∀ p ys H', H1 p = none → Ex H1 H' → H' p = some (.lst ys) → ys.length = n → (∀ i y, ys[i]? = some y → ∃ t, y = .ref t ∧ H' t = some (.tup (o i))) → Q (.ref p) H') : lcB J (gName k) tYes te [k] σ Q H1 := by
  intro D hD
  refine lc_it w (fun i H => Ex H1 H ∧ ∃ ys, H D = some (.lst ys) ∧ ys.length = i ∧ ∀ j y, ys[j]? = some y → ∃ t, y = .ref t ∧ H t = some (.tup (o j))) ⟨Ex.mut (Ex.refl _) hD, [], upd_same, rfl, fun j y z => by simp at z⟩ (fun i H _ p => hG H p.1) ?_ (fun H p => let ⟨ys, h1, h2, h3⟩ := p.2; q D ys H hD p.1 h1 h2 h3)
  intro i x H H' hi p y
  obtain ⟨p1, ys, p2, p3, p4⟩ := p
  obtain ⟨e1, hte⟩ := he i x H H' hi p1 y
  refine ⟨hw x, ?_⟩
  refine r_yes ?_
  rw [if_pos rfl]
  refine hte _ fun t H4 e4 h4 => ⟨ys, e4 _ _ (e1 _ _ p2), sz_lt (by omega), Ex.mut ((p1.trans e1).trans e4) hD, ys ++ [.ref t], upd_same, (by rw [List.length_append, p3]; rfl), fun j z hz => ?_⟩
  have keep' : ∀ {t : Addr} {u : List V} (l : List V), H4 t = some (.tup u) → upd H4 D (.lst l) t = some (.tup u) := fun {t u} l ht => by
    rw [upd_ne (fun e => ?_)]
    · exact ht
    · rw [e, e4 _ _ (e1 _ _ p2)] at ht
      cases ht
  by_cases hj : j < ys.length
  · rw [List.getElem?_append_left hj] at hz
    obtain ⟨t', rfl, ht'⟩ := p4 j z hz
    exact ⟨t', rfl, keep' _ (e4 _ _ (e1 _ _ ht'))⟩
  · rw [List.getElem?_append_right (by omega)] at hz
    have : j - ys.length = 0 := by
      have := (List.getElem?_eq_some_iff.mp hz).1
      simp at this
      omega
    rw [this] at hz
    have hz' : V.ref t = z := Option.some.inj hz
    have : j = i := by omega
    subst this
    exact ⟨t, hz'.symm, keep' _ h4⟩
/-- the body of a for's reading -/
def forB (J : It) (g : TG) (tb : TS) (D : Ends) (σ : L2.St) (H1 : Hp) : Prop := ∃ W : Nat → Nat → L2.St → Hp → Prop, (∃ m, W 0 m σ H1) ∧ ∀ i m σ H, W i m σ H →
  (J.stop i H ∧ D.nx σ H) ∨ (J.go i H ∧ ∃ N : L2.St → Hp → Prop, (∀ σ' H', N σ' H' → ∃ m', m' < m ∧ W (i + 1) m' σ' H') ∧ ∀ x H', J.yld i H x H' → g x σ H' fun σ2 H2 => tb { D with nx := N, ct := N, bk := D.nx } σ2 H2)
theorem r_for {wi : TI} {g : TG} {tb : TS} {D : Ends} {σ : L2.St} {H : Hp} (q : wi σ H fun J H1 => forB J g tb D σ H1) : tFor wi g tb D σ H := q
theorem for_of {J : It} {n : Nat} {G : Hp → Prop} {Y : Nat → Hp → V → Hp → Prop} (w : Walk J n G Y) {g : TG} {tb : TS} {D : Ends} {σ : L2.St} {H : Hp} (Pv : Nat → L2.St → Hp → Prop) (h0 : Pv 0 σ H) (hG : ∀ i σ H, i ≤ n → Pv i σ H → G H)
    (hs : ∀ i x σ H H', i < n → Pv i σ H → Y i H x H' → g x σ H' fun σ2 H2 => tb { D with nx := Pv (i + 1), ct := Pv (i + 1), bk := D.nx } σ2 H2) (hd : ∀ σ H, Pv n σ H → D.nx σ H) : forB J g tb D σ H := for_it w Pv h0 hG hs hd
theorem cr_isi {X : Cx} {K : PySem.W.Frag} (h : X.K = K) : CallR X (.builtin "isinstance") (rIsi K) := by
  subst h
  exact call_isi
end GS
/-! any(..) of integers. -/
namespace GS
open PySem PySem.Spec PyProof.Rows L2 TL
theorem truthOf_ints {prog : Program} {w : World} {A : Around} {ns : List Int} {its : List Value} (r : Vals (ns.map V.int) its) : TruthOf prog w A (fun i v => its.toArray[i]? = some v) (fun i => ns.getD i 0 != 0) := fun i v s Q E hv hq => by
  have there : its[i]? = some v := by simpa using hv
  have hl := r.length
  rw [List.length_map] at hl
  have hi : i < ns.length := by have := (List.getElem?_eq_some_iff.mp there).1; omega
  obtain ⟨u, hu, t, e⟩ := r.get (i := i) (x := V.int ns[i]) (by simp [hi])
  rw [there] at hu
  cases hu
  rw [e]
  have g : ns.getD i 0 = ns[i] := by simp [hi]
  simp only [g] at hq
  exact truthy_int hq
theorem any_getD (ns : List Int) : ((List.range ns.length).any fun i => ns.getD i 0 != 0) = ns.any (· != 0) := by
  induction ns with
  | nil => rfl
  | cons n ns ih =>
    rw [List.length_cons, List.range_succ_eq_map, List.any_cons, List.any_map, List.any_cons, ← ih]
    rfl
def rAnyI (K : PySem.W.Frag) : List V → Hp → VK → Prop := fun vs H Q => ∃ (a : Addr) (ns : List Int), vs = [V.ref a] ∧ (SqL K H a (ns.map V.int) ∨ SqT K H a (ns.map V.int)) ∧ Q (.bl (ns.any (· != 0))) H
theorem cr_anyI {X : Cx} {K : PySem.W.Frag} (hk : X.K = K) (calm : X.calm = true) : CallR X (.builtin "any") (rAnyI K) := by
  subst hk
  intro pins s σ H vs us Q I r got
  obtain ⟨a, ns, rfl, hs, q⟩ := got
  rw [Vals.ref1 r]
  have close : ∀ {its : List Value}, Vals (ns.map V.int) its → ∀ (n : Addr) {ob : Obj} (h' : Heap) (tk : Tok), n = s.heap.objs.size → (∀ b o, b ∉ [n] → (s.heap.push ob).get? b = some o → h'.get? b = some o) →
      EP X pins σ Q (.bool ((List.range its.toArray.size).any fun i => ns.getD i 0 != 0)) { s with heap := h', toks := tk } := by
    intro its rv n ob h' tk en kept
    have sz : its.toArray.size = ns.length := by rw [List.size_toArray, ← rv.length, List.length_map]
    rw [sz, any_getD]
    refine ⟨.bl _, H, I.kept fun b o eo => kept b o (fun hm => ?_) (Heap.get?_push_of_some _ eo), rfl, q⟩
    rw [List.mem_singleton.mp hm, en] at eo
    exact absurd (Heap.lt_size eo) (Nat.lt_irrefl _)
  rcases hs with hs | hs
  · obtain ⟨its, rv, hl, _⟩ := I.list hs
    refine call_any_walk (iter_any hl.isList fun s₂ e2 st ne => ?_)
    rw [e2] at st ⊢
    exact ⟨_, _, _, _, _, _, _, rfl, Walks.list (A := X.A.in1) (I.ok.hd calm) _ a ne its.toArray, st, truthOf_ints rv, fun h' tk hk => close rv _ h' tk rfl hk⟩
  · obtain ⟨its, rv, ht, _⟩ := I.tuple hs
    refine call_any_walk (iter_tuple ht ?_)
    exact ⟨_, _, _, _, _, _, _, rfl, Walks.tuple (A := X.A.in1) (I.ok.hd calm) _ a (Nat.ne_of_lt ht.lt) its.toArray, ⟨⟨_, Heap.get?_push_size _ rfl, rfl, rfl⟩, ht.push _⟩, truthOf_ints rv, fun h' tk hk => close rv _ h' tk rfl hk⟩
end GS
/-! enumerate(tuple). -/
namespace GS
open PySem PySem.Spec PyProof.Rows L2 TL
/-- the tuple at a, each item with its place in a new pair -/
def IteT (K : PySem.W.Frag) (a : Addr) : It where
  go := fun i H => ∃ (xs : List V) (x : V), SqT K H a xs ∧ xs[i]? = some x
  yld := fun i H v H' => ∃ T x, v = .ref T ∧ H T = none ∧ H' = upd H T (.tup [.int (i : Nat), x]) ∧ ∀ xs, SqT K H a xs → xs[i]? = some x
  stop := fun i H => ∃ xs : List V, SqT K H a xs ∧ xs.length ≤ i
/-- a tuple's iterator that is at its end -/
theorem draws_end {prog : Program} {w : World} {A : Around} (hh : A.handled = none) (it t : Addr) (items : Array Value) (n : Nat) (hn : items[n]? = none) (ne : t ≠ it) :
    Draws prog w A it [it, t] n (fun _ _ => False) (fun j h => j = n ∧ h.IsTupleIter it t n ∧ h.IsTuple t items) where
  live := fun _ _ st => let ⟨o, ho, _⟩ := st.2.1; ⟨o, ho⟩
  frame := fun _ _ _ st kept => ⟨st.1, st.2.1.at fun o q => kept it (by simp) o q, st.2.2.at fun o q => kept t (by simp) o q⟩
  item := fun i s Q E hi st _ => absurd st.1 (Nat.ne_of_lt hi)
  done := fun s Q E st out => wpAny_nextOf_tuple_end hh st.2.1 st.2.2 hn out
theorem turn_enumT {P : Program} {w : World} {K : PySem.W.Frag} {elts : List Expr} {kk : Nat} {tpos : Pos} (a e it : Addr) :
    Turn P w K (.Tuple elts kk tpos) (IteT K a) [e, it] e (fun i h => (∃ old, IsEnum h e it ((i : Nat) : Int) old) ∧ h.IsTupleIter it a i ∧ e ≠ it ∧ a ≠ it ∧ a ≠ e) where
  mem := by simp
  obj := by
    intro i h st b hb
    obtain ⟨⟨old, he⟩, ⟨o, ho, hc, hd⟩, -, -, -⟩ := st
    rcases List.mem_cons.mp hb with rfl | hb
    · exact ⟨_, he, fun v q => nomatch q⟩
    · rw [List.mem_singleton.mp hb]
      exact ⟨o, ho, fun v q => by rw [hd] at q; cases q⟩
  keep := by
    intro i h h' st k
    obtain ⟨⟨old, he⟩, hi, ns⟩ := st
    exact ⟨⟨old, k e (by simp) _ he⟩, hi.at fun o q => k it (by simp) o q, ns⟩
  item := by
    intro X hP hw hK hc i pins s σ H E I hf st hg
    subst hP hw hK
    obtain ⟨⟨old, he⟩, hit, hne, ha1, ha2⟩ := st
    obtain ⟨xs, x, hq, hx⟩ := hg
    obtain ⟨its, rv, tp, hz⟩ := I.tuple hq
    obtain ⟨u, hu, ru⟩ := rv.get hx
    have hlt : i < its.toArray.size := by
      have := (List.getElem?_eq_some_iff.mp hu).1
      simpa using this
    have elt := Heap.lt_size he
    have ilt : it < s.heap.objs.size := by
      obtain ⟨_, q, _⟩ := hit
      exact Heap.lt_size q
    refine wpAny_pyNext_enum_itemD (Draws.tuple (A := X.A.in1) (I.ok.hd hc) it a ha1 its.toArray) he ⟨hit, tp⟩ hlt hne (by simp [hne, Ne.symm ha2]) fun x' h' tk hp ho st' hT hsz hk => ?_
    have : x' = u := by
      have hp' : its[i]? = some x' := by simpa using hp
      rw [hu] at hp'
      exact (Option.some.inj hp').symm
    subst this
    refine ⟨_, rfl, wpAny_letOwnedTupleGo_enum (s := { s with heap := h', toks := tk + 1 }) ho fun h2 he2 sb => ?_⟩
    have hT2 : h2.get? s.heap.objs.size = some { cls := .type "tuple", data := .seq #[.int i tk, x'] } := (sb.2 _ (Nat.ne_of_gt elt)).trans hT
    have pair : ObjOk X.prog X.w (upd H s.heap.objs.size (.tup [.int (i : Nat), x])) h2 s.heap.objs.size (.tup [.int (i : Nat), x]) := by
      refine ⟨?_, [.int i tk, x'], .cons ⟨_, rfl⟩ (.cons ru .nil), ⟨_, hT2, rfl, _, rfl⟩⟩
      show 2 ≤ sizeLine
      decide
    have J : Inv X pins σ (upd H s.heap.objs.size (.tup [.int (i : Nat), x])) { s with heap := h2, toks := tk + 1 } := by
      refine I.turnedNew (ch := [e, it]) (fun b ob hb q => ?_) hf (Nat.le_refl _) pair
      have n1 : b ≠ e := fun z => hb (by simp [z])
      have n2 : b ≠ it := fun z => hb (by simp [z])
      exact (sb.2 b n1).trans (hk b ob n1 n2 q)
    refine ⟨.ref s.heap.objs.size, _, J, rfl, ⟨_, x, rfl, I.hok.fresh (Nat.le_refl _), rfl, fun ys hy => by rw [I.tuple_inj hy hq]; exact hx⟩, ⟨⟨x', ?_⟩, st'.1.at fun o q => (sb.2 it (Ne.symm hne)).trans q, hne, ha1, ha2⟩, fun b hb => ?_⟩
    · rw [show ((i + 1 : Nat) : Int) = (i : Int) + 1 by omega]
      exact he2
    · have below : b < s.heap.objs.size := by
        rcases List.mem_cons.mp hb with rfl | hb
        · exact elt
        · rw [List.mem_singleton.mp hb]
          exact ilt
      rw [upd_ne (Nat.ne_of_lt below)]
      exact (hf b hb).1
  done := by
    intro X hP hw hK hc i pins s σ H E I hf st hg
    subst hP hw hK
    obtain ⟨⟨old, he⟩, hit, hne, ha1, ha2⟩ := st
    obtain ⟨xs, hq, hx⟩ := hg
    obtain ⟨its, rv, tp, hz⟩ := I.tuple hq
    obtain ⟨f0, f1, f2, f3, f4, f5⟩ := hf it (by simp)
    have hl := rv.length
    have off : its.toArray[i]? = none := by
      rw [List.getElem?_toArray]
      exact List.getElem?_eq_none (by omega)
    refine wpAny_pyNext_enum_endD (draws_end (A := X.A.in1) (I.ok.hd hc) it a its.toArray i off ha1) he ⟨rfl, hit, tp⟩ fun h' eb => ⟨rfl, ?_⟩
    exact I.turned (t' := s.toks) (fun b o hb q => eb b o hb q) f0 f1 f3 f4 f5
  self := fun A i s Q E st h => let ⟨⟨_, he⟩, _⟩ := st; wpAny_pyIter_enum he h
set_option maxHeartbeats 4000000 in
theorem meets_enum1 {v : Value} {o : Obj} {Hp' : Heap → Prop} (B : Begins v o Hp') :
    Meets (Builtin.«enumerate.__new__» ⟨[.type "enumerate", v], []⟩) (fun _ R s => Hp' s.heap ∧
      R (.ok (.ret (.ref (s.heap.push o).objs.size))) { s with heap := (s.heap.push o).push { cls := .type "enumerate", data := .fields #[.none, .bool false, .ref s.heap.objs.size, rawInt 0, .none, .none] } }) :=
  .of_wp fun prog w A R s both => by
    obtain ⟨hp, g, d, tk, os⟩ := s
    obtain ⟨begun, fin⟩ := both
    have sub := sub_enumerate
    have step : ∀ {A' : Around} {E : Value → Shared → Prop} {Q : Value → Shared → Prop}, Q (.ref hp.objs.size) ⟨hp.push o, g, d, tk, os⟩ → wpAny (model prog w) A' (pyIter v) Q E ⟨hp, g, d, tk, os⟩ := fun q => B.iter prog w _ _ ⟨hp, g, d, tk, os⟩ _ begun q
    wp_walk using step
    refine wpAny_stack_any fun st => wpAny_pure ?_
    split
    · rename_i c _ _ _ _ _
      cases (c == Value.type "enumerate") <;> (wp_walk using step; exact ⟨_, rfl, fin⟩)
    · wp_walk using step
      exact ⟨_, rfl, fin⟩
/-- enumerate(v): its two new cells -/
theorem enum1_begins {prog : Program} {w : World} {A : Around} {E : Value → Shared → Prop} {s : Shared} {v : Value} {o : Obj} {Hp' : Heap → Prop} {Q : Value → Shared → Prop} (B : Begins v o Hp') (begun : Hp' s.heap)
    (q : ∀ h', IsEnum h' (s.heap.objs.size + 1) s.heap.objs.size 0 .none → h'.get? s.heap.objs.size = some o → (∀ b o, s.heap.get? b = some o → h'.get? b = some o) → Q (.ref (s.heap.objs.size + 1)) { s with heap := h' }) :
    wpAny (model prog w) A (call (.type "enumerate") [v]) Q E s := by
  refine callType_new F.called_enumerate (by decide) (F.typeCall_enumerate_1 _) (F.newCall_enumerate_1 _) (fun obj => F.args_object_init_2 obj _) F.entry_enumerate_new (meets_enum1 B) ⟨begun, ?_⟩
  have sz : (s.heap.push o).objs.size = s.heap.objs.size + 1 := Heap.size_push ..
  have new := Heap.get?_push_size (s.heap.push o) (o := { cls := .type "enumerate", data := .fields #[.none, .bool false, .ref s.heap.objs.size, rawInt 0, .none, .none] }) rfl
  show _ ∧ _
  rw [sz] at new ⊢
  refine ⟨⟨_, new, rfl⟩, q _ new ?_ fun b o x => ?_⟩
  · exact Heap.get?_push_of_some _ (Heap.get?_push_size _ B.free)
  · exact Heap.get?_push_of_some _ (Heap.get?_push_of_some _ x)
def iEnumT (K : PySem.W.Frag) (ta : TA) : TI := fun σ H R => ta σ H fun vs H1 => ∃ a xs, vs = [.ref a] ∧ SqT K H1 a xs ∧ R (IteT K a) H1
theorem pi_enumT {X : Cx} {e : Expr} {ta : TA} {p pos tpos : Pos} {elts : List Expr} {kk : Nat} (free : Gl X "enumerate") (none : X.mg "enumerate" = none) (ha : PA X [e] ta) (st : starEach [e] X.env = [(false, eval e X.env)] := by rfl) :
    PI X (.Tuple elts kk tpos) (.Call (.Name "enumerate" p) [e] [] pos) (iEnumT X.K ta) := by
  refine ⟨fun pins s σ H R I h => Call_ (ld_blt I free none boot_enumerate (PyProof.Rows.callWith_type1 (thn (ha.run pos pins s σ H _ I h) fun us s1 ⟨vs, H1, I1, r1, q1⟩ => ?_) st rfl))⟩
  obtain ⟨a, xs, rfl, hq, q⟩ := q1
  rw [Vals.ref1 r1]
  obtain ⟨its, rv, tp, hz⟩ := I1.tuple hq
  refine enum1_begins (begins_tuple a its.toArray) tp fun h' he hit hk => wpAny_pyIter_enum he ?_
  have J : Inv X pins σ H1 { s1 with heap := h' } := I1.kept (t' := s1.toks) hk
  have lt := tp.lt
  refine ⟨s1.heap.objs.size + 1, [s1.heap.objs.size + 1, s1.heap.objs.size], _, _, H1, rfl, J, turn_enumT a (s1.heap.objs.size + 1) s1.heap.objs.size, ⟨⟨.none, he⟩, ⟨_, hit, rfl, rfl⟩, Nat.succ_ne_self _, Nat.ne_of_lt lt, Nat.ne_of_lt (Nat.lt_succ_of_lt lt)⟩, fun b hb => ?_, q⟩
  have above : s1.heap.objs.size ≤ b := by
    rcases List.mem_cons.mp hb with rfl | hb
    · exact Nat.le_succ _
    · rw [List.mem_singleton.mp hb]
      exact Nat.le_refl _
  exact I1.fpOk above (I1.hok.fresh above)
theorem walk_enumT {K : PySem.W.Frag} {a : Addr} {xs : List V} : Walk (IteT K a) xs.length (fun H => SqT K H a xs) (YPair (fun i => some (.int (i : Nat))) (fun i => xs[i]?)) :=
  ⟨fun i _ hi q => ⟨xs, xs[i], q, by simp [hi]⟩, fun _ q => ⟨xs, q, Nat.le_refl _⟩, fun i H v H' hi q y => let ⟨T, x, e1, e2, e3, e4⟩ := y; ⟨T, _, x, e1, e2, e3, rfl, e4 xs q⟩⟩
end GS
/-! Several except clauses, each of one class or of a tuple of classes, with or without «as n». -/
namespace GS
open PySem PySem.Spec PyProof.Rows L2 TL
abbrev MCl := List Value × Option Nat × (Addr → Value → Option Addr → TS)
def wMCl (D : Ends) (q : MCl) (a : Addr) (cls : Value) (d : Option Addr) (σ : L2.St) (H : Hp) : Prop := match q.2.1 with
  | none => q.2.2 a cls d D σ H
  | some i => q.2.2 a cls d (asEnds i D) (σ.set i (some (.ref a))) H
def wMCls (K : PySem.W.Frag) (Wout : WX) (D : Ends) : List MCl → WX
  | [] => Wout
  | q :: r => fun cls d σ H => ∃ b, PySem.W.exmAny K cls q.1 = some b ∧ (b = true → ∀ a, H a = none → wMCl D q a cls d σ H) ∧ (b = false → wMCls K Wout D r cls d σ H)
/-- what stands behind except -/
inductive MTest (X : Cx) : Expr → List Value → Prop
  | name {x : Str} {c : Value} {p : Pos} (h : Names X x c) : MTest X (.Name x p) [c]
  | two {x y : Str} {c d : Value} {p1 p2 p : Pos} {k : Nat} (h1 : Names X x c) (h2 : Names X y d) : MTest X (.Tuple [.Name x p1, .Name y p2] k p) [c, d]
  | three {x y z : Str} {c d e : Value} {p1 p2 p3 p : Pos} {k : Nat} (h1 : Names X x c) (h2 : Names X y d) (h3 : Names X z e) : MTest X (.Tuple [.Name x p1, .Name y p2, .Name z p3] k p) [c, d, e]
  | four {x y z u : Str} {c d e f : Value} {p1 p2 p3 p4 p : Pos} {k : Nat} (h1 : Names X x c) (h2 : Names X y d) (h3 : Names X z e) (h4 : Names X u f) : MTest X (.Tuple [.Name x p1, .Name y p2, .Name z p3, .Name u p4] k p) [c, d, e, f]
inductive MClOk (X : Cx) : ExceptHandler → MCl → Prop
  | bare {t : Expr} {cs : List Value} {ts : Addr → Value → Option Addr → TS} {st : Stmt} {sts : List Stmt} {pos' : Pos} (hc : MTest X t cs)
      (su : ∀ (a : Addr) (oe : Obj) (cls : Value) (d : Option Addr) (pn : List (Addr × Obj)), Zc cls d oe → (∃ vs, oe.data = .fields vs) → PSs (X.suite a ((a, oe) :: pn)) (st :: sts) (ts a cls d)) :
      MClOk X (.ExceptHandler (some t) none (st :: sts) pos') (cs, none, ts)
  | as {t : Expr} {n : Str} {cs : List Value} {ts : Addr → Value → Option Addr → TS} {st : Stmt} {sts : List Stmt} {pos' : Pos} {i : Nat} (hc : MTest X t cs) (hN : X.N.Nodup) (hi : X.N[i]? = some n) (hln : X.env.kindOf n = some .local)
      (su : ∀ (a : Addr) (oe : Obj) (cls : Value) (d : Option Addr) (pn : List (Addr × Obj)), Zc cls d oe → (∃ vs, oe.data = .fields vs) → PSs (X.suite a ((a, oe) :: pn)) (st :: sts) (ts a cls d)) :
      MClOk X (.ExceptHandler (some t) (some n) (st :: sts) pos') (cs, some i, ts)
inductive MClsOk (X : Cx) : List ExceptHandler → List MCl → Prop
  | nil : MClsOk X [] []
  | cons {h : ExceptHandler} {q : MCl} {hs : List ExceptHandler} {qs : List MCl} (o : MClOk X h q) (r : MClsOk X hs qs) : MClsOk X (h :: hs) (q :: qs)
theorem flying_keeps {base h h' : Heap} {l : List Env} {e : Addr} {Z : Obj → Prop} (f : PySem.HandSPX.FlyingZ base l e Z h) (k : ∀ b o, h.get? b = some o → h'.get? b = some o) : PySem.HandSPX.FlyingZ base l e Z h' := by
  obtain ⟨f1, f2, f3, oe, vs, T, oT, ts, t1, t2, t3, t4, t5, t6, t7, t8⟩ := f
  exact ⟨fun b o q => k _ _ (f1 b o q), f2, Heap.FunFrames.of_keeps (fun b o q _ => ⟨o, k _ _ q, rfl⟩) f3, oe, vs, T, oT, ts, k _ _ t1, t2, t3, t4, t5, t6, k _ _ t7, t8⟩
section
variable {X : Cx} {pins : List (Addr × Obj)} {σ : L2.St} {H : Hp} {s sI : Shared} {a : Addr} {B : Heap} {cls : Value} {d : Option Addr} {D : Ends} {Wout : WX}
theorem Caught.grown (c : Caught X pins σ H a B cls d sI s) {h' : Heap} (k : ∀ b o, s.heap.get? b = some o → h'.get? b = some o) : Caught X pins σ H a B cls d sI { s with heap := h' } :=
  ⟨c.inv, c.nb, c.up.trans (Heap.UpToSlots.of_keeps k), c.na, c.os, c.ag, flying_keeps c.fl k⟩
theorem Caught.looks (c : Caught X pins σ H a B cls d sI s) : PySem.W.Looks (model X.prog X.w) s.heap (typeOf (.ref a)) cls := by
  obtain ⟨oe0, vs0, e01, e02, e03⟩ := c.fl.there
  exact fun A Q E s' kk z => wpAny_typeOf_ref (kk _ _ e01) (by rw [e02.1]; exact z)
/-- a tuple of classes, new -/
theorem mtup {t : Expr} {cs : List Value} {b : Bool} {Q : Bool → Shared → Prop} {E : Value → Shared → Prop} (c : Caught X pins σ H a B cls d sI s) (lcs : cs.length ≤ 10)
    (ev : ∀ Q' : Value → Shared → Prop, Q' (.ref s.heap.objs.size) { s with heap := s.heap.push { cls := .type "tuple", data := .seq cs.toArray } } → wpAny (model X.prog X.w) (X.A.mark (some (.ref a))) (eval t X.env) Q' E s)
    (lk : ∀ h : Heap, X.K.In h → PySem.W.Looks (model X.prog X.w) h (typeOf (.ref a)) cls → h.get? s.heap.objs.size = some { cls := .type "tuple", data := .seq cs.toArray } → PySem.W.Looks (model X.prog X.w) h (excMatches (.ref a) (.ref s.heap.objs.size)) b)
    (q : ∀ s', Caught X pins σ H a B cls d sI s' → Q b s') : wpAny (model X.prog X.w) (X.A.mark (some (.ref a))) (eval t X.env) (fun v s₁ => wpAny (model X.prog X.w) (X.A.mark (some (.ref a))) (excMatches (.ref a) v) Q E s₁) E s := by
  have c2 := c.grown (h' := s.heap.push { cls := .type "tuple", data := .seq cs.toArray }) fun b o e => Heap.get?_push_of_some _ e
  exact ev _ ((lk _ c2.here.kIn c2.looks (Heap.get?_push_size _ rfl)).here (q _ c2))
theorem mtest {t : Expr} {cs : List Value} {b : Bool} {Q : Bool → Shared → Prop} {E : Value → Shared → Prop} (c : Caught X pins σ H a B cls d sI s) (hf : X.env.frame = some X.env.locals) (m : MTest X t cs) (hb : PySem.W.exmAny X.K cls cs = some b)
    (q : ∀ s', Caught X pins σ H a B cls d sI s' → Q b s') : wpAny (model X.prog X.w) (X.A.mark (some (.ref a))) (eval t X.env) (fun v s₁ => wpAny (model X.prog X.w) (X.A.mark (some (.ref a))) (excMatches (.ref a) v) Q E s₁) E s := by
  have small : ∀ n : Nat, n ≤ 10 → n ≤ sizeLine := fun n hn => Nat.le_trans hn (by decide)
  cases m with
  | name h =>
    obtain ⟨b1, d1, x1, y1, z1⟩ := PySem.W.exmAny_cons hb
    have : d1 = false := (Option.some.inj y1).symm
    subst this
    rw [Bool.or_false] at z1
    subst z1
    exact names_eval c hf h ((PySem.W.exm_one (M := model X.prog X.w) c.here.kIn c.looks x1).here (q s c))
  | two h1 h2 =>
    exact mtup c (by simp) (fun Q' q' => wpAny_Tuple_spliced (Calls.spliced_cons (names_eval c hf h1 (Calls.spliced_cons (names_eval c hf h2 (Calls.spliced_nil ⟨small _ (by simp), q'⟩)))))) (fun h K1 L1 there => PySem.W.exm_tup2 K1 L1 there hb) q
  | three h1 h2 h3 =>
    exact mtup c (by simp) (fun Q' q' => wpAny_Tuple_spliced (Calls.spliced_cons (names_eval c hf h1 (Calls.spliced_cons (names_eval c hf h2 (Calls.spliced_cons (names_eval c hf h3 (Calls.spliced_nil ⟨small _ (by simp), q'⟩)))))))) (fun h K1 L1 there => PySem.W.exm_tup3 K1 L1 there hb) q
  | four h1 h2 h3 h4 =>
    exact mtup c (by simp) (fun Q' q' => wpAny_Tuple_spliced (Calls.spliced_cons (names_eval c hf h1 (Calls.spliced_cons (names_eval c hf h2 (Calls.spliced_cons (names_eval c hf h3 (Calls.spliced_cons (names_eval c hf h4 (Calls.spliced_nil ⟨small _ (by simp), q'⟩)))))))))) (fun h K1 L1 there => PySem.W.exm_tup4 K1 L1 there hb) q
theorem mclauses {hs : List ExceptHandler} {qs : List MCl} (k : MClsOk X hs qs) (hst : X.stack = X.env :: X.outer) (hf : X.env.frame = some X.env.locals) (tk : Takes X Wout) :
    ∀ {s : Shared}, Caught X pins σ H a B cls d sI s → wMCls X.K Wout D qs cls d σ H → wpAny (model X.prog X.w) X.A (handleBy (.ref a) X.env hs) (SP X pins D) X.xe s := by
  induction k with
  | nil =>
    intro s c w
    refine wpAny_handleBy_nil ?_
    obtain ⟨k1, k2, k3, oe, vs, T, oT, ts', he, hz, hd, h1, hr⟩ := id c.fl
    have out : wpAny (model X.prog X.w) X.A (setFlight (.ref a) X.env.frame) (fun _ s4 => wpAny (model X.prog X.w) X.A (throw (.ref a) : Sem Flow) (SP X pins D) X.xe s4) X.xe s := by
      rw [hf]
      exact PySem.HandSPX.setFlight_upZ c.fl fun h4 hh4 up4 => wpAny_throw (tk _ _ ⟨a, B, sI, pins, σ, H, cls, d, rfl, c.inv, c.nb, c.up.trans up4, .inr (.inr (by rw [hst]; exact hh4)), c.na, c.os, c.ag, w⟩)
    unfold PySem.passOn
    refine wpAny_bind (wpAny_field he hd h1 ?_)
    rw [if_neg (show ¬ ((Value.ref T == Value.none) = true) from by simp)]
    first
      | exact wpAny_bind (wpAny_pure (wpAny_bind out))
      | exact wpAny_bind out
  | @cons h q hs qs o r ih =>
    intro s c w
    obtain ⟨b, hb1, hyes, hno⟩ := w
    cases o with
    | bare hc su =>
      refine wpAny_handleBy_cons (codeAny_handlers_test ?_) (by intro q; cases q)
      refine mtest c hf hc hb1 fun s c => ?_
      cases b with
      | false => exact ih c (hno rfl)
      | true =>
        refine codeAny_handlers_suite (c.again fun s4 c4 => ?_)
        obtain ⟨oe, z1, z2, S⟩ := c4.suite (M := model X.prog X.w) hf
        have ok := c4.here.ok
        refine wpAny_mono ((su a oe cls d (X.pn ++ pins) z1 z2).run [] _ _ H _ S (hyes rfl a c.na)) (fun f s6 hsp => ?_) (fun _ _ z => False.elim z)
        cases f with
        | next => exact let ⟨σ6, H6, S6, q6⟩ := hsp; ⟨_, _, S6.unsuite ok, q6⟩
        | brk => exact let ⟨σ6, H6, S6, q6⟩ := hsp; ⟨_, _, S6.unsuite ok, q6⟩
        | cont => exact let ⟨σ6, H6, S6, q6⟩ := hsp; ⟨_, _, S6.unsuite ok, q6⟩
        | ret u => exact let ⟨v6, σ6, H6, S6, r6, q6⟩ := hsp; ⟨_, _, _, S6.unsuite ok, r6, q6⟩
    | @as t n cs ts st sts pos' i hc hN hi hln su =>
      refine wpAny_handleBy_cons (codeAny_handlers_test ?_) (by intro q; cases q)
      refine mtest c hf hc hb1 fun s c => ?_
      cases b with
      | false => exact ih c (hno rfl)
      | true =>
        refine codeAny_handlers_suite_as (c.again fun s4 c4 => ?_)
        obtain ⟨oe, z1, z2, S⟩ := c4.suite (M := model X.prog X.w) hf
        have ok := c4.here.ok
        refine store_ok (X := X.suite a ((a, oe) :: (X.pn ++ pins))) (v := .ref a) S hN hi (.inl hln) rfl (fun s5 S5 => ?_) (.inr hln)
        refine wpAny_mono ((su a oe cls d (X.pn ++ pins) z1 z2).run [] s5 _ H (asEnds i D) S5 (hyes rfl a c.na)) (fun f s6 hsp => ?_) (fun _ _ z => False.elim z)
        cases f with
        | next => exact let ⟨σ6, H6, S6, q6⟩ := hsp; gone_ok (S6.unsuite ok) hN hi hln fun s7 J7 => ⟨_, _, J7, q6⟩
        | brk => exact let ⟨σ6, H6, S6, q6⟩ := hsp; gone_ok (S6.unsuite ok) hN hi hln fun s7 J7 => ⟨_, _, J7, q6⟩
        | cont => exact let ⟨σ6, H6, S6, q6⟩ := hsp; gone_ok (S6.unsuite ok) hN hi hln fun s7 J7 => ⟨_, _, J7, q6⟩
        | ret u => exact let ⟨v6, σ6, H6, S6, r6, q6⟩ := hsp; gone_ok (S6.unsuite ok) hN hi hln fun s7 J7 => ⟨_, _, _, J7, r6, q6⟩
/-- THE RULE -/
theorem ps_try_m {body : List Stmt} {h₀ : ExceptHandler} {hds : List ExceptHandler} {qs : List MCl} {pos : Pos} {tb : WX → TS} (hst : X.stack = X.env :: X.outer) (hf : X.env.frame = some X.env.locals) (tk : Takes X Wout)
    (hb : ∀ (W : WX) (pn : List (Addr × Obj)) (xe : Value → Shared → Prop), Takes (X.tr pn xe) W → PassesOwn (model X.prog X.w) X.A X.env xe → PSs (X.tr pn xe) body (tb W)) (hh : MClsOk X (h₀ :: hds) qs) :
    PS X (.Try body (h₀ :: hds) [] [] pos) (fun D σ H => tb (wMCls X.K Wout D qs) D σ H) := by
  refine ⟨fun pins s σ H D I h => wpAny_Try_except ?_⟩
  have ok := I.ok
  have fr : X.A.frames = some (X.env :: X.outer) := by rw [ok.frames, hst]
  have B0 := hb (wMCls X.K Wout D qs) (X.pn ++ pins) (fun e s₁ => wpAny (model X.prog X.w) X.A (noteFrame e X.env) (fun _ s₂ => wpAny (model X.prog X.w) X.A (setFlight e none) (fun _ s₃ => wpAny (model X.prog X.w) X.A (handleBy e X.env (h₀ :: hds)) (SP X pins D) X.xe s₃) X.xe s₂) X.xe s₁)
    (fun u s' xx => by
      obtain ⟨a, B, sI, pins', σ', H', cls, d, rfl, J', nb, up, sky, na, os, ag, w⟩ := xx
      refine Sky.land Zc.steady fr hf (show Sky B (X.env :: X.outer) a (Zc cls d) X.env.locals s'.heap by rw [← hst]; exact sky) fun h3 fl3 up3 => ?_
      exact mclauses hh hst hf tk ⟨J'.ofTry ok, nb, up.trans up3, na, os, ag, fl3⟩ w) PassesOwn.looking
  refine wpAny_mono (B0.run [] s σ H D (I.toTry _) h) (fun f s1 hsp => ?_) (fun _ _ z => z)
  cases f with
  | next => exact let ⟨σ', H', J', q⟩ := hsp; wpAny_execs_nil ⟨σ', H', J'.ofTry ok, q⟩
  | brk => exact let ⟨σ', H', J', q⟩ := hsp; ⟨σ', H', J'.ofTry ok, q⟩
  | cont => exact let ⟨σ', H', J', q⟩ := hsp; ⟨σ', H', J'.ofTry ok, q⟩
  | ret u => exact let ⟨v, σ', H', J', r, q⟩ := hsp; ⟨v, σ', H', J'.ofTry ok, r, q⟩
end
end GS
/-! isinstance(error, C) within a suite, of an error with a dict of its own. -/
namespace GS
open PySem PySem.W PySem.Spec PySem.Calls PyProof.Rows L2
section
variable {K : Frag} {x D : Addr} {ox : Obj} {od : Option Obj}
theorem data_found {attr get : Value} {C : Addr} {n : PySem.Str} (there : (clsIn K C).isSome = true) (f : findIn K (.ref C) n = some (some attr)) (g : specialIn K attr "__get__" = some (some get)) (t : takesIn K attr = some true) : findObj K C od n = some (.bind get attr) := by
  obtain ⟨cd, e⟩ := Option.isSome_iff_exists.mp there
  unfold findObj
  rw [e]
  rw [Option.bind_some, f]
  rw [Option.bind_some]
  simp [g, t]
theorem own_class {prog : Program} {w : World} {A : Around} {E : Value → Shared → Prop} {s : Shared} {Q : Option Value → Shared → Prop} (c : ExcC K D) (kin : K.In s.heap) (i : InstAt s.heap x ox D od) (q : Q (some (.ref D)) { s with toks := s.toks + 1 }) :
    wpAny (model prog w) A (getAttr? (.ref x) "__class__") Q E s := by
  have found : findObj K D od "__class__" = some (.bind (.builtin "getset_descriptor.__get__") (.builtin "object.__class__")) := by
    refine data_found ?_ c.ha c.hn c.ht
    obtain ⟨cd, e, _⟩ := any_some c.hd
    rw [e]
    rfl
  obtain ⟨heap, g, d, t, os⟩ := s
  have ty := i.type (M := model prog w)
  have own := looks_findIn (M := model prog w) kin c.hg
  have hook := looks_findIn (M := model prog w) kin c.hk
  have look := looks_find (M := model prog w) kin i found
  have isExc : Looks (model prog w) heap (isInstance (.ref x) (.type "BaseException")) true := ty.andThen (looks_subIn kin c.hs)
  have no2 : (Value.builtin "BaseException.__getattribute__" == Value.builtin "object.__getattribute__") = false := by decide +kernel
  have no1 : (onTheHeap (Value.ref D) && Value.builtin "BaseException.__getattribute__" == Value.builtin "object.__getattribute__") = false := by
    rw [no2]
    rfl
  unfold getAttr? getAttrBy? getAttrBy
  refine wpAny_bind (wpAny_mkText (wpAny_bind (wpAny_attempt (wpAny_holding (wpAny_bind (ty.at (wpAny_bind (own.at ?_))))))))
  show wpAny _ _ (if (onTheHeap (Value.ref D) && Value.builtin "BaseException.__getattribute__" == Value.builtin "object.__getattribute__") = true then _ else _) _ _ _
  rw [no1, if_neg Bool.false_ne_true]
  unfold getAttrByItsOwn hookBefore
  refine wpAny_bind ?_
  rw [if_pos (show onTheHeap (Value.ref D) = true from rfl)]
  refine hook.at (wpAny_bind (wpAny_attempt (wpAny_holding ?_)))
  unfold callGetattribute
  rw [show (false && onTheHeap (Value.builtin "BaseException.__getattribute__")) = false from rfl, if_neg Bool.false_ne_true]
  unfold boundAndCalled
  rw [PySem.F.excAttr_ValueError.ga.bind (.ref x)]
  refine wpAny_bind (wpAny_pure ?_)
  show wpAny _ _ (call (.builtin "BaseException.__getattribute__") [.ref x, .str "__class__" t]) _ _ _
  refine wpAny_call (codeAny_call_builtin PySem.F.excAttr_ValueError.ga.plain PySem.F.entry_bexc_ga ?_)
  refine @check_slot (model prog w) _ _ ⟨heap, g, d, t + 1, os⟩ "BaseException.__getattribute__" "BaseException" "__getattribute__" (.ref x) [.str "__class__" t] [] _
    (by decide +kernel) (by decide +kernel) isExc (PySem.F.args_bexc_ga (.ref x) (.str "__class__" t)) ?_
  unfold Builtin.«object.__getattribute__»
  refine wpAny_bind (wpAny_of_eq (a := ((Value.ref x : Value), [Value.str "__class__" t])) (by first | rfl | (simp only [slotArgs]; rfl)) ?_)
  refine wpAny_bind (wpAny_pure (wpAny_bind (ty.at (wpAny_bind (look.at ?_)))))
  show wpAny _ _ (holding [Value.builtin "object.__class__"] (call (.builtin "getset_descriptor.__get__") [.builtin "object.__class__", .ref x, .ref D]) >>= ret) _ _ _
  refine wpAny_bind (wpAny_holding (wpAny_call (class_get (s := ⟨heap, g, d, t + 1, os⟩) kin i c.hm (wpAny_pure ?_))))
  show wpAny _ _ (handedOut (.ref D)) _ _ _
  rw [handedOut_of (v := .ref D) rfl]
  first | exact wpAny_pure (wpAny_pure q) | exact wpAny_pure q | exact wpAny_pure (wpAny_bind (wpAny_pure (wpAny_pure q)))
theorem kit_err (c : ExcC K D) : KitX K (.ref x) (.ref D) (fun h => InstAt h x ox D od) where
  ty := fun _ _ _ i => i.type
  it := fun _ _ kin _ => by
    obtain ⟨cd, e, _⟩ := any_some c.hd
    unfold clsIn at e
    split at e
    · rename_i ho
      intro A' Q' E' s' kept q
      unfold isType loadHead
      exact wpAny_bind (wpAny_loadPart (kept _ _ (kin _ _ ho)) (wpAny_pure q))
    · cases e
  ne := fun h tp dd its n sl kin there => by
    obtain ⟨cd, e, _⟩ := any_some c.hd
    refine Bool.eq_false_iff.mpr fun q => ?_
    have same : D = tp := Value.ref.inj (beq_iff_eq.mp q)
    unfold clsIn at e
    split at e
    · rename_i ho
      rw [same] at ho
      cases (kin _ _ ho).symm.trans there
    · cases e
  ca := fun kin i q => own_class c kin i q
end
/-- isinstance(e, c), e the error that the suite holds, of whichever class -/
def rIsX (K : Frag) (a : Addr) (cls : Value) (d : Option Addr) : List V → Hp → VK → Prop := fun xs H Q => ∃ (c : V) (cv : Value) (b : Bool) (C dd : Addr) (fs : List (PySem.Str × V)), xs = [.ref a, c] ∧ (∀ u, RelV c u → u = cv) ∧ cls = .ref C ∧ ExcC K C ∧ kitOne K (.ref C) cv = some b ∧ d = some dd ∧ H dd = some (.xd fs) ∧ Q (.bl b) H
section
variable {X : Cx} {a : Addr} {oe : Obj} {cls : Value} {d : Option Addr} {pn : List (Addr × Obj)}
/-- the error as an instance -/
theorem inst_err {pins : List (Addr × Obj)} {σ : L2.St} {H : Hp} {s : Shared} {C dd : Addr} {fs : List (PySem.Str × V)} (hz : Zc (.ref C) (some dd) oe) (hf : ∃ vs, oe.data = .fields vs) (I : Inv (X.suite a ((a, oe) :: pn)) pins σ H s) (there : H dd = some (.xd fs)) :
    ∃ od, InstAt s.heap a oe C (some od) ∧ ∀ n v, fs.lookup n = some v → ∃ u, RelV v u ∧ lookIn n od = some (some u) := by
  obtain ⟨mA, hns, hr⟩ := (show ObjOk X.prog X.w H s.heap dd (.xd fs) from I.hok dd _ there)
  obtain ⟨od, ho, hl⟩ := lookIn_ns hns
  obtain ⟨ha, _⟩ := I.pin (a, oe) (List.mem_append_left _ List.mem_cons_self)
  obtain ⟨vs, hd⟩ := hf
  have plain : notCls oe := by
    unfold notCls
    rw [hd]
  refine ⟨od, ⟨ha, hz.1, plain, by rw [hz.2]; exact ho⟩, fun n v hv => ?_⟩
  obtain ⟨u, hu, ru⟩ := RelO.some_of (v := v) (o := mA n) (by rw [← hv]; exact hr n)
  exact ⟨u, ru, by rw [hl, hu]⟩
theorem cr_isX {K : Frag} (hk : X.K = K) (hz : Zc cls d oe) (hf : ∃ vs, oe.data = .fields vs) : CallR (X.suite a ((a, oe) :: pn)) (.builtin "isinstance") (rIsX K a cls d) := by
  subst hk
  intro pins s σ H xs us Q I r got
  obtain ⟨c, cv, b, C, dd, fs, rfl, only, rfl, ec, e, rfl, there, q⟩ := got
  obtain ⟨u1, u2, rfl, r1, r2⟩ := vals2 r
  cases r1
  rw [only _ r2]
  obtain ⟨od, i, _⟩ := inst_err hz hf I there
  exact kia_one (kit_err ec) I.kIn i e (fun z => nomatch z) fun tk => ⟨.bl b, H, I.kept (t' := tk) fun _ _ z => z, rfl, q⟩
/-- e.f, e the error that the suite holds, of whichever class -/
def tXfA (K : Frag) (a : Addr) (cls : Value) (d : Option Addr) (n : PySem.Str) (te : TE) : TE := fun σ H Q => te σ H fun x H1 => x = .ref a ∧ ∃ (C dd : Addr) (fs : List (PySem.Str × V)) (v : V), cls = .ref C ∧ XfC K C ∧ findIn K (.ref C) n = some none ∧ d = some dd ∧ H1 dd = some (.xd fs) ∧ fs.lookup n = some v ∧ Q v H1
theorem pe_xfA {K : Frag} {e : Expr} {te : TE} {pos : Pos} {n : PySem.Str} (hk : X.K = K) (hz : Zc cls d oe) (hf : ∃ vs, oe.data = .fields vs) (he : PE (X.suite a ((a, oe) :: pn)) e te) (plain : attributeBase e n X.env (eval e X.env) = eval e X.env := by rfl) : PE (X.suite a ((a, oe) :: pn)) (.Attribute e n pos) (tXfA K a cls d n te) := by
  subst hk
  refine ⟨fun pins s σ H Q I h => attr_of plain (thn (he.run pins s σ H _ I h) fun u s1 got => ?_)⟩
  obtain ⟨x, H1, I1, rx, rfl, C, dd, fs, v, rfl, T, no_, rfl, there, l, q⟩ := got
  obtain rfl : u = Value.ref a := rx
  obtain ⟨od, i, fields⟩ := inst_err hz hf I1 there
  obtain ⟨u, ru, hu⟩ := fields n v l
  exact HandSPX.exc_get I1.kIn i T.ga T.gg T.exC (findObj_own T.hdC no_ rfl hu) (handed_of ru) ⟨v, H1, I1.tok _, ru, q⟩
end
end GS
/-! A list or a tuple walked; o.m(k = v). -/
namespace GS
open PySem PySem.Spec PyProof.Rows L2
def iSeq (K : PySem.W.Frag) (tl : TE) : TI := fun σ H R => tl σ H fun x H1 => ∃ a, x = .ref a ∧ (((∃ xs, SqL K H1 a xs) ∧ R (Itl K a) H1) ∨ ((∃ xs, SqT K H1 a xs) ∧ R (Itt K a) H1))
theorem pi_seq {X : Cx} {tg l : Expr} {tl : TE} (hl : PE X l tl) : PI X tg l (iSeq X.K tl) := by
  refine ⟨fun pins s σ H R I h => thn (hl.run pins s σ H _ I h) fun v s1 ⟨x, H1, I1, r1, a, ex, q⟩ => ?_⟩
  subst ex
  obtain rfl : v = Value.ref a := r1
  have grown : ∀ (o : Obj), Inv X pins σ H1 { s1 with heap := s1.heap.push o } := fun o => I1.kept (t' := s1.toks) fun b u e => Heap.get?_push_of_some _ e
  have fresh := I1.fpOk (Nat.le_refl _) (I1.hok.fresh (Nat.le_refl s1.heap.objs.size))
  rcases q with ⟨⟨xs, hq⟩, q⟩ | ⟨⟨xs, hq⟩, q⟩
  · obtain ⟨its, rv, p, hz⟩ := I1.list hq
    refine wpAny_pyIter_list p.isList ⟨s1.heap.objs.size, [s1.heap.objs.size], _, _, H1, rfl, grown _, turn_list a _, ⟨_, Heap.get?_push_size _ rfl, rfl, rfl⟩, fun b hb => ?_, q⟩
    rw [List.mem_singleton.mp hb]
    exact fresh
  · obtain ⟨its, rv, p, hz⟩ := I1.tuple hq
    refine wpAny_pyIter_tuple (show s1.heap.IsTuple a its.toArray from p) ⟨s1.heap.objs.size, [s1.heap.objs.size], _, _, H1, rfl, grown _, turn_tuple a _, ⟨_, Heap.get?_push_size _ rfl, rfl, rfl⟩, fun b hb => ?_, q⟩
    rw [List.mem_singleton.mp hb]
    exact fresh
theorem r_iSeqL {K : PySem.W.Frag} {a : Addr} {H : Hp} {xs : List V} {R : It → Hp → Prop} (h : SqL K H a xs) (q : R (Itl K a) H) : ∃ b, V.ref a = .ref b ∧ (((∃ xs, SqL K H b xs) ∧ R (Itl K b) H) ∨ ((∃ xs, SqT K H b xs) ∧ R (Itt K b) H)) := ⟨a, rfl, .inl ⟨⟨xs, h⟩, q⟩⟩
theorem r_iSeqT {K : PySem.W.Frag} {a : Addr} {H : Hp} {xs : List V} {R : It → Hp → Prop} (h : SqT K H a xs) (q : R (Itt K a) H) : ∃ b, V.ref a = .ref b ∧ (((∃ xs, SqL K H b xs) ∧ R (Itl K b) H) ∨ ((∃ xs, SqT K H b xs) ∧ R (Itt K b) H)) := ⟨a, rfl, .inr ⟨⟨xs, h⟩, q⟩⟩
/-- o.m(k = v, ..) -/
def tMethN (C : Addr) (m : PySem.Str) (nk : Nat) (sp : Sp) (gV : List V → List V → List V) (E : XK) (ta : TE) (tk : TA) : TE := fun σ H Q => ta σ H fun x H1 => ∃ a dx fs, x = .ref a ∧ H1 a = some (.ins C dx fs) ∧ fs.lookup m = none ∧ tk σ H1 fun zs H2 => zs.length = nk ∧ sp (gV [x] zs) H2 Q E
theorem pe_methK0 {X : Cx} {CX : CXT} {k : Nat} {f C : Addr} {fd : FuncData} {ps ks : List PySem.Str} {sp : Sp} {E : XK} {o : Expr} {m : PySem.Str} {pos apos : Pos} {ta : TE} {tk : TA} {kws : List Keyword} {g : List Value → List Value → List Value} {gV : List V → List V → List V} {pl : Sem Bool}
    (he : PE X o ta) (c : Cls X.K C) (hm : Meth X.K C m f) (F : FnOk X.prog X.w X.K X.mg X.base CX k f fd ps sp) (hr : Room k X.A) (kb : KBn X.K fd ps 1 ks g gV) (hx : Passes CX X E) (hw : PK X kws tk)
    (named : (backToKw pos (keywordEach kws X.env)).all (·.1.isSome) = true := by rfl) (names : (backToKw pos (keywordEach kws X.env)).filterMap (·.1) = ks := by rfl)
    (plain : ((backTo pos (starEach [] X.env)).any (·.1) || (backToKw pos (keywordEach kws X.env)).any (·.1.isNone)) = false := by rfl)
    (ht : eval (.Call (.Attribute o m apos) [] kws pos) X.env = (do let ov ← eval o X.env; standAt apos.atName; let (f, first) ← holding [ov] (getMethod ov m pl); callWith pos f first (backTo pos (starEach [] X.env)) (backToKw pos (keywordEach kws X.env))) := by rfl) :
    PE X (.Call (.Attribute o m apos) [] kws pos) (tMethN C m ks.length sp gV E ta tk) := by
  refine ⟨fun pins s σ H Q I h => PySem.W.methodCall_KW (pl := pl) (thn (he.run pins s σ H _ I h) fun u s1 ⟨x, H1, I1, rx, a, dx, fs, ex, ea, l, q⟩ => ?_) ht⟩
  subst ex
  obtain rfl : u = Value.ref a := rx
  refine getmeth_ok I1 ea c hm l ?_
  refine PySem.W.callWith_KW0 (first := [.ref a]) (h₀ := X.base) I.ok.mod.kin hm.kp named (thn (hw.run pos pins s1 σ H1 _ I1 q) fun ws s2 ⟨zs, H2, I2, rz, m2, q2⟩ => ⟨I2.kIn, ?_⟩) plain
  rw [names]
  exact run_fnN (us := [.ref a]) (vs := [.ref a]) F hr kb hx I2 (.cons rfl .nil) rz rfl m2 q2
/-- o.m(e, ..) inside try -/
def tMethE (C : Addr) (m : PySem.Str) (sp : Sp) (E : L2.St → XK) (ta : TE) (t : TA) : TE := fun σ H Q => ta σ H fun x H1 => ∃ a dx fs, x = .ref a ∧ H1 a = some (.ins C dx fs) ∧ fs.lookup m = none ∧ t σ H1 fun vs H2 => sp (x :: vs) H2 Q (E σ)
theorem pe_methE {X : Cx} {CX : CXT} {k : Nat} {f C : Addr} {fd : FuncData} {ps : List PySem.Str} {sp : Sp} {E : L2.St → XK} {o e : Expr} {es : List Expr} {m : PySem.Str} {pos apos : Pos} {ta : TE} {t : TA} {pl : Sem Bool}
    (he : PE X o ta) (c : Cls X.K C) (hm : Meth X.K C m f) (F : FnOk X.prog X.w X.K X.mg X.base CX k f fd ps sp) (hr : Room k X.A) (hb : Binds X.K fd ps []) (hx : ∀ σ, PassesAt CX X σ (E σ)) (ha : PA X (e :: es) t)
    (st : starEach (e :: es) X.env = (false, eval e X.env) :: starEach es X.env := by rfl) (plain : (backTo pos (starEach es X.env)).any (·.1) = false := by rfl)
    (ht : eval (.Call (.Attribute o m apos) (e :: es) [] pos) X.env = (do let ov ← eval o X.env; standAt apos.atName; let (f, first) ← holding [ov] (getMethod ov m pl); callWith pos f first (backTo pos (starEach (e :: es) X.env)) (backToKw pos (keywordEach [] X.env))) := by rfl) :
    PE X (.Call (.Attribute o m apos) (e :: es) [] pos) (tMethE C m sp E ta t) := by
  refine ⟨fun pins s σ H Q I h => PySem.W.methodCall_KW (pl := pl) (thn (he.run pins s σ H _ I h) fun u s1 ⟨x, H1, I1, rx, a, dx, fs, ex, ea, l, q⟩ => ?_) ht⟩
  subst ex
  obtain rfl : u = Value.ref a := rx
  refine getmeth_ok I1 ea c hm l ?_
  refine PySem.W.callWith_K (first := [.ref a]) (h₀ := X.base) I.ok.mod.kin hm.kp (thn (ha.run pos pins s1 σ H1 _ I1 q) fun us s2 ⟨vs, H2, I2, r, q2⟩ => ⟨I2.kIn, ?_⟩) st plain
  exact run_fnS (us := .ref a :: us) (vs := .ref a :: vs) F hr hb (hx σ) I2 (.cons rfl r) q2
/-- l[j] for l[j] op= e, from 0 on -/
def rGetL (K : PySem.W.Frag) : V → V → Hp → VK → Prop := fun x y H Q => ∃ p xs j v, x = .ref p ∧ y = .int (j : Nat) ∧ SqL K H p xs ∧ xs[j]? = some v ∧ Q v H
theorem pget_list {X : Cx} : PGet X (rGetL X.K) := by
  intro pins s σ H o i ov iv Q I ro ri got
  obtain ⟨p, xs, j, v, rfl, rfl, hq, e, q⟩ := got
  obtain rfl : ov = Value.ref p := ro
  obtain ⟨t, rfl⟩ := ri
  obtain ⟨its, r, pl, hz⟩ := I.list hq
  obtain ⟨u, hu, ru⟩ := r.get e
  have lt := (List.getElem?_eq_some_iff.mp e).1
  have n := line63
  refine wpAny_getItem_list (x := u) pl.isList (Int.natCast_nonneg j) ?_ ?_ ⟨v, H, I, ru, q⟩
  · omega
  · rw [Int.toNat_natCast]
    simpa using hu
/-! the same rules where X's K is only told by an equation (within comprehensions) -/
theorem kx_ixl {X : Cx} {K : PySem.W.Frag} (h : X.K = K) : IxR X (rIxL K) := by subst h; exact ix_list
theorem kx_ixt {X : Cx} {K : PySem.W.Frag} (h : X.K = K) : IxR X (rIxT K) := by subst h; exact ix_tup
theorem kx_lens {X : Cx} {K : PySem.W.Frag} (h : X.K = K) : CallR X (.builtin "len") (fun xs H Q => ∃ p ys, xs = [.ref p] ∧ (SqL K H p ys ∨ SqT K H p ys) ∧ Q (.int ys.length) H) := by subst h; exact call_len_seq
theorem kx_fld {X : Cx} {K : PySem.W.Frag} {e : Expr} {te : TE} {f : PySem.Str} {pos : Pos} (h : X.K = K) (he : PE X e te) (hb : attributeBase e f X.env (eval e X.env) = eval e X.env) : PE X (.Attribute e f pos) (tFld K te f) := by subst h; exact pe_fld he hb
/-! facts of the head -/
def bnB (x : PySem.Str) (id : String) : Chk := fun K => He.eqO (PySem.W.nsIn K mainGlobals x) (some (some (.builtin id)))
theorem bnB_ok {K : PySem.W.Frag} {mg : PySem.Str → Option Value} {h : Heap} (X : K.In h) (G : h.Ns mainGlobals mg) {x : PySem.Str} {id : String} (c : bnB x id K = true) : mg x = some (.builtin id) := PySem.W.mg_of X G (He.eqO_ok c)
def excB (x : PySem.Str) : Chk := fun K => He.eqO (PySem.W.findIn K (.ref (He.ga K x)) "__class__") (some (some (.builtin "object.__class__"))) && decide (PySem.W.mroIn K (He.ga K x) (.type "object") = some true)
theorem excB_ok {K : PySem.W.Frag} {x : PySem.Str} (top : topB K = true) (f : XfC K (He.ga K x)) (c : excB x K = true) : ExcC K (He.ga K x) := by
  obtain ⟨t1, t2⟩ := Bool.and_eq_true_iff.mp top
  obtain ⟨c1, c2⟩ := Bool.and_eq_true_iff.mp c
  exact ⟨f.ga, f.gg, f.exC, f.hdC, He.eqO_ok c1, He.eqO_ok t1, of_decide_eq_true t2, of_decide_eq_true c2⟩
/-- an instance of D is none of C -/
def otB (D C : PySem.Str) : Chk := fun K => decide (PySem.W.kitOne K (.ref (He.ga K D)) (.ref (He.ga K C)) = some false) && PySem.W.notFirst K (He.ga K C) (.ref (He.ga K D))
theorem otB_ok {K : PySem.W.Frag} {D C : PySem.Str} (c : otB D C K = true) : PySem.W.kitOne K (.ref (He.ga K D)) (.ref (He.ga K C)) = some false ∧ PySem.W.notFirst K (He.ga K C) (.ref (He.ga K D)) = true := by
  obtain ⟨c1, c2⟩ := Bool.and_eq_true_iff.mp c
  exact ⟨of_decide_eq_true c1, c2⟩
end GS
/-! Comprehensions of any target; zip of tuples; loops. -/
namespace GS
open PySem PySem.Spec PyProof.Rows L2 TL
theorem walk_zipT {K : PySem.W.Frag} {a b : Addr} {xs ys : List V} {n : Nat} (hn : n = min xs.length ys.length) : Walk (RZ.ItzT K a b) n (fun H => SqT K H a xs ∧ SqT K H b ys) (YPair (fun i => xs[i]?) (fun i => ys[i]?)) := by
  subst hn
  refine ⟨fun i _ hi q => ?_, fun _ q => ⟨xs, ys, q.1, q.2, by omega⟩, fun i H v H' _ q y => ?_⟩
  · have h1 : i < xs.length := by omega
    have h2 : i < ys.length := by omega
    exact ⟨xs, ys, xs[i], ys[i], q.1, q.2, by simp [h1], by simp [h2]⟩
  · obtain ⟨T, x, z, h1, h2, h3, h4, h5⟩ := y
    exact ⟨T, x, z, h1, h2, h3, h4 xs q.1, h5 ys q.2⟩
theorem r_zipA {K : PySem.W.Frag} {ta : TA} {σ : L2.St} {H : Hp} {R : It → Hp → Prop} (q : ta σ H fun vs H1 => ∃ a b xs ys, vs = [.ref a, .ref b] ∧ ((SqL K H1 a xs ∧ SqL K H1 b ys ∧ R (Itz K a b) H1) ∨ (SqT K H1 a xs ∧ SqT K H1 b ys ∧ R (RZ.ItzT K a b) H1))) : RZ.iZipA K ta σ H R := q
theorem walk_enumT' {K : PySem.W.Frag} {a : Addr} {xs : List V} {n : Nat} (h : xs.length = n) : Walk (IteT K a) n (fun H => SqT K H a xs) (YPair (fun i => some (.int (i : Nat))) (fun i => xs[i]?)) := by subst h; exact walk_enumT
/-- what is wished behind list(..), tuple(..) -/
def listK (K : PySem.W.Frag) (Q : VK) : List V → Hp → Prop := fun xs H => ∃ p ys, xs = [V.ref p] ∧ (SqL K H p ys ∨ SqT K H p ys) ∧ ∀ (l : Addr), H l = none → Q (.ref l) (upd H l (.lst ys))
theorem r_cbList {K : PySem.W.Frag} {tr : TA} {σ : L2.St} {H : Hp} {Q : VK} (q : tr σ H (listK K Q)) : tCB (fun xs H Q => ∃ p ys, xs = [V.ref p] ∧ (SqL K H p ys ∨ SqT K H p ys) ∧ ∀ (l : Addr), H l = none → Q (.ref l) (upd H l (.lst ys))) tr σ H Q := q
theorem r_list {K : PySem.W.Frag} {Q : VK} {H : Hp} {a : Addr} {xs : List V} (h : SqL K H a xs ∨ SqT K H a xs) (q : ∀ l H', H l = none → Ex H H' → H' l = some (.lst xs) → Q (.ref l) H') : listK K Q [.ref a] H :=
  ⟨a, xs, rfl, h, fun l hl => q l _ hl (Ex.new hl) upd_same⟩
def tupK (K : PySem.W.Frag) (Q : VK) : List V → Hp → Prop := fun xs H => ∃ p ys, xs = [V.ref p] ∧ ((SqL K H p ys ∧ ∀ (l : Addr), H l = none → Q (.ref l) (upd H l (.tup ys))) ∨ SqT K H p ys ∧ Q (.ref p) H)
theorem r_cbTup {K : PySem.W.Frag} {tr : TA} {σ : L2.St} {H : Hp} {Q : VK} (q : tr σ H (tupK K Q)) : tCB (fun xs H Q => ∃ p ys, xs = [V.ref p] ∧ ((SqL K H p ys ∧ ∀ (l : Addr), H l = none → Q (.ref l) (upd H l (.tup ys))) ∨ SqT K H p ys ∧ Q (.ref p) H)) tr σ H Q := q
theorem r_tupL {K : PySem.W.Frag} {Q : VK} {H : Hp} {a : Addr} {xs : List V} (h : SqL K H a xs) (q : ∀ l H', H l = none → Ex H H' → H' l = some (.tup xs) → Q (.ref l) H') : tupK K Q [.ref a] H :=
  ⟨a, xs, rfl, .inl ⟨h, fun l hl => q l _ hl (Ex.new hl) upd_same⟩⟩
theorem r_sl {r : V → Option Int → Option Int → Hp → VK → Prop} {te : TE} {tl th : TO} {σ : L2.St} {H : Hp} {Q : VK} (q : te σ H fun x H1 => tl σ H1 fun l H2 => th σ H2 fun u H3 => r x l u H3 Q) : tSl r te tl th σ H Q := q
theorem r_noPart {σ : L2.St} {H : Hp} {R : Option Int → Hp → Prop} (q : R none H) : tNoPart σ H R := q
theorem r_part {te : TE} {σ : L2.St} {H : Hp} {R : Option Int → Hp → Prop} (q : te σ H fun x H1 => ∃ i, x = .int i ∧ R (some i) H1) : tPart te σ H R := q
theorem r_iR2 {ta : TA} {σ : L2.St} {H : Hp} {R : It → Hp → Prop} (q : ta σ H fun vs H1 => ∃ i j : Int, vs = [.int i, .int j] ∧ (-(2 ^ 62) ≤ i ∧ i < 2 ^ 62 ∧ -(2 ^ 62) ≤ j ∧ j < 2 ^ 62) ∧ R (Itr i (j - i).toNat) H1) : iRng2 ta σ H R := q
theorem r_iR3 {ta : TA} {σ : L2.St} {H : Hp} {R : It → Hp → Prop} (q : ta σ H fun vs H1 => ∃ (i j c : Int) (n : Nat), vs = [.int i, .int j, .int c] ∧ RgC i j c n ∧ R (Itc i c n) H1) : iRng3 ta σ H R := q
/-- any target, no test; what is known of the items by the turn -/
theorem r_lcP {J : It} {n : Nat} {G : Hp → Prop} {Y : Nat → Hp → V → Hp → Prop} {g : TG} {vs : List Nat} {te : TE} {σ : L2.St} {H1 : Hp} {Q : VK} (w : Walk J n G Y) (P : Addr → Nat → List V → Hp → Prop) (hn : n ≤ 50000) (hG : ∀ H' : Hp, Ex H1 H' → G H')
    (h0 : ∀ D H, Ex H1 H → P D 0 [] H) (mono : ∀ D i ys H H', P D i ys H → Bu D H H' → P D i ys H')
    (step : ∀ D i x ys H H', i < n → H1 D = none → Ex H1 H → H D = some (.lst ys) → P D i ys H → Y i H x H' → ∀ N : VK, (∀ y H4, Ex H H4 → P D (i + 1) (ys ++ [y]) H4 → N y H4) → g x (wipe σ vs) H' fun σ2 H2 => wipe σ2 vs = wipe σ vs ∧ te σ2 H2 N)
    (q : ∀ D ys H', H1 D = none → Ex H1 H' → H' D = some (.lst ys) → ys.length = n → P D n ys H' → Q (.ref D) H') : lcB J g tYes te vs σ Q H1 := by
  intro D hD
  refine lc_it w (fun i H => Ex H1 H ∧ ∃ ys, H D = some (.lst ys) ∧ ys.length = i ∧ P D i ys H) ⟨Ex.mut (Ex.refl _) hD, [], upd_same, rfl, h0 D _ (Ex.mut (Ex.refl _) hD)⟩ (fun i H _ p => hG H p.1) ?_ (fun H p => let ⟨ys, h1, h2, h3⟩ := p.2; q D ys H hD p.1 h1 h2 h3)
  intro i x H H' hi p y
  obtain ⟨p1, ys, p2, p3, p4⟩ := p
  refine step D i x ys H H' hi hD p1 p2 p4 y _ fun z H4 e4 hp4 => ⟨ys, e4 _ _ p2, sz_lt (by omega), Ex.mut (p1.trans e4) hD, ys ++ [z], upd_same, (by rw [List.length_append, p3]; rfl), mono D _ _ _ _ hp4 Bu.upd⟩
/-- the items are integers -/
theorem r_lcZ {J : It} {n : Nat} {G : Hp → Prop} {Y : Nat → Hp → V → Hp → Prop} {g : TG} {vs : List Nat} {te : TE} {σ : L2.St} {H1 : Hp} {Q : VK} (w : Walk J n G Y) (r : List Int) (hr : r.length = n) (hn : n ≤ 50000) (hG : ∀ H' : Hp, Ex H1 H' → G H')
    (step : ∀ i x H H', i < n → Ex H1 H → Y i H x H' → ∀ N : VK, (∀ H4, Ex H H4 → N (.int (r.getD i 0)) H4) → g x (wipe σ vs) H' fun σ2 H2 => wipe σ2 vs = wipe σ vs ∧ te σ2 H2 N)
    (q : ∀ D H', H1 D = none → Ex H1 H' → H' D = some (.lst (r.map V.int)) → Q (.ref D) H') : lcB J g tYes te vs σ Q H1 := by
  refine r_lcP w (fun _ i ys _ => ys = (r.take i).map V.int) hn hG (fun _ _ _ => rfl) (fun _ _ _ _ _ h _ => h) ?_ (fun D ys H' h1 h2 h3 h4 h5 => q D H' h1 h2 ?_)
  · intro D i x ys H H' hi hD e hd hp y N hN
    refine step i x H H' hi e y N fun H4 e4 => hN _ H4 e4 ?_
    have : i < r.length := by omega
    rw [hp, List.take_add_one, List.getElem?_eq_getElem this, List.map_append]
    congr 1
    simp [this]
  · rw [h3, h5, ← hr, List.take_length]
/-- any target, no test; the heap may change as it likes -/
theorem r_lcG {J : It} {n : Nat} {G : Hp → Prop} {Y : Nat → Hp → V → Hp → Prop} {g : TG} {vs : List Nat} {te : TE} {σ : L2.St} {H1 : Hp} {Q : VK} (w : Walk J n G Y) (P : Addr → Nat → List V → Hp → Prop) (hn : n ≤ 50000) (hG : ∀ D i ys H, P D i ys H → G H)
    (h0 : ∀ D, H1 D = none → P D 0 [] (upd H1 D (.lst []))) (mono : ∀ D i ys H o, H1 D = none → P D i ys H → P D i ys (upd H D o))
    (step : ∀ D i x ys H H', i < n → H1 D = none → H D = some (.lst ys) → ys.length = i → P D i ys H → Y i H x H' → ∀ N : VK, (∀ y H4, H4 D = some (.lst ys) → P D (i + 1) (ys ++ [y]) H4 → N y H4) → g x (wipe σ vs) H' fun σ2 H2 => wipe σ2 vs = wipe σ vs ∧ te σ2 H2 N)
    (q : ∀ D ys H', H1 D = none → H' D = some (.lst ys) → ys.length = n → P D n ys H' → Q (.ref D) H') : lcB J g tYes te vs σ Q H1 := by
  intro D hD
  refine lc_it w (fun i H => ∃ ys, H D = some (.lst ys) ∧ ys.length = i ∧ P D i ys H) ⟨[], upd_same, rfl, h0 D hD⟩ (fun i H _ p => let ⟨ys, _, _, h⟩ := p; hG D i ys H h) ?_ (fun H p => let ⟨ys, h1, h2, h3⟩ := p; q D ys H hD h1 h2 h3)
  intro i x H H' hi p y
  obtain ⟨ys, p2, p3, p4⟩ := p
  refine step D i x ys H H' hi hD p2 p3 p4 y _ fun z H4 h4 hp4 => ⟨ys, h4, sz_lt (by omega), ys ++ [z], upd_same, (by rw [List.length_append, p3]; rfl), mono D _ _ _ _ hD hp4⟩
/-! ### the bag's own list stays -/
def Bg (p : Addr) (H H' : Hp) : Prop := Bu p H H' ∧ ∀ L x y, H p = some (.lst [.ref L, x, y]) → ∃ x' y', H' p = some (.lst [.ref L, x', y'])
theorem Bg.refl (p : Addr) (H : Hp) : Bg p H H := ⟨Bu.refl p H, fun _ x y h => ⟨x, y, h⟩⟩
theorem Bg.trans {p : Addr} {H H1 H2 : Hp} (a : Bg p H H1) (b : Bg p H1 H2) : Bg p H H2 := ⟨a.1.trans b.1, fun L x y h => let ⟨x', y', h'⟩ := a.2 L x y h; b.2 L x' y' h'⟩
theorem Bg.of {p : Addr} {H H' : Hp} (e : Ex H H') : Bg p H H' := ⟨Bu.of e, fun _ x y h => ⟨x, y, e _ _ h⟩⟩
theorem Bg.at_ {p b : Addr} {H H' : Hp} {o : HO} (e : Bg p H H') (n : b ≠ p) (h : H b = some o) : H' b = some o := e.1 b o n h
theorem Bg.updD {p D : Addr} {H1 H : Hp} {o : HO} {n0 : Int} (e : Bg p H1 H) (hb : Bag H1 p n0) (hD : H1 D = none) : Bg p H1 (upd H D o) := by
  obtain ⟨L, xs, a, l, h1, _⟩ := hb.is
  have np : p ≠ D := by rintro rfl; rw [hD] at h1; cases h1
  refine ⟨fun b u n hb => ?_, fun L x y h => ?_⟩
  · rw [upd_ne (by rintro rfl; rw [hD] at hb; cases hb)]
    exact e.1 b u n hb
  · rw [upd_ne np]
    exact e.2 L x y h
theorem Bag.updD {p D : Addr} {H1 H : Hp} {o : HO} {n0 n : Int} (hb : Bag H p n) (hb1 : Bag H1 p n0) (e : Bg p H1 H) (hD : H1 D = none) : Bag (upd H D o) p n := by
  obtain ⟨L1, xs1, a1, l1, h1, hL1, ne1, _⟩ := hb1.is
  obtain ⟨L, xs, a, l, h, hL, ne, r⟩ := hb.is
  obtain ⟨x', y', h'⟩ := e.2 L1 _ _ h1
  rw [h] at h'
  cases h'
  have np : p ≠ D := by rintro rfl; rw [hD] at h1; cases h1
  have nL : L1 ≠ D := by rintro rfl; rw [hD] at hL1; cases hL1
  exact ⟨L1, xs, a, l, by rw [upd_ne np]; exact h, by rw [upd_ne nL]; exact hL, ne, r⟩
/-- what a draw promises -/
def spDrawG : Sp := sp2 fun b m H Q _ => ∃ p m' n, b = .ref p ∧ m = .int m' ∧ 0 < m' ∧ Z 1000 m' ∧ n ≤ 100000 ∧ Bag H p n ∧ ∀ r H', 0 ≤ r → r < m' → Bg p H H' → Bag H' p (n + 1) → Q (.int r) H'
theorem r_DrawG {H : Hp} {Q : VK} {E : XK} {p : Addr} {m n : Int} (hb : Bag H p n) (hn : n ≤ 100000) (h0 : 0 < m) (hm : Z 1000 m) (k : ∀ r H', 0 ≤ r → r < m → Bg p H H' → Bag H' p (n + 1) → Q (.int r) H') : spDrawG ([.ref p, .int m] ++ []) H Q E :=
  ⟨p, m, n, rfl, rfl, h0, hm, hn, hb, k⟩
end GS
/-! x == y, x of a built-in kind, y an instance with an own __eq__. -/
namespace GS
open PySem PySem.Spec PyProof.Rows L2 TL
section
variable {prog : Program} {w : World} {A : Around} {E : Value → Shared → Prop} {s : Shared} {p C dx : Addr} {Q : Value → Shared → Prop}
theorem dec_int {i : Int} {t : Tok} (h : s.heap.get? p = some (PySem.W.instObj C dx)) (q : Q .notImplemented s) : wpAny (model prog w) A (call (.builtin "int.__eq__") [.int i t, .ref p]) Q E s := by
  refine GQ.call_here F.slot_int_eq (typeIs_int s i t) F.entry_int_eq (F.args_int_eq_2 _ _) ?_
  obtain ⟨hp, g, d, tk, os⟩ := s
  wp_walk using AutoSeq1.wpAny_loadPart' h
  exact q
theorem dec_str {i : Str} {t : Tok} (h : s.heap.get? p = some (PySem.W.instObj C dx)) (q : Q .notImplemented s) : wpAny (model prog w) A (call (.builtin "str.__eq__") [.str i t, .ref p]) Q E s := by
  refine GQ.call_here F.slot_str_eq (typeIs_str s i t) F.entry_str_eq (F.args_str_eq_2 _ _) ?_
  obtain ⟨hp, g, d, tk, os⟩ := s
  wp_walk using AutoSeq1.wpAny_loadPart' h
  exact q
theorem dec_none (q : Q .notImplemented s) : wpAny (model prog w) A (call (.builtin "NoneType.__eq__") [.none, .ref p]) Q E s := by
  refine GQ.call_here F.slot_NoneType_eq (show s.TypeIs .none "NoneType" from rfl) F.entry_NoneType_eq (F.args_NoneType_eq_2 _ _) ?_
  obtain ⟨hp, g, d, tk, os⟩ := s
  wp_walk
  exact q
theorem dec_list {l : Addr} (h : s.heap.get? p = some (PySem.W.instObj C dx)) (hl : ∃ o, s.heap.get? l = some o ∧ o.cls = .type "list") (hs : PySem.W.Looks (model prog w) s.heap (isSubtype (.ref C) (.type "list")) false) (q : Q .notImplemented s) : wpAny (model prog w) A (call (.builtin "list.__eq__") [.ref l, .ref p]) Q E s := by
  refine GQ.call_here F.slot_list_eq hl F.entry_list_eq (F.args_list_eq_2 _ _) ?_
  obtain ⟨hp, g, d, tk, os⟩ := s
  have sub : ∀ {A' : Around} {E' : Value → Shared → Prop} {Q' : Bool → Shared → Prop}, Q' false ⟨hp, g, d, tk, os⟩ → wpAny (model prog w) A' (isSubtype (.ref C) (.type "list")) Q' E' ⟨hp, g, d, tk, os⟩ := fun q => hs.here q
  wp_walk using AutoSeq1.wpAny_loadPart' h, sub
  exact q
theorem dec_tuple {l : Addr} (h : s.heap.get? p = some (PySem.W.instObj C dx)) (hl : ∃ o, s.heap.get? l = some o ∧ o.cls = .type "tuple") (hs : PySem.W.Looks (model prog w) s.heap (isSubtype (.ref C) (.type "tuple")) false) (q : Q .notImplemented s) : wpAny (model prog w) A (call (.builtin "tuple.__eq__") [.ref l, .ref p]) Q E s := by
  refine GQ.call_here F.slot_tuple_eq hl F.entry_tuple_eq (F.args_tuple_eq_2 _ _) ?_
  obtain ⟨hp, g, d, tk, os⟩ := s
  have sub : ∀ {A' : Around} {E' : Value → Shared → Prop} {Q' : Bool → Shared → Prop}, Q' false ⟨hp, g, d, tk, os⟩ → wpAny (model prog w) A' (isSubtype (.ref C) (.type "tuple")) Q' E' ⟨hp, g, d, tk, os⟩ := fun q => hs.here q
  wp_walk using AutoSeq1.wpAny_loadPart' h, sub
  exact q
/-- the left side declines, the right one has an own __eq__ -/
theorem cmp_refl {K : PySem.W.Frag} {h₀ : Heap} {L f : Addr} {m : Str → Option Value} {od : Option Obj} {ox : Obj} {a : Value} {Ta id : String} (hu : A.units < cLine) (F : Fr h₀ L s.heap m) (X₀ : K.In h₀) (I : PySem.W.InstAt s.heap p ox C od)
    (ha : s.TypeIs a Ta) (slot : Slot Ta (cmpInfo .Eq).2.1 id) (hsub : PySem.W.Looks (model prog w) s.heap (isSubtype (.ref C) (.type Ta)) false) (hs : PySem.W.findIn K (.ref C) (cmpInfo .Eq).2.2 = some (some (.ref f))) (hf : PySem.W.isFn K (.ref f) = true)
    (dec : wpAny (model prog w) A (call (.builtin id) [a, .ref p]) (fun v s' => v = .notImplemented ∧ s' = s) E s)
    (h : wpAny (model prog w) A (call (.ref f) [.ref p, a]) (PySem.W.CmpBack Q) E s) : wpAny (model prog w) A (richCompare .Eq a (.ref p)) Q E s := by
  have X := X₀.keeps F.keep
  have one : wpAny (model prog w) A (tryCompare (.ref p) (cmpInfo .Eq).2.2 a) (fun r s' => ∃ v, r = some v ∧ Q v s') E s := by
    unfold tryCompare
    refine wpAny_bind (PySem.W.ifBound_K X I hs hf (wpAny_mono h (fun v s' hv => ?_) fun _ _ e => e))
    cases v <;> first | exact hv.elim | exact wpAny_pure ⟨_, rfl, hv⟩
  unfold richCompare
  simp only [ha.oneThing_none]
  refine wpAny_holding (wpAny_bind (wpAny_cRoomFor hu ?_))
  refine wpAny_bind (wpAny_typeOf ha (wpAny_bind (I.type.here ?_)))
  rw [if_pos (show (Value.type Ta != Value.ref C) = true from rfl)]
  refine wpAny_bind (hsub.here ?_)
  simp only [Bool.false_eq_true, if_false, Bool.not_false, if_true]
  refine wpAny_bind (m := tryCompare a _ (.ref p)) (wpAny_tryCompare_declines ha slot (wpAny_mono dec (fun v s' z => ?_) fun _ _ e => e))
  obtain ⟨rfl, rfl⟩ := z
  refine ⟨rfl, ?_⟩
  refine wpAny_bind (wpAny_mono one (fun r s' z => ?_) fun _ _ e => e)
  obtain ⟨v, rfl, hq⟩ := z
  exact wpAny_pure hq
end
/-- a value of a built-in kind that declines -/
inductive LeftV (H : Hp) : V → Prop
  | non : LeftV H .non
  | int (i : Int) : LeftV H (.int i)
  | str (z : Str) : LeftV H (.str z)
  | lst {a : Addr} {xs : List V} (h : H a = some (.lst xs)) : LeftV H (.ref a)
  | tup {a : Addr} {xs : List V} (h : H a = some (.tup xs)) : LeftV H (.ref a)
section
variable {X : Cx}
def rEqR (C : Addr) (sp : Sp) (E : XK) : R2 := fun x y H Q => ∃ a dx fs, y = .ref a ∧ H a = some (.ins C dx fs) ∧ LeftV H x ∧ sp [y, x] H Q E
theorem op_eqR {CX : CXT} {k : Nat} {C f : Addr} {fd : FuncData} {ps : List Str} {sp : Sp} {E : XK} (Fn : FnOk X.prog X.w X.K X.mg X.base CX k f fd ps sp) (hr : Room k X.A)
    (no : ∀ T ∈ ["int", "str", "NoneType", "list", "tuple"], PySem.W.kitOne X.K (.ref C) (.type T) = some false)
    (hs : PySem.W.findIn X.K (.ref C) "__eq__" = some (some (.ref f))) (hf : PySem.W.isFn X.K (.ref f) = true) (hb : Binds X.K fd ps []) (hx : Passes CX X E) : OpR X (compareOp .Eq) (rEqR C sp E) := by
  intro pins s σ H x y v u Q I rx ry hq
  obtain ⟨a, dx, fs, rfl, ha, lv, hsp⟩ := hq
  cases ry
  obtain ⟨mA, O, _⟩ := ins_get I.hok ha
  obtain ⟨od, J, _⟩ := O.look
  obtain ⟨m, hF⟩ := I.fr
  show wpAny (model X.prog X.w) X.A (richCompare .Eq v (.ref a)) (EP X pins σ Q) X.xe s
  have sub : ∀ T ∈ ["int", "str", "NoneType", "list", "tuple"], PySem.W.Looks (model X.prog X.w) s.heap (isSubtype (.ref C) (.type T)) false := fun T hT => by
    have e := no T hT
    unfold PySem.W.kitOne at e
    have ne : (Value.ref C == Value.type T) = false := by rfl
    rw [ne, if_neg Bool.false_ne_true] at e
    exact (PySem.W.kit_cls I.kIn e).2.2
  have fin : wpAny (model X.prog X.w) X.A (call (.ref f) [.ref a, v]) (PySem.W.CmpBack (EP X pins σ Q)) X.xe s := by
    refine wpAny_mono (run_at Fn hr rfl hb hx I (.cons (show L2.RelV (V.ref a) (Value.ref a) from rfl) (.cons rx .nil)) hsp) (fun v s' hv => ?_) fun _ _ z => z
    cases v <;> first | exact hv | (obtain ⟨w, _, _, z, _⟩ := hv; exact (notImpl_no z).elim)
  have O' : s.heap.get? a = some (PySem.W.instObj C dx) := O.1
  cases lv with
  | non =>
    cases (show v = Value.none from rx)
    exact cmp_refl hr.units0 hF I.ok.mod.kin J (show s.TypeIs .none "NoneType" from rfl) F.slot_NoneType_eq (sub _ (by decide)) hs hf (dec_none ⟨rfl, rfl⟩) fin
  | int i =>
    obtain ⟨t, e⟩ := (show ∃ t, v = Value.int i t from rx)
    subst e
    exact cmp_refl hr.units0 hF I.ok.mod.kin J (typeIs_int s i t) F.slot_int_eq (sub _ (by decide)) hs hf (dec_int O' ⟨rfl, rfl⟩) fin
  | str i =>
    obtain ⟨t, e⟩ := (show ∃ t, v = Value.str i t from rx)
    subst e
    exact cmp_refl hr.units0 hF I.ok.mod.kin J (typeIs_str s i t) F.slot_str_eq (sub _ (by decide)) hs hf (dec_str O' ⟨rfl, rfl⟩) fin
  | @lst b xs h =>
    cases (show v = Value.ref b from rx)
    obtain ⟨its, r, hl, _⟩ := I.list (show SqL X.K H b xs from SqL.of h)
    obtain ⟨o, ho, hc, _⟩ := hl.isList
    have tl : ∃ o, s.heap.get? b = some o ∧ o.cls = .type "list" := ⟨_, ho, hc⟩
    exact cmp_refl hr.units0 hF I.ok.mod.kin J tl F.slot_list_eq (sub _ (by decide)) hs hf (dec_list O' tl (sub _ (by decide)) ⟨rfl, rfl⟩) fin
  | @tup b xs h =>
    cases (show v = Value.ref b from rx)
    obtain ⟨its, r, hl, _⟩ := I.tuple (show SqT X.K H b xs from SqT.of h)
    obtain ⟨o, ho, hc, _⟩ := hl
    have tl : ∃ o, s.heap.get? b = some o ∧ o.cls = .type "tuple" := ⟨_, ho, hc⟩
    exact cmp_refl hr.units0 hF I.ok.mod.kin J tl F.slot_tuple_eq (sub _ (by decide)) hs hf (dec_tuple O' tl (sub _ (by decide)) ⟨rfl, rfl⟩) fin
theorem op_or {op : Value → Value → Sem Value} {r1 r2 : R2} (h1 : OpR X op r1) (h2 : OpR X op r2) : OpR X op fun x y H Q => r1 x y H Q ∨ r2 x y H Q := fun pins s σ H x y v u Q I rx ry h => h.elim (h1 pins s σ H x y v u Q I rx ry) (h2 pins s σ H x y v u Q I rx ry)
theorem kx_eqOwn {K : PySem.W.Frag} (h : X.K = K) {CX : CXT} {k : Nat} {C f : Addr} {fd : FuncData} {ps : List Str} {sp : Sp} {E : XK} (F : FnOk X.prog X.w X.K X.mg X.base CX k f fd ps sp) (hr : Room k X.A)
    (hs : PySem.W.findIn X.K (.ref C) "__eq__" = some (some (.ref f))) (hf : PySem.W.isFn X.K (.ref f) = true) (hb : Binds X.K fd ps []) (hx : Passes CX X E) : OpR X (compareOp .Eq) (rEqOwn K C sp E) := by
  subst h
  exact op_eqOwn F hr hs hf hb hx
theorem kx_catT {K : PySem.W.Frag} (h : X.K = K) : OpR X (binaryOp .Add) (rCatT K) := by subst h; exact op_catT
end
end GS
/-! Texts of data where nothing is being shown (the guards are told); whole roots. -/
namespace GS
open PySem PySem.Spec PyProof.Rows L2
/-! ### whole roots -/
def rRoot : List V → Hp → VK → Prop := fun vs H Q => ∃ i : Int, vs = [.int i] ∧ 0 ≤ i ∧ i.toNat.log2 < 13000 ∧ ∀ r : Nat, r * r ≤ i.toNat → i.toNat < (r + 1) * (r + 1) → Q (.int (r : Int)) H
theorem cr_root {X : Cx} : CallR X (.builtin "math.isqrt") rRoot := by
  intro pins s σ H vs us Q I r h
  obtain ⟨i, rfl, h0, hz, q⟩ := h
  obtain ⟨u, rfl, t, rfl⟩ := vals1 r
  have sp := Float64.isqrt_spec i.toNat
  exact call_function_meets PySem.W.MGF.kind_isqrt PySem.W.MGF.plain_isqrt PySem.W.MGF.entry_isqrt (PySem.W.MGF.args_isqrt _) (PySem.W.mg_run_isqrt i t (by omega) (by omega) (by omega)).meets ⟨.int _, H, I.tok _, ⟨_, rfl⟩, q _ sp.1 sp.2⟩
/-! ### data -/
mutual
inductive Dat (K : PySem.W.Frag) (H : Hp) : V → PyData → Prop
  | non : Dat K H .non .none
  | bl (b : Bool) : Dat K H (.bl b) (.bool b)
  | int (i : Int) : Dat K H (.int i) (.int i)
  | str (x : Str) : Dat K H (.str x) (.str x)
  | lst {a : Addr} {xs : List V} {ds : List PyData} : SqL K H a xs → Dats K H xs ds → Dat K H (.ref a) (.list ds)
  | tup {a : Addr} {xs : List V} {ds : List PyData} : SqT K H a xs → Dats K H xs ds → Dat K H (.ref a) (.tuple ds)
inductive Dats (K : PySem.W.Frag) (H : Hp) : List V → List PyData → Prop
  | nil : Dats K H [] []
  | cons {x : V} {xs : List V} {d : PyData} {ds : List PyData} : Dat K H x d → Dats K H xs ds → Dats K H (x :: xs) (d :: ds)
end
section
variable {X : Cx} {pins : List (Addr × Obj)} {σ : L2.St} {H : Hp} {s : Shared}
mutual
theorem Dat.reads (I : Inv X pins σ H s) : ∀ {x : V} {d : PyData}, Dat X.K H x d → ∀ {v : Value}, RelV x v → ∃ as, Reads s.heap v d as
  | _, _, .non, v, r => ⟨[], by cases (show v = Value.none from r); exact .none⟩
  | _, _, .bl b, v, r => ⟨[], by cases (show v = Value.bool b from r); exact .bool b⟩
  | _, _, .int i, v, r => ⟨[], by obtain ⟨t, e⟩ := (show ∃ t, v = Value.int i t from r); cases e; exact .int i t⟩
  | _, _, .str x, v, r => ⟨[], by obtain ⟨t, e⟩ := (show ∃ t, v = Value.str x t from r); cases e; exact .str x t⟩
  | _, _, .lst (a := a) hs hd, v, r => by
    cases (show v = Value.ref a from r)
    obtain ⟨its, rv, ⟨o, n, e, hc, _, ho⟩, _⟩ := I.list hs
    obtain ⟨as, ra⟩ := Dats.reads I hd rv
    exact ⟨_, .list e hc ho ra⟩
  | _, _, .tup (a := a) hs hd, v, r => by
    cases (show v = Value.ref a from r)
    obtain ⟨its, rv, ⟨o, e, hc, n, ho⟩, _⟩ := I.tuple hs
    obtain ⟨as, ra⟩ := Dats.reads I hd rv
    exact ⟨_, .tuple e hc ho ra⟩
theorem Dats.reads (I : Inv X pins σ H s) : ∀ {xs : List V} {ds : List PyData}, Dats X.K H xs ds → ∀ {us : List Value}, Vals xs us → ∃ as, ReadsAll s.heap us ds as
  | _, _, .nil, us, r => by cases r; exact ⟨_, .nil⟩
  | _, _, .cons hx ht, us, r => by
    cases r with
    | cons r1 r2 =>
      obtain ⟨a1, k1⟩ := Dat.reads I hx r1
      obtain ⟨a2, k2⟩ := Dats.reads I ht r2
      exact ⟨_, .cons k1 k2⟩
end
end
theorem Dats.ints {K : PySem.W.Frag} {H : Hp} : ∀ ns : List Int, Dats K H (ns.map V.int) (ns.map PyData.int)
  | [] => .nil
  | n :: ns => .cons (.int n) (Dats.ints ns)
theorem Dats.bools {K : PySem.W.Frag} {H : Hp} : ∀ ns : List Bool, Dats K H (ns.map V.bl) (ns.map PyData.bool)
  | [] => .nil
  | n :: ns => .cons (.bl n) (Dats.bools ns)
/-- repr(x), x any list or tuple of data -/
def rShow (K : PySem.W.Frag) : List V → Hp → VK → Prop := fun vs H Q => ∃ (a : Addr) (d : PyData), vs = [.ref a] ∧ Dat K H (.ref a) d ∧ d.showable = true ∧ d.hasDict = false ∧ d.shown.length ≤ sizeLine ∧ d.depth ≤ 60 ∧ Q (.str d.shown) H
theorem cr_show {X : Cx} (hg : X.A.guards = some []) (hu : X.A.units + 64 < cLine) : CallR X (.builtin "repr") (rShow X.K) := by
  intro pins s σ H vs us Q I r h
  obtain ⟨a, d, rfl, hd, h1, h2, h3, h4, q⟩ := h
  obtain ⟨u, rfl, rv⟩ := vals1 r
  cases (show u = Value.ref a from rv)
  obtain ⟨as, rd⟩ := hd.reads I (v := .ref a) rfl
  exact repr_of_reads' rd h1 (fun z => by rw [h2] at z; cases z) hg (by omega) (fun _ _ e => e) (fun h' u tk k => ⟨.str d.shown, H, I.kept k, ⟨u, rfl⟩, q⟩) h3
/-- two texts of data are alike where the data are -/
theorem show_eq {d e : PyData} (h : d = e) : d.shown = e.shown := by rw [h]
end GS
/-! Defs that are called where nothing is being shown. -/
namespace GS
open PySem PySem.Spec PyProof.Rows L2
/-- what a def keeps to, where nothing is being shown -/
structure FnG (P : Program) (w : World) (K : PySem.W.Frag) (mg : PySem.Str → Option Value) (base : Heap) (CX : CXT) (k : Nat) (f : Addr) (fd : FuncData) (ps : List PySem.Str) (sp : Sp) : Prop where
  wide : ∀ vs H Q E, sp vs H Q E → vs.length = ps.length
  goes : ∀ (A : Around), A.guards = some [] → Room k A → ∀ (outer : List Env) (s : Shared) (H : Hp) (args : Args) (us : List Value) (vs : List V) (Q : VK) (E : XK),
    Env0 P w K mg base A outer s H → BindsTo s fd args (ps.zip us) → Vals vs us → sp vs H Q E → codeAny (model P w) A (.call (.ref f) args) (CR CX outer P w H s Q E) s
section
variable {P : Program} {w : World} {K : PySem.W.Frag} {mg : PySem.Str → Option Value} {base : Heap} {CX : CXT} {k : Nat} {f : Addr} {fd : FuncData} {ps : List PySem.Str} {sp : Sp}
theorem FnG.of (F : FnOk P w K mg base CX k f fd ps sp) : FnG P w K mg base CX k f fd ps sp :=
  ⟨F.len, fun A _ room outer s H args us vs Q E e b v q => F.run A outer s H args us vs Q E room e b v q⟩
theorem guards_deeper {A : Around} {env : Env} (h : A.guards = some []) : (A.deeper env).guards = some [] := h
theorem end_of {A : Around} {outer : List Env} {s : Shared} {H : Hp} {E : XK} {cx : Cx} {Q : VK} (e1 : cx.s_0 = s) (e2 : cx.H_0 = H) (e3 : cx.prog = P) (e4 : cx.w = w) (e5 : cx.fs = frs outer) (e6 : cx.ex = []) {σ' : L2.St} {H' : Hp} {s' : Shared} {v : V} {u : Value}
    (J : Inv cx [] σ' H' s') (rv : RelV v u) (q : Q v H') : CE outer P w H s Q u s' := by
  subst e1 e2 e3 e4
  refine ⟨v, H', J.os, J.bare, ?_, J.hok, rv, q⟩
  have b := J.base
  rw [e5, e6] at b
  exact b
theorem okG {x qual : PySem.Str} {params : Arguments} {body : List Stmt} {scope : Scope} {dvs : List V} {kws : List (PySem.Str × V)} {N : List PySem.Str} (F : FunD K x qual params body scope dvs kws f fd) (S : FnScope N ps scope) (wide : ∀ vs H Q E, sp vs H Q E → vs.length = ps.length)
    (text : ∀ (cdv : Value) (A : Around) (outer : List Env) (s : Shared) (H : Hp) (vs : List V) (Q : VK) (E : XK), A.guards = some [] → Room k (A.deeper (envOfC qual scope s.heap.objs.size f cdv)) → sp vs H Q E →
      ∃ t, PSs (cxOf CX P w K mg base N qual scope f cdv A outer s H E) body t ∧ t { nx := fun _ H' => Q .non H', rt := Q } (start N vs) H) : FnG P w K mg base CX (k + 1) f fd ps sp := by
  obtain ⟨oc, od, dV, kV, doc, pm, an, cdv, ct, osl, rfl, known, code, -, -⟩ := F.ex
  refine ⟨wide, fun A quiet room outer s H args us vs Q E e bind same want => ?_⟩
  have stays : ∀ b o, base.get? b = some o → s.heap.get? b = some o := fun b o z => (e.bs b o z).1
  have inK : K.In s.heap := e.mod.kin.keeps stays
  have free : s.heap.NoLimit := e.mod.nolimit.keeps stays
  refine codeAny_call_function room.depth (inK _ _ known) rfl S.co S.gen rfl (PySem.W.codeRec_of inK code) (bind _ _ _ _ ?_)
  refine wpAny_newFunctionEnv_cells S.kind ?slots fun env made s1 laid => ?run
  case slots =>
    intro y hy
    obtain ⟨n, v⟩ := y
    have hn := (List.of_mem_zip hy).1
    cases S.par n hn with
    | inl z => exact .inl z
    | inr z => exact .inr ⟨z, PySem.W.cellsFrom_some _ _ _ (.inl z)⟩
  case run =>
    subst made
    refine ⟨free.keeps laid.toInCall.keep, codeAny_func ?_⟩
    obtain ⟨t, reads, goal⟩ := text cdv A outer s H vs Q E quiet (room.deeper _) want
    have begun := inv_start (CX := CX) (E := E) S room.hd e (wide _ _ _ _ want) same laid
    refine wpAny_mono (reads.run [] s1 (start N vs) H _ begun goal) (fun way s' z => ?_) fun err s' z => z
    match way, z with
    | .ret u, ⟨v, σ', H', J, rv, q⟩ => exact end_of (A := A) (E := E) rfl rfl rfl rfl rfl rfl J rv q
    | .next, ⟨σ', H', J, q⟩ => exact end_of (A := A) (E := E) (v := V.non) (u := Value.none) rfl rfl rfl rfl rfl rfl J rfl q
    | .brk, ⟨_, _, _, q⟩ => exact False.elim q
    | .cont, ⟨_, _, _, q⟩ => exact False.elim q
end
section
variable {X : Cx} {CX : CXT} {k : Nat} {f : Addr} {fd : FuncData} {ps : List PySem.Str} {sp : Sp} {dvs : List V} {ds : List Value} {E : XK} {x : PySem.Str} {p pos : Pos} {e : Expr} {es : List Expr} {t : TA}
theorem goes_fn {pins : List (Addr × Obj)} {σ : L2.St} {H : Hp} {s : Shared} {Q : VK} {us : List Value} {vs : List V} (F : FnG X.prog X.w X.K X.mg X.base CX k f fd ps sp) (quiet : X.A.guards = some []) (room : Room k X.A) (hb : Binds X.K fd ps ds) (hd : Vals dvs ds) (out : Passes CX X E)
    (I : Inv X pins σ H s) (r : Vals vs us) (want : sp (vs ++ dvs) H Q E) : wpAny (model X.prog X.w) X.A (call (.ref f) us) (EP X pins σ Q) X.xe s := by
  have all := r.append hd
  have many : (us ++ ds).length = ps.length := all.length ▸ F.wide _ _ _ _ want
  refine wpAny_call (codeAny_mono (F.goes X.A quiet room X.stack s H ⟨us, []⟩ (us ++ ds) (vs ++ dvs) Q E I.env0 (hb s us I.kIn many) all want) fun res s' z => ?_)
  match res, z with
  | .error err, z => exact out pins σ H s err s' I z
  | .ok (.ret u), z => exact I.after z
  | .ok .next, z => exact False.elim z
  | .ok .brk, z => exact False.elim z
  | .ok .cont, z => exact False.elim z
theorem pe_callG (F : FnG X.prog X.w X.K X.mg X.base CX k f fd ps sp) (quiet : X.A.guards = some []) (room : Room k X.A) (hg : Gl X x) (hm : X.mg x = some (.ref f)) (hk : PySem.W.keepIn X.K (.ref f) = true) (hb : Binds X.K fd ps ds) (hd : Vals dvs ds) (out : Passes CX X E)
    (ha : PA X (e :: es) t) (hdb : (x == ("__debug__" : PySem.Str)) = false := by decide) (he : starEach (e :: es) X.env = (false, eval e X.env) :: starEach es X.env := by rfl) (hpl : (backTo pos (starEach es X.env)).any (·.1) = false := by rfl) :
    PE X (.Call (.Name x p) (e :: es) [] pos) (tCall sp dvs E t) :=
  ⟨fun pins s σ H Q I h => wpAny_Call_Name_kw (ld_glob I hg hm (PySem.W.callWith_K (h₀ := X.base) I.ok.mod.kin hk (thn (ha.run pos pins s σ H _ I h) fun us s1 ⟨vs, H1, I1, r, q⟩ => ⟨I1.kIn, goes_fn F quiet room hb hd out I1 r q⟩) he hpl) hdb)⟩
theorem pe_callG0 (F : FnG X.prog X.w X.K X.mg X.base CX k f fd ps sp) (quiet : X.A.guards = some []) (room : Room k X.A) (hg : Gl X x) (hm : X.mg x = some (.ref f)) (hk : PySem.W.keepIn X.K (.ref f) = true) (hb : Binds X.K fd ps ds) (hd : Vals dvs ds) (out : Passes CX X E)
    (hdb : (x == ("__debug__" : PySem.Str)) = false := by decide) : PE X (.Call (.Name x p) [] [] pos) (tCall sp dvs E tNil) :=
  ⟨fun pins s σ H Q I h => wpAny_Call_Name_kw (ld_glob I hg hm (PySem.W.callWith_K0 I.kIn hk (goes_fn (us := []) F quiet room hb hd out I .nil h)) hdb)⟩
end
end GS
/-! The law's own call, where nothing is being shown; tables of code objects. -/
namespace GS
open PySem PySem.Spec PyProof.Rows L2 LamX
open Classical in
/-- what is tracked ahead of the law: the tables, the script -/
noncomputable def Ahead (K : PySem.W.Frag) (a : Addr) (L : Obj) (cs : List (Addr × Addr)) (ns : List Int) : Hp := fun b =>
  if b ∈ cs.map (·.2) then some (.tbl #[]) else if b = a ∧ K.lookup a = none then some (.frz L (.lst (ns.map V.int))) else none
section
variable {P : Program} {w : World} {K : PySem.W.Frag} {mg mb : PySem.Str → Option Value} {a : Addr} {cs : List (Addr × Addr)} {s₁ : Shared} {vs : List Value} {ns : List Int}
theorem ahead_tab {L : Obj} {b : Addr} (h : b ∈ cs.map (·.2)) : Ahead K a L cs ns b = some (.tbl #[]) := by unfold Ahead; rw [if_pos h]
theorem ahead_is {L : Obj} (b : Addr) : Ahead K a L cs ns b = none ∨ (b ∈ cs.map (·.2) ∧ Ahead K a L cs ns b = some (.tbl #[])) ∨ (b = a ∧ K.lookup a = none ∧ Ahead K a L cs ns b = some (.frz L (.lst (ns.map V.int)))) := by
  unfold Ahead
  split
  · rename_i h; exact .inr (.inl ⟨h, rfl⟩)
  · split
    · rename_i h; exact .inr (.inr ⟨h.1, h.2, rfl⟩)
    · exact .inl rfl
theorem scene (KX : K.In s₁.heap) (hns : s₁.heap.Ns mainGlobals mg) (hb : s₁.heap.Ns builtinsNs mb) (hbb : ∀ x : PySem.Str, x ≠ "__name__" → mb x = bootBuiltins x) (lim : s₁.heap.NoLimit) (calm : s₁.gens = #[])
    (tabs : ∀ p ∈ cs, s₁.heap.get? p.2 = some { cls := .none, data := .fields #[] }) (notK : ∀ p ∈ cs, K.lookup p.2 = none) (codes : ∀ p ∈ cs, PySem.W.CodeHd s₁.heap p.1 p.2)
    (blt : cs ≠ [] → ∃ (bm : Addr) (ob : Obj), mg "__builtins__" = some (.ref bm) ∧ bm ≠ builtinsNs ∧ s₁.heap.get? bm = some ob ∧ ob.cls = .type "module" ∧ ob.dict = some builtinsNs ∧ ob.data = .plain)
    (isL : s₁.heap.get? a = some { cls := .type "list", data := .seq vs.toArray }) (isI : IntsAre vs ns) (short : ns.length ≤ sizeLine) :
    ∃ (H : Hp) (base : Heap), (∀ p ∈ cs, H p.2 = some (.tbl #[])) ∧ SqL K H a (ns.map V.int) ∧ K.In base ∧ base.Ns mainGlobals mg ∧ (∀ p ∈ cs, TabB base mg p.1 p.2) ∧ Env0 P w K mg base callerA [] s₁ H ∧
      ∀ u s', CE [] P w H s₁ (fun v _ => v = .bl true) u s' → u = Value.bool true ∧ OldK s₁.heap s'.heap ∧ s'.os = s₁.os ∧ AllBare s'.gens := by
  have same := vals_ints isI
  have long := isI.length
  have tabAt : ∀ b, b ∈ cs.map (·.2) → s₁.heap.get? b = some { cls := .none, data := .fields #[] } := by
    intro b z
    obtain ⟨p, m, rfl⟩ := List.mem_map.mp z
    exact tabs p m
  have aNot : a ∉ cs.map (·.2) := by
    intro z
    have e := tabAt a z
    rw [isL] at e
    injection e with e
    injection e with _ _ e
    cases e
  let H := Ahead K a { cls := .type "list", data := .seq vs.toArray } cs ns
  have free : ∀ (b : Addr) (o : Obj), s₁.heap.get? b = some o → (∀ l n, o.data ≠ .seq l n) → o.data ≠ .fields #[] → H b = none := by
    intro b o e n1 n2
    rcases ahead_is (K := K) (a := a) (cs := cs) (ns := ns) (L := { cls := .type "list", data := .seq vs.toArray }) b with z | ⟨z, -⟩ | ⟨rfl, -, -⟩
    · exact z
    · rw [tabAt b z] at e
      injection e with e
      exact absurd (congrArg Obj.data e).symm n2
    · rw [isL] at e
      injection e with e
      exact absurd (congrArg Obj.data e).symm (n1 _ _)
  have hide : ∀ (b : Addr) (o : Obj), s₁.heap.get? b = some o → (∀ l n, o.data ≠ .seq l n) → o.data ≠ .fields #[] → (hidT s₁.heap H).get? b = some o := fun b o e n1 n2 => hidT_get e (free b o e n1 n2)
  have names : ∀ (b : Addr) (m : PySem.Str → Option Value), s₁.heap.Ns b m → (hidT s₁.heap H).Ns b m := by
    intro b m ⟨o, es, ep, e, d, r⟩
    exact ⟨o, es, ep, hide b o e (fun l n z => by rw [d] at z; cases z) (fun z => by rw [d] at z; cases z), d, r⟩
  have inK : K.In (hidT s₁.heap H) := by
    intro b o e
    refine hidT_get (KX b o e) ?_
    rcases ahead_is (K := K) (a := a) (cs := cs) (ns := ns) (L := { cls := .type "list", data := .seq vs.toArray }) b with z | ⟨z, -⟩ | ⟨rfl, z, -⟩
    · exact z
    · obtain ⟨p, m, rfl⟩ := List.mem_map.mp z
      rw [notK p m] at e
      cases e
    · rw [z] at e
      cases e
  have hok : HOk P w H s₁.heap := by
    intro b o e
    rcases ahead_is (K := K) (a := a) (cs := cs) (ns := ns) (L := { cls := .type "list", data := .seq vs.toArray }) b with z | ⟨z, q⟩ | ⟨rfl, -, q⟩
    · have e' := z.symm.trans e
      cases e'
    · have e' := q.symm.trans e
      cases e'
      exact tabAt b z
    · have e' := q.symm.trans e
      cases e'
      exact ⟨isL, by simpa using short, vs, _, same, isL⟩
  refine ⟨H, hidT s₁.heap H, fun p m => ahead_tab (List.mem_map.mpr ⟨p, m, rfl⟩), ?_, inK, names _ _ hns, ?_, ?_, ?_⟩
  · cases z : K.lookup a with
    | some o =>
      have e := KX a o z
      rw [isL] at e
      cases e
      exact .inr ⟨_, vs.toArray, _, z, rfl, rfl, rfl, by rw [List.size_toArray, long]; exact short, by simpa using same⟩
    | none => exact .inl (.inr ⟨_, by show Ahead _ _ _ _ _ a = _; unfold Ahead; rw [if_neg aNot, if_pos ⟨rfl, z⟩]⟩)
  · intro p m
    have here := tabs p m
    obtain ⟨bm, ob, b1, b2, b3, b4, b5, b6⟩ := blt (List.ne_nil_of_mem m)
    obtain ⟨og, es, ep, eg, dg, -⟩ := hns
    refine ⟨?_, ⟨bm, ob, b1, b2, ?_, ?_, hide bm ob b3 (fun l n z => by rw [b6] at z; cases z) (fun z => by rw [b6] at z; cases z), b4, b5, b6⟩, ?_⟩
    · obtain ⟨o, us, file, tf, flags, tg, inF, text, tt, e1, r1, r2, r3, r4⟩ := codes p m
      refine ⟨o, us, file, tf, flags, tg, inF, text, tt, hide p.1 o e1 (fun l n z => by rw [r2] at z; cases z) (fun z => ?_), r1, r2, r3, r4⟩
      rw [r2] at z
      cases z
      simp at r3
    · intro z
      rw [z, eg] at b3
      cases b3
      rw [dg] at b6
      cases b6
    · intro z
      rw [z, here] at b3
      cases b3
      cases b6
    · intro z
      rw [z, here] at eg
      cases eg
      cases dg
  · exact ⟨rfl, ⟨inK, names _ _ hns, ⟨mb, names _ _ hb, hbb⟩, let ⟨mc, l1, l2⟩ := lim; ⟨mc, names _ _ l1, l2⟩⟩, fun b o e => of_hidT e, Nat.le_of_eq (hidT_size _ _), trivial, fun b z => absurd z (by simp [frs]), hok, .of_eq calm⟩
  · intro u s' ⟨v, H', os, bare, un, hok', rv, q⟩
    have q' : v = .bl true := q
    subst q'
    have ru : u = Value.bool true := rv
    have kept : ∀ b o, b ∉ cs.map (·.2) → s₁.heap.get? b = some o → s'.heap.get? b = some o := by
      intro b o nb e
      rcases ahead_is (K := K) (a := a) (cs := cs) (ns := ns) (L := { cls := .type "list", data := .seq vs.toArray }) b with z | ⟨z, -⟩ | ⟨rfl, -, z⟩
      · exact un.keep b o e z (by simp [frs]) (by simp)
      · exact absurd z nb
      · have e2 := (hok' b _ (un.frzs b _ _ z)).1
        rw [isL] at e
        cases e
        exact e2
    have more : ∀ p ∈ cs, ∃ l : Array Value, s'.heap.get? p.2 = some { cls := .none, data := .fields l } := by
      intro p m
      obtain ⟨l, z⟩ := un.tbls p.2 #[] (ahead_tab (List.mem_map.mpr ⟨p, m, rfl⟩))
      exact ⟨_, hok' p.2 _ z⟩
    refine ⟨ru, ⟨fun b o e => ?_, fun b o e => ?_⟩, os, bare⟩
    · by_cases z : b ∈ cs.map (·.2)
      · obtain ⟨p, m, rfl⟩ := List.mem_map.mp z
        obtain ⟨l, g⟩ := more p m
        rw [tabs p m] at e
        cases e
        exact .inr (.inl ⟨((codes p m).tab (tabs p m)).isCodeTable, rfl, #[], l, rfl, by rw [Array.empty_append]; exact g⟩)
      · exact .inl (kept b o z e)
    · by_cases z : b ∈ cs.map (·.2)
      · obtain ⟨p, m, rfl⟩ := List.mem_map.mp z
        obtain ⟨l, g⟩ := more p m
        exact ⟨_, g⟩
      · exact ⟨o, kept b o z e⟩
end
end GS
/-! The end of a law's row whose def is proved where nothing is being shown. -/
namespace GS
open PySem PySem.Spec PyProof.Rows L2 LamX
theorem none_out {P : Program} {w : World} {H : Hp} {s s' : Shared} {e : Value} (c : L2.CX P w [] H s (fun _ _ _ => False) e s') : False := by
  obtain ⟨a, B, H', cls, d, -, -, -, -, -, -, -, z⟩ := c
  exact z
/-- the end: the script's bits are told, no guard stands, cs are the code objects with a table (none where the law makes no lambda) -/
theorem end_show {l : PySem.W.OpenLaw} {k n : Nat} {q : Program} {loose : List PySem.Str} {XP : (PySem.Str → Option Value) → Heap → Prop} {YP : World → Heap → Prop} {d : DefRec} {x : PySem.Str} (most : l.most = some n) (line : n ≤ sizeLine) (plain : d.params.defaults = []) (room : Room k callerA)
    (F : ∀ (w : World) (mg : PySem.Str → Option Value) (fa : Addr) (h : Heap), YP w h → h.Ns mainGlobals mg → mg d.name = some (.ref fa) → ∃ (K : PySem.W.Frag) (fd : FuncData) (cs : List (Addr × Addr)) (sp : Sp), K.In h ∧
      (∀ p ∈ cs, h.get? p.2 = some { cls := .none, data := .fields #[] }) ∧ (∀ p ∈ cs, K.lookup p.2 = none) ∧ (∀ p ∈ cs, PySem.W.CodeHd h p.1 p.2) ∧ (∀ (s : Shared) (u : Value), BindsTo s fd ⟨[u], []⟩ [(x, u)]) ∧
      (∀ (H : Hp) (a : Addr) (ns : List Int), ns.length ≤ n → (∀ z ∈ ns, Builtin.Int.intBits z ≤ 1048576) → (∀ p ∈ cs, H p.2 = some (.tbl #[])) → SqL K H a (ns.map V.int) → sp [.ref a] H (fun v _ => v = .bl true) fun _ _ _ => False) ∧
      ∀ base : Heap, K.In base → base.Ns mainGlobals mg → (∀ p ∈ cs, TabB base mg p.1 p.2) → FnG l.prog w K mg base (L2.CX l.prog w) k fa fd [x] sp) :
    PySem.W.WalkO q loose XP YP l.row.toRowW d [] (fun f vs => PySem.call f vs) := by
  refine Att.attach_callB most plain fun w s₀ s₁ mg mb fa o pm cd doc a vs ns Gr Yp _ _ _ named there numb short bits gens => ?_
  obtain ⟨K, fd, cs, sp, KX, tabs, notK, codes, binds, goes, ok⟩ := F w mg fa _ Yp Gr.T.g named
  obtain ⟨H, base, ht, hs, inK, ns', tb, e0, ends⟩ := scene (P := l.prog) (w := w) KX Gr.T.g Gr.T.b Gr.T.builtins Gr.T.nolimit gens tabs notK codes (fun _ => Gr.T.bmain) there numb (Nat.le_trans short line)
  refine codeAny_mono ((ok base inK ns' tb).goes callerA rfl room [] s₁ H ⟨[.ref a], []⟩ [.ref a] [.ref a] _ _ e0 (binds s₁ (.ref a)) (.cons rfl .nil) (goes H a ns short bits ht hs)) fun r s' z => ?_
  match r, z with
  | .error e, z => exact (none_out z).elim
  | .ok (.ret u), z =>
    obtain ⟨ru, r2⟩ := ends u s' z
    exact ⟨by rw [ru], r2⟩
  | .ok .next, z => exact False.elim z
  | .ok .brk, z => exact False.elim z
  | .ok .cont, z => exact False.elim z
end GS
/-! A text times an integer; sorted(..), tuple(..) within a comprehension. -/
namespace GS
open PySem PySem.Spec PyProof.Rows L2
def rMulS : V → V → Hp → VK → Prop := fun x y H Q => ∃ (z : PySem.Str) (n : Int), x = .str z ∧ y = .int n ∧ MulOk z n ∧ Q (.str (Txt.mul z n)) H
theorem op_mulS {X : Cx} : OpR X (binaryOp .Mult) rMulS := by
  intro pins s σ H x y v u Q I rx ry h
  obtain ⟨z, n, rfl, rfl, ok, q⟩ := h
  obtain ⟨t, rfl⟩ := rx
  obtain ⟨t', rfl⟩ := ry
  exact SB.mul ok fun t' k => ⟨.str _, H, I.tok _, ⟨_, rfl⟩, q⟩
theorem mulOk_small {z : PySem.Str} {n : Int} (h0 : 1 ≤ n) (h1 : n ≤ 100000) (h2 : z.length ≤ 100) : MulOk z n := by
  refine ⟨?_, fun _ _ => ?_, fun _ _ => ?_⟩
  · rw [decide_eq_false (by omega), decide_eq_false (by omega)]; rfl
  · have : (100 : Int) ≤ (2 ^ 63 - 1) / n := by
      rw [Int.le_ediv_iff_mul_le (by omega)]
      omega
    omega
  · have e : n.toNat ≤ 100000 := by omega
    have : z.length * n.toNat ≤ 100 * 100000 := Nat.mul_le_mul h2 e
    unfold Builtin.Str.tooLong
    simp
    have : (100 * 100000 : Nat) ≤ sizeLine := by decide
    omega
theorem kx_tupOf {X : Cx} {K : PySem.W.Frag} (h : X.K = K) : CallR X (.type "tuple") (fun xs H Q => ∃ p ys, xs = [.ref p] ∧ ((SqL K H p ys ∧ ∀ l, H l = none → Q (.ref l) (upd H l (.tup ys))) ∨ (SqT K H p ys ∧ Q (.ref p) H))) := by subst h; exact call_tuple_of
theorem kx_sortI {X : Cx} {K : PySem.W.Frag} (h : X.K = K) : CallR X (.builtin "sorted") (rSortedI K) := by subst h; exact cr_sortedI
end GS
/-! sum, factorial, comb; xs[k::-1]; two ways of a call. -/
namespace GS
open PySem PySem.Spec PyProof.Rows L2
theorem kx_sum {X : Cx} {K : PySem.W.Frag} (h : X.K = K) (hc : X.calm = true) : CallR X (.builtin "sum") (rSum K) := by subst h; exact cr_sum hc
theorem kx_max {X : Cx} {K : PySem.W.Frag} (h : X.K = K) (hc : X.calm = true) : CallR X (.builtin "max") (rMax K) := by subst h; exact cr_max hc
theorem kx_piseq {X : Cx} {K : PySem.W.Frag} (h : X.K = K) {tg l : Expr} {tl : TE} (hl : PE X l tl) : PI X tg l (iSeq K tl) := by subst h; exact pi_seq hl
theorem kx_pilist {X : Cx} {K : PySem.W.Frag} (h : X.K = K) {tg l : Expr} {tl : TE} (hl : PE X l tl) : PI X tg l (iList K tl) := by subst h; exact pi_list hl
theorem kx_pitup {X : Cx} {K : PySem.W.Frag} (h : X.K = K) {tg l : Expr} {tl : TE} (hl : PE X l tl) : PI X tg l (iTup K tl) := by subst h; exact pi_tup hl
def rFac : List V → Hp → VK → Prop := fun vs H Q => ∃ n : Nat, vs = [.int n] ∧ n ≤ 20000 ∧ Q (.int (Builtin.Math.factorialNat n : Nat)) H
theorem cr_fac {X : Cx} : CallR X (.builtin "math.factorial") rFac := by
  intro pins s σ H vs us Q I r h
  obtain ⟨n, rfl, hn, q⟩ := h
  obtain ⟨t, rfl⟩ : ∃ t, us = [.int (n : Int) t] := by
    cases r with
    | cons a b => cases b; obtain ⟨t, rfl⟩ := a; exact ⟨t, rfl⟩
  refine PySem.W.mc_factorial (by omega) (by omega) fun _ => ⟨.int _, H, I.tok _, ⟨_, rfl⟩, ?_⟩
  rw [Int.toNat_natCast]
  exact q
def rComb : List V → Hp → VK → Prop := fun vs H Q => ∃ a b : Int, vs = [.int a, .int b] ∧ 0 ≤ a ∧ 0 ≤ b ∧ a ≤ 18000 ∧ Q (.int (PySem.W.mcComb a b)) H
theorem cr_comb {X : Cx} : CallR X (.builtin "math.comb") rComb := by
  intro pins s σ H vs us Q I r h
  obtain ⟨a, b, rfl, h1, h2, h3, q⟩ := h
  obtain ⟨t, u, rfl⟩ := Vals.int2 r
  exact PySem.W.mc_comb h1 h2 (by omega) (.inr h3) fun _ => ⟨.int _, H, I.tok _, ⟨_, rfl⟩, q⟩
/-- a call that goes one of two ways -/
theorem cr_two {X : Cx} {f : Value} {r1 r2 : List V → Hp → VK → Prop} (h1 : CallR X f r1) (h2 : CallR X f r2) : CallR X f (fun xs H Q => r1 xs H Q ∨ r2 xs H Q) := by
  intro pins s σ H vs us Q I r h
  rcases h with h | h
  · exact h1 pins s σ H vs us Q I r h
  · exact h2 pins s σ H vs us Q I r h
theorem rev_bounds (n m : Nat) : sliceBounds (some (n : Int)) none (some (-1)) m = (((min (n + 1) m : Nat) : Int) - 1, -1, -1) := by
  unfold sliceBounds
  simp
  omega
theorem rev_pick (items : Array Value) (n : Nat) : slicePick items (some (n : Int)) none (some (-1)) = (items.toList.take (n + 1)).reverse.toArray := by
  unfold slicePick
  rw [rev_bounds]
  show ((sliceRange (((min (n + 1) items.size : Nat) : Int) - 1) (-1) (-1)).filterMap (items[·]?)).toArray = _
  rw [PySem.W.krv_sliceRange, PySem.W.krv_range, List.filterMap_reverse]
  congr 2
  have h := PySem.W.krv_all ((items.toList.take (n + 1)).toArray)
  simp only [List.size_toArray, List.length_take, Array.length_toList] at h
  rw [show items.size = items.toList.length from rfl] at h ⊢
  rw [← h]
  have key : ∀ (l : List Nat), (∀ i ∈ l, i < min (n + 1) items.toList.length) → l.filterMap (items[·]?) = l.filterMap ((items.toList.take (n + 1)).toArray[·]?) := by
    intro l
    induction l with
    | nil => intro _; rfl
    | cons i l ih =>
      intro hl
      have hi := hl i (by simp)
      have e : items[i]? = (items.toList.take (n + 1)).toArray[i]? := by
        have hn : i < n + 1 := by omega
        simp [List.getElem?_take, hn]
      rw [List.filterMap_cons, List.filterMap_cons, e, ih fun k hk => hl k (by simp [hk])]
  exact key _ fun i hi => List.mem_range.mp hi
def tRevF (K : PySem.W.Frag) (te tl : TE) : TE := fun σ H Q => te σ H fun x H1 => tl σ H1 fun i H2 => ∃ z : Int, i = .int z ∧ ∃ (a : Addr) (xs : List V) (n : Nat), x = .ref a ∧ z = n ∧ SqL K H2 a xs ∧ ∀ p, H2 p = none → Q (.ref p) (upd H2 p (.lst (xs.take (n + 1)).reverse))
theorem r_revF {K : PySem.W.Frag} {te tl : TE} {σ : L2.St} {H : Hp} {Q : VK} (q : te σ H fun x H1 => tl σ H1 fun i H2 => ∃ z : Int, i = .int z ∧ ∃ (a : Addr) (xs : List V) (n : Nat), x = .ref a ∧ z = n ∧ SqL K H2 a xs ∧ ∀ p, H2 p = none → Q (.ref p) (upd H2 p (.lst (xs.take (n + 1)).reverse))) : tRevF K te tl σ H Q := q
theorem pe_revF {X : Cx} {K : PySem.W.Frag} (hK : X.K = K) {e lo : Expr} {te tl : TE} {k : Nat} {p1 p2 p3 pos : Pos} (he : PE X e te) (hl : PE X lo tl) : PE X (.Subscript e (.Slice (some lo) none (some (.UnaryOp .USub (.Constant (.int 1) k p1) p2)) p3) pos) (tRevF K te tl) := by
  subst hK
  refine ⟨fun pins s σ H Q I h => ?_⟩
  refine Subscript_ (thn (he.run pins s σ H _ I h) fun v s1 ⟨x, H1, I1, r1, q1⟩ => ?_)
  have hst : PO X (some (.UnaryOp .USub (.Constant (.int 1) k p1) p2)) (tPart (tUn (rU fun i => .int (-i)) (tC (.int 1)))) := po_some (pe_un un_neg pe_int)
  have hlo := po_some hl
  refine wpAny_Slice (thn (hlo.run pins s1 σ H1 (fun o H2 => ∃ (a : Addr) (xs : List V) (n : Nat), x = .ref a ∧ o = some (n : Int) ∧ SqL X.K H2 a xs ∧ ∀ p, H2 p = none → Q (.ref p) (upd H2 p (.lst (xs.take (n + 1)).reverse))) I1 ?_) fun vl s2 ⟨l, H2, I2, pl, el⟩ => ?_)
  · have e : (fun (i : V) (H2 : Hp) => ∃ z : Int, i = .int z ∧ ∃ (a : Addr) (xs : List V) (n : Nat), x = .ref a ∧ z = n ∧ SqL X.K H2 a xs ∧ ∀ p, H2 p = none → Q (.ref p) (upd H2 p (.lst (xs.take (n + 1)).reverse)))
        = fun (i : V) (H2 : Hp) => ∃ z : Int, i = .int z ∧ ∃ (a : Addr) (xs : List V) (n : Nat), x = .ref a ∧ some z = some (n : Int) ∧ SqL X.K H2 a xs ∧ ∀ p, H2 p = none → Q (.ref p) (upd H2 p (.lst (xs.take (n + 1)).reverse)) := by
      simp only [Option.some.injEq]
    show tl σ H1 _
    rw [← e]
    exact q1
  obtain ⟨a, xs, n, ex, eo, hx, q⟩ := el
  subst ex eo
  cases r1
  refine thn (po_none.run pins s2 σ H2 (fun o H3 => o = none ∧ H3 = H2) I2 ⟨rfl, rfl⟩) fun vu s3 ⟨u, H3, I3, pu, eu, e3⟩ => ?_
  subst eu e3
  refine thn (hst.run pins s3 σ H3 (fun o H4 => o = some (-1) ∧ H4 = H3) I3 ⟨1, rfl, -1, rfl, rfl, rfl⟩) fun vs s4 ⟨o, H4, I4, ps, eo, e4⟩ => ?_
  subst eo e4
  have I5 : Inv X pins σ H4 { s4 with heap := s4.heap.push { cls := .type "slice", data := .fields #[vl, vu, vs] } } := I4.kept (t' := s4.toks) fun b ob q => Heap.get?_push_of_some _ q
  obtain ⟨its, r, ht, hz⟩ := I5.list hx
  have hlen := r.length
  show wpAny (model X.prog X.w) X.A (subscriptTail e (.Slice (some lo) none (some (.UnaryOp .USub (.Constant (.int 1) k p1) p2)) p3) (.ref a) (.ref s4.heap.objs.size)) (EP X pins σ Q) X.xe { s4 with heap := s4.heap.push { cls := .type "slice", data := .fields #[vl, vu, vs] } }
  refine tail_any (ops := [.ref a, .ref s4.heap.objs.size]) ht.isList.typeIs (PySem.slot_list_getitem.lookup) ?_ (by with_unfolding_all rfl)
  refine wpAny_getItem_list_slice ht.isList (Heap.IsSliceOf.new _ vl vu vs) pl pu ps (by decide) ?_ (by rw [List.size_toArray]; omega)
  rw [rev_pick]
  refine ⟨.ref _, _, I5.laid (t' := s4.toks) (o := .lst (xs.take (n + 1)).reverse) (fun b ob q => Heap.get?_push_of_some _ q) (Nat.le_refl _) ?_, rfl, q _ (I5.hok.fresh (Nat.le_refl _))⟩
  exact ⟨by rw [List.length_reverse, List.length_take]; omega, _, 0, (r.take (n + 1)).reverse, Heap.get?_push_size _ rfl⟩
end GS
/-! An error kept behind its suite; isinstance and fields of it. -/
namespace GS
open PySem PySem.Spec PySem.Calls PyProof.Rows L2 TL
/-- an error that was caught and kept: its class, its dict -/
def ErrO (a : Addr) (cls : Value) (d : Option Addr) : HO := .ext fun h => ∃ oe, h.get? a = some oe ∧ Zc cls d oe ∧ ∃ vs, oe.data = .fields vs
theorem errO_ok {P : Program} {w : World} {H : Hp} {h : Heap} {a : Addr} {cls : Value} {d : Option Addr} {oe : Obj} {vs : Array Value} (e : h.get? a = some oe) (z : Zc cls d oe) (f : oe.data = .fields vs) : ObjOk P w H h a (ErrO a cls d) :=
  ⟨⟨oe, e, z, vs, f⟩, ⟨oe, e⟩, fun _ _ ⟨o, q, r⟩ k => ⟨o, k o q, r⟩⟩
section
variable {X : Cx} {pins : List (Addr × Obj)} {σ : L2.St} {H : Hp} {s sI : Shared} {a : Addr} {B : Heap} {cls : Value} {d : Option Addr} {D : Ends} {Wout : WX}
/-- an object that lay outside is tracked from now on -/
theorem Inv.track {φ : Heap → Prop} (I : Inv X pins σ H s) (n0 : X.s_0.heap.get? a = none) (na : H a = none) (nL : a ≠ X.env.locals) (nC : ∀ x c, X.env.cells.lookup x = some c → c ≠ a) (nP : ∀ p ∈ X.pn ++ pins, p.1 ≠ a) (new : ObjOk X.prog X.w (upd H a (.ext φ)) s.heap a (.ext φ)) :
    Inv X pins σ (upd H a (.ext φ)) s := by
  refine ⟨I.ok, I.os, I.bare, ⟨I.base.keep, I.base.slot, fun b o e n hx => ?_, I.base.there, fun b xs e => ?_, fun b o u e => ?_, fun b ps e => ?_⟩, I.loc, I.cell, ?_, fun x c e => ?_, fun p hp => ?_, fun b u e => ?_, I.len⟩
  · rw [upd_ne (fun z => by rw [z, n0] at e; cases e)]
    exact I.base.free b o e n hx
  · have q := I.base.tups b xs e
    rw [upd_ne (ne_of_none q na)]
    exact q
  · have q := I.base.frzs b o u e
    rw [upd_ne (ne_of_none q na)]
    exact q
  · obtain ⟨m, q⟩ := I.base.tbls b ps e
    exact ⟨m, by rw [upd_ne (ne_of_none q na)]; exact q⟩
  · rw [upd_ne (Ne.symm nL)]
    exact I.free
  · rw [upd_ne (nC x c e)]
    exact I.freeC x c e
  · obtain ⟨h1, h2, h3⟩ := I.pin p hp
    exact ⟨h1, by rw [upd_ne (nP p hp)]; exact h2, h3⟩
  · by_cases hb : b = a
    · subst hb
      rw [upd_same] at e
      cases e
      exact new
    · rw [upd_ne hb] at e
      exact (I.hok b u e).stay (fun c v _ q => q) (fun c q => by rw [upd_ne (ne_of_none q na)]; exact q) fun c xs q => by rw [upd_ne (ne_of_none q na)]; exact q
theorem Caught.off2 (c : Caught X pins σ H a B cls d sI s) (hst : X.stack = X.env :: X.outer) : ∀ b ∈ frs X.stack, b ≠ a := fun b hb z => by
  obtain ⟨oe, vs, e1, _, e3⟩ := c.fl.there
  rw [hst] at hb
  obtain ⟨_, o, ho, hnf⟩ := c.fl.2.2.1.mem hb
  rw [z, e1] at ho
  exact hnf vs (by rw [← Option.some.inj ho]; exact e3)
theorem Caught.out (c : Caught X pins σ H a B cls d sI s) (hst : X.stack = X.env :: X.outer) (hx : X.ex = []) : X.s_0.heap.get? a = none := by
  have nb : B.get? a = none := c.fl.2.1
  cases e : X.s_0.heap.get? a with
  | none => rfl
  | some o =>
    obtain ⟨o', q⟩ := c.inv.base.there a o e (by rw [hx]; exact fun z => nomatch z)
    have z := c.nb a o' q (fun h => c.off2 hst a h rfl)
    rw [nb] at z
    cases z
theorem Caught.pins_ne (c : Caught X pins σ H a B cls d sI s) (hst : X.stack = X.env :: X.outer) : ∀ p ∈ X.pn ++ pins, p.1 ≠ a := fun p hp z => by
  obtain ⟨h1, h2, h3, h4, h5⟩ := c.inv.pin p hp
  have nb : B.get? a = none := c.fl.2.1
  have q := c.nb p.1 p.2 h1 (fun h => c.off2 hst _ h z)
  rw [z, nb] at q
  cases q
/-- the ends of a suite whose error is kept: its name i goes -/
def asEndsK (i : Nat) (a : Addr) (cls : Value) (d : Option Addr) (D : Ends) : Ends := { nx := fun σ' H' => H' a = none → D.nx (σ'.set i none) (upd H' a (ErrO a cls d)), rt := D.rt, bk := fun σ' H' => D.bk (σ'.set i none) H', ct := fun σ' H' => D.ct (σ'.set i none) H' }
def wKeep (K : PySem.W.Frag) (Wout : WX) (D : Ends) (cs : List Value) (i : Nat) (ts : Addr → Value → Option Addr → TS) : WX := fun cls d σ H => ∃ b, PySem.W.exmAny K cls cs = some b ∧ (b = true → ∀ a, H a = none → ts a cls d (asEndsK i a cls d D) (σ.set i (some (.ref a))) H) ∧ (b = false → Wout cls d σ H)
theorem keep_clause {t : Expr} {n : Str} {cs : List Value} {ts : Addr → Value → Option Addr → TS} {st : Stmt} {sts : List Stmt} {pos' : Pos} {i : Nat} (hc : MTest X t cs) (hN : X.N.Nodup) (hi : X.N[i]? = some n) (hln : X.env.kindOf n = some .local)
    (su : ∀ (a : Addr) (oe : Obj) (cls : Value) (d : Option Addr) (pn : List (Addr × Obj)), Zc cls d oe → (∃ vs, oe.data = .fields vs) → PSs (X.suite a ((a, oe) :: pn)) (st :: sts) (ts a cls d))
    (hst : X.stack = X.env :: X.outer) (hf : X.env.frame = some X.env.locals) (hx : X.ex = []) (tk : Takes X Wout)
    {s : Shared} (c : Caught X pins σ H a B cls d sI s) (w : wKeep X.K Wout D cs i ts cls d σ H) : wpAny (model X.prog X.w) X.A (handleBy (.ref a) X.env [.ExceptHandler (some t) (some n) (st :: sts) pos']) (SP X pins D) X.xe s := by
  obtain ⟨b, hb1, hyes, hno⟩ := w
  refine wpAny_handleBy_cons (codeAny_handlers_test ?_) (by intro q; cases q)
  refine mtest c hf hc hb1 fun s c => ?_
  cases b with
  | false => exact mclauses .nil hst hf tk c (hno rfl)
  | true =>
    refine codeAny_handlers_suite_as (c.again fun s4 c4 => ?_)
    obtain ⟨oe, z1, z2, S⟩ := c4.suite (M := model X.prog X.w) hf
    have ok := c4.here.ok
    have n0 := c4.out hst hx
    have nP := c4.pins_ne hst
    refine store_ok (X := X.suite a ((a, oe) :: (X.pn ++ pins))) (v := .ref a) S hN hi (.inl hln) rfl (fun s5 S5 => ?_) (.inr hln)
    have fin : ∀ {σ6 : L2.St} {H6 : Hp} {s6 : Shared}, Inv (X.suite a ((a, oe) :: (X.pn ++ pins))) [] σ6 H6 s6 → H6 a = none ∧ Inv X pins σ6 (upd H6 a (ErrO a cls d)) s6 := fun {σ6 H6 s6} S6 => by
      obtain ⟨h1, h2, h3, h4, h5⟩ := S6.pin (a, oe) (List.mem_append_left _ List.mem_cons_self)
      have J := S6.unsuite ok
      obtain ⟨vs, hv⟩ := z2
      refine ⟨h2, Inv.track J n0 h2 h3 (fun x c e q => ?_) nP (errO_ok h1 z1 hv)⟩
      obtain ⟨v, oc, ho, hd⟩ := J.cell x c e
      rw [q, h1] at ho
      cases ho
      exact h5 v hd
    refine wpAny_mono ((su a oe cls d (X.pn ++ pins) z1 z2).run [] s5 _ H (asEndsK i a cls d D) S5 (hyes rfl a c.na)) (fun f s6 hsp => ?_) (fun _ _ z => False.elim z)
    cases f with
    | next => exact let ⟨σ6, H6, S6, q6⟩ := hsp; gone_ok (fin S6).2 hN hi hln fun s7 J7 => ⟨_, _, J7, q6 (fin S6).1⟩
    | brk => exact let ⟨σ6, H6, S6, q6⟩ := hsp; gone_ok (S6.unsuite ok) hN hi hln fun s7 J7 => ⟨_, _, J7, q6⟩
    | cont => exact let ⟨σ6, H6, S6, q6⟩ := hsp; gone_ok (S6.unsuite ok) hN hi hln fun s7 J7 => ⟨_, _, J7, q6⟩
    | ret u => exact let ⟨v6, σ6, H6, S6, r6, q6⟩ := hsp; gone_ok (S6.unsuite ok) hN hi hln fun s7 J7 => ⟨_, _, _, J7, r6, q6⟩
/-- THE RULE: try: .. except A as x: .., x kept -/
theorem ps_try_keep {body : List Stmt} {t : Expr} {n : Str} {cs : List Value} {ts : Addr → Value → Option Addr → TS} {st : Stmt} {sts : List Stmt} {pos' pos : Pos} {i : Nat} {tb : WX → TS} (hst : X.stack = X.env :: X.outer) (hf : X.env.frame = some X.env.locals) (hx : X.ex = []) (tk : Takes X Wout)
    (hb : ∀ (W : WX) (pn : List (Addr × Obj)) (xe : Value → Shared → Prop), Takes (X.tr pn xe) W → PassesOwn (model X.prog X.w) X.A X.env xe → PSs (X.tr pn xe) body (tb W)) (hc : MTest X t cs) (hN : X.N.Nodup) (hi : X.N[i]? = some n) (hln : X.env.kindOf n = some .local)
    (su : ∀ (a : Addr) (oe : Obj) (cls : Value) (d : Option Addr) (pn : List (Addr × Obj)), Zc cls d oe → (∃ vs, oe.data = .fields vs) → PSs (X.suite a ((a, oe) :: pn)) (st :: sts) (ts a cls d)) :
    PS X (.Try body [.ExceptHandler (some t) (some n) (st :: sts) pos'] [] [] pos) (fun D σ H => tb (wKeep X.K Wout D cs i ts) D σ H) := by
  refine ⟨fun pins s σ H D I h => wpAny_Try_except ?_⟩
  have ok := I.ok
  have fr : X.A.frames = some (X.env :: X.outer) := by rw [ok.frames, hst]
  have B0 := hb (wKeep X.K Wout D cs i ts) (X.pn ++ pins) (fun e s₁ => wpAny (model X.prog X.w) X.A (noteFrame e X.env) (fun _ s₂ => wpAny (model X.prog X.w) X.A (setFlight e none) (fun _ s₃ => wpAny (model X.prog X.w) X.A (handleBy e X.env [.ExceptHandler (some t) (some n) (st :: sts) pos']) (SP X pins D) X.xe s₃) X.xe s₂) X.xe s₁)
    (fun u s' xx => by
      obtain ⟨a, B, sI, pins', σ', H', cls, d, rfl, J', nb, up, sky, na, os, ag, w⟩ := xx
      refine Sky.land Zc.steady fr hf (show Sky B (X.env :: X.outer) a (Zc cls d) X.env.locals s'.heap by rw [← hst]; exact sky) fun h3 fl3 up3 => ?_
      exact keep_clause hc hN hi hln su hst hf hx tk ⟨J'.ofTry ok, nb, up.trans up3, na, os, ag, fl3⟩ w) PassesOwn.looking
  refine wpAny_mono (B0.run [] s σ H D (I.toTry _) h) (fun f s1 hsp => ?_) (fun _ _ z => z)
  cases f with
  | next => exact let ⟨σ', H', J', q⟩ := hsp; wpAny_execs_nil ⟨σ', H', J'.ofTry ok, q⟩
  | brk => exact let ⟨σ', H', J', q⟩ := hsp; ⟨σ', H', J'.ofTry ok, q⟩
  | cont => exact let ⟨σ', H', J', q⟩ := hsp; ⟨σ', H', J'.ofTry ok, q⟩
  | ret u => exact let ⟨v, σ', H', J', r, q⟩ := hsp; ⟨v, σ', H', J'.ofTry ok, r, q⟩
end
/-! isinstance and fields of an error that is kept -/
section
variable {X : Cx} {pins : List (Addr × Obj)} {σ : L2.St} {H : Hp} {s : Shared} {a : Addr}
theorem inst_kept {C dd : Addr} {fs : List (Str × V)} (I : Inv X pins σ H s) (he : H a = some (ErrO a (.ref C) (some dd))) (there : H dd = some (.xd fs)) :
    ∃ oe od, PySem.W.InstAt s.heap a oe C (some od) ∧ ∀ n v, fs.lookup n = some v → ∃ u, RelV v u ∧ PySem.W.lookIn n od = some (some u) := by
  obtain ⟨mA, hns, hr⟩ := (show ObjOk X.prog X.w H s.heap dd (.xd fs) from I.hok dd _ there)
  obtain ⟨od, ho, hl⟩ := lookIn_ns hns
  obtain ⟨⟨oe, ha, hz, vs, hd⟩, _, _⟩ := (show ObjOk X.prog X.w H s.heap a (ErrO a (.ref C) (some dd)) from I.hok a _ he)
  have plain : PySem.W.notCls oe := by
    unfold PySem.W.notCls
    rw [hd]
  refine ⟨oe, od, ⟨ha, hz.1, plain, by rw [hz.2]; exact ho⟩, fun n v hv => ?_⟩
  obtain ⟨u, hu, ru⟩ := RelO.some_of (v := v) (o := mA n) (by rw [← hv]; exact hr n)
  exact ⟨u, ru, by rw [hl, hu]⟩
def rIsO (K : PySem.W.Frag) : List V → Hp → VK → Prop := fun xs H Q => ∃ (a : Addr) (c : V) (cv : Value) (b : Bool) (C dd : Addr) (fs : List (Str × V)), xs = [.ref a, c] ∧ (∀ u, RelV c u → u = cv) ∧ H a = some (ErrO a (.ref C) (some dd)) ∧ ExcC K C ∧ PySem.W.kitOne K (.ref C) cv = some b ∧ H dd = some (.xd fs) ∧ Q (.bl b) H
theorem cr_isO {K : PySem.W.Frag} (hk : X.K = K) : CallR X (.builtin "isinstance") (rIsO K) := by
  subst hk
  intro pins s σ H xs us Q I r got
  obtain ⟨a, c, cv, b, C, dd, fs, rfl, only, he, ec, e, there, q⟩ := got
  obtain ⟨u1, u2, rfl, r1, r2⟩ := vals2 r
  cases r1
  rw [only _ r2]
  obtain ⟨oe, od, i, _⟩ := inst_kept I he there
  exact PySem.W.kia_one (kit_err ec) I.kIn i e (fun z => nomatch z) fun tk => ⟨.bl b, H, I.kept (t' := tk) fun _ _ z => z, rfl, q⟩
def rIsOT (K : PySem.W.Frag) : List V → Hp → VK → Prop := fun xs H Q => ∃ (a tp : Addr) (cs : List V) (us : List Value) (b : Bool) (C dd : Addr) (fs : List (Str × V)), xs = [.ref a, .ref tp] ∧ H tp = some (.tup cs) ∧ Paired ClsV cs us ∧ H a = some (ErrO a (.ref C) (some dd)) ∧ ExcC K C ∧ PySem.W.kitAny K (.ref C) us = some b ∧ H dd = some (.xd fs) ∧ Q (.bl b) H
theorem cr_isOT {K : PySem.W.Frag} (hk : X.K = K) : CallR X (.builtin "isinstance") (rIsOT K) := by
  subst hk
  intro pins s σ H xs us Q I r got
  obtain ⟨a, tp, cs, ws, b, C, dd, fs, rfl, hT, k, he, ec, e, there, q⟩ := got
  obtain ⟨u1, u2, rfl, r1, r2⟩ := vals2 r
  cases r1
  cases (show u2 = Value.ref tp from r2)
  obtain ⟨oe, od, i, _⟩ := inst_kept I he there
  obtain ⟨_, its, rv, o, h1, h2, n, h3⟩ := (show ObjOk X.prog X.w H s.heap tp (.tup cs) from I.hok tp _ hT)
  have e3 := ClsV.all k rv
  subst e3
  obtain ⟨oc, od', dt, sl⟩ := o
  simp only at h2 h3
  subst h2 h3
  exact PySem.W.kia_tup (kit_err ec) I.kIn i h1 e (fun z => nomatch z) fun tk => ⟨.bl b, H, I.tok tk, rfl, q⟩
def tXO (K : PySem.W.Frag) (n : Str) (te : TE) : TE := fun σ H Q => te σ H fun x H1 => ∃ (a C dd : Addr) (fs : List (Str × V)) (v : V), x = .ref a ∧ H1 a = some (ErrO a (.ref C) (some dd)) ∧ XfC K C ∧ PySem.W.findIn K (.ref C) n = some none ∧ H1 dd = some (.xd fs) ∧ fs.lookup n = some v ∧ Q v H1
theorem pe_xO {K : PySem.W.Frag} {e : Expr} {te : TE} {pos : Pos} {n : Str} (hk : X.K = K) (he : PE X e te) (plain : attributeBase e n X.env (eval e X.env) = eval e X.env := by rfl) : PE X (.Attribute e n pos) (tXO K n te) := by
  subst hk
  refine ⟨fun pins s σ H Q I h => attr_of plain (thn (he.run pins s σ H _ I h) fun u s1 got => ?_)⟩
  obtain ⟨x, H1, I1, rx, a, C, dd, fs, v, rfl, hea, T, no_, there, l, q⟩ := got
  obtain rfl : u = Value.ref a := rx
  obtain ⟨oe, od, i, fields⟩ := inst_kept I1 hea there
  obtain ⟨u, ru, hu⟩ := fields n v l
  exact PySem.HandSPX.exc_get I1.kIn i T.ga T.gg T.exC (PySem.W.findObj_own T.hdC no_ rfl hu) (handed_of ru) ⟨v, H1, I1.tok _, ru, q⟩
end
end GS
/-! The head's facts with tables of code objects; defs that make lambdas; a def that calls what it got. -/
namespace GS
open PySem PySem.W PySem.Calls PyProof.Rows He
/-- what the head tells, the tables of the defs tf left out of the written part: empty -/
structure SaysL (fa : List He.Fa) (ex : List Chk) (fn : List He5.DefA) (tf : List Defn) (h : Heap) (K : PySem.W.Frag) : Prop where
  m : SaysM fa ex fn K
  hd : ∀ p ∈ tf, PySem.W.codeHdIn K (cT K p).1 (cT K p).2 = true
  out : ∀ p ∈ tf, K.lookup (cT K p).2 = none
  empty : ∀ p ∈ tf, h.get? (cT K p).2 = some { cls := .none, data := .fields #[] }
def obsLG (n : Nat) (fa : List He.Fa) (ex : List Chk) (fn : List He5.DefA) (tf : List Defn) (g : Addr → Option Obj) : He.AlD × Bool := (obsM fa ex fn (frT g (He5.asA g n)), tabsB g tf (frT g (He5.asA g n)))
theorem saysL_of {n : Nat} {fa : List He.Fa} {ex : List Chk} {fn : List He5.DefA} {tf : List Defn} {h : Heap} (e : obsLG n fa ex fn tf h.get? = (He5.valA fn, true)) : SaysL fa ex fn tf h (frT h.get? (He5.asA h.get? n)) := by
  have e1 : obsM fa ex fn (frT h.get? (He5.asA h.get? n)) = He5.valA fn := congrArg (fun z : He.AlD × Bool => z.1) e
  have h2 : tabsB h.get? tf (frT h.get? (He5.asA h.get? n)) = true := congrArg (fun z : He.AlD × Bool => z.2) e
  have key : ∀ p ∈ tf, PySem.W.codeHdIn (frT h.get? (He5.asA h.get? n)) (cT (frT h.get? (He5.asA h.get? n)) p).1 (cT (frT h.get? (He5.asA h.get? n)) p).2 = true ∧ ∃ o, h.get? (cT (frT h.get? (He5.asA h.get? n)) p).2 = some o ∧ emptyTab o = true := fun p hp => by
    obtain ⟨h3, h4⟩ := ba (List.all_eq_true.mp h2 p hp)
    refine ⟨h3, ?_⟩
    cases q : h.get? (cT (frT h.get? (He5.asA h.get? n)) p).2 with
    | none =>
      rw [q] at h4
      cases h4
    | some o =>
      rw [q] at h4
      exact ⟨o, rfl, h4⟩
  exact ⟨e1, fun p hp => (key p hp).1, fun p hp => by
    obtain ⟨_, o, q, z⟩ := key p hp
    exact frT_none q z, fun p hp => by
    obtain ⟨_, o, q, z⟩ := key p hp
    rw [q, emptyTab_eq z]⟩
def hookL (n : Nat) (fa : List He.Fa) (ex : List Chk) (fn : List He5.DefA) (tf : List Defn) : PySem.W.Hook where
  α := He.AlD × Bool
  obs s := obsLG n fa ex fn tf s.heap.get?
  val _ := (He5.valA fn, true)
  says _ h := ∃ K : PySem.W.Frag, K.In h ∧ SaysL fa ex fn tf h K
  of _ _ e := ⟨_, frT_in, saysL_of e⟩
  keeps := fun _ _ _ ⟨K, i, c⟩ k => ⟨K, Frag.In.keeps i k, ⟨c.m, c.hd, c.out, fun p hp => k _ _ (c.empty p hp)⟩⟩
theorem obsLG_eq {n : Nat} {fa : List He.Fa} {ex : List Chk} {fn : List He5.DefA} {tf : List Defn} {g : Addr → Option Obj} {s : Shared} (h : ∀ a, g a = s.heap.get? a) : obsLG n fa ex fn tf g = (hookL n fa ex fn tf).obs s := by
  obtain rfl : g = s.heap.get? := funext h
  rfl
theorem SaysL.code {fa : List He.Fa} {ex : List Chk} {fn : List He5.DefA} {tf : List Defn} {h : Heap} {K : PySem.W.Frag} (X : K.In h) (c : SaysL fa ex fn tf h K) : ∀ p ∈ tf, PySem.W.CodeHd h (cT K p).1 (cT K p).2 := fun p hp => codeHd_of_K X (c.hd p hp)
end GS
namespace GS
open PySem PySem.Spec PyProof.Rows L2 LamX
/-- a def whose code object is told -/
theorem okL {P : Program} {w : World} {K : PySem.W.Frag} {mg : PySem.Str → Option Value} {base : Heap} {CX : CXT} {k : Nat} {f : Addr} {fd : FuncData} {ps : List PySem.Str} {sp : Sp}
    {x qual : PySem.Str} {params : Arguments} {body : List Stmt} {scope : Scope} {dvs : List V} {kws : List (PySem.Str × V)} {N : List PySem.Str} {p : He.Defn} (hf : He.fAd K p = f) (F : FunD K x qual params body scope dvs kws f fd) (S : FnScope N ps scope) (wide : ∀ vs H Q E, sp vs H Q E → vs.length = ps.length)
    (text : ∀ (cdv : Value) (A : Around) (outer : List Env) (s : Shared) (H : Hp) (vs : List V) (Q : VK) (E : XK), cdv = .ref (He.cT K p).1 → A.guards = some [] → Room k (A.deeper (envOfC qual scope s.heap.objs.size f cdv)) → sp vs H Q E →
      ∃ t, PSs (cxOf CX P w K mg base N qual scope f cdv A outer s H E) body t ∧ t { nx := fun _ H' => Q .non H', rt := Q } (start N vs) H) : FnG P w K mg base CX (k + 1) f fd ps sp := by
  obtain ⟨oc, od, dV, kV, doc, pm, an, cdv, ct, osl, rfl, known, code, -, -⟩ := F.ex
  refine ⟨wide, fun A quiet room outer s H args us vs Q E e bind same want => ?_⟩
  have stays : ∀ b o, base.get? b = some o → s.heap.get? b = some o := fun b o z => (e.bs b o z).1
  have inK : K.In s.heap := e.mod.kin.keeps stays
  have free : s.heap.NoLimit := e.mod.nolimit.keeps stays
  have cd : cdv = .ref (He.cT K p).1 := by
    obtain ⟨c, hc⟩ := He.codeIn_ref code
    have lk := known
    rw [← hf] at lk
    have := He.codeOf_eq (c := c) lk hc
    rw [hc]
    show Value.ref c = Value.ref (He.codeOf K p)
    rw [this]
  refine codeAny_call_function room.depth (inK _ _ known) rfl S.co S.gen rfl (PySem.W.codeRec_of inK code) (bind _ _ _ _ ?_)
  refine wpAny_newFunctionEnv_cells S.kind ?slots fun env made s1 laid => ?run
  case slots =>
    intro y hy
    obtain ⟨n, v⟩ := y
    have hn := (List.of_mem_zip hy).1
    cases S.par n hn with
    | inl z => exact .inl z
    | inr z => exact .inr ⟨z, PySem.W.cellsFrom_some _ _ _ (.inl z)⟩
  case run =>
    subst made
    refine ⟨free.keeps laid.toInCall.keep, codeAny_func ?_⟩
    obtain ⟨t, reads, goal⟩ := text cdv A outer s H vs Q E cd quiet (room.deeper _) want
    have begun := inv_start (CX := CX) (E := E) S room.hd e (wide _ _ _ _ want) same laid
    refine wpAny_mono (reads.run [] s1 (start N vs) H _ begun goal) (fun way s' z => ?_) fun err s' z => z
    match way, z with
    | .ret u, ⟨v, σ', H', J, rv, q⟩ => exact end_of (A := A) (E := E) rfl rfl rfl rfl rfl rfl J rv q
    | .next, ⟨σ', H', J, q⟩ => exact end_of (A := A) (E := E) (v := V.non) (u := Value.none) rfl rfl rfl rfl rfl rfl J rfl q
    | .brk, ⟨_, _, _, q⟩ => exact False.elim q
    | .cont, ⟨_, _, _, q⟩ => exact False.elim q
end GS
namespace GS
open PySem PySem.Spec PyProof.Rows L2 LamX
def kiB (x y : Str) (b : Bool) : Chk := fun K => decide (PySem.W.kitOne K (.ref (He.ga K x)) (.ref (He.ga K y)) = some b)
theorem kiB_ok {K : PySem.W.Frag} {x y : Str} {b : Bool} (h : kiB x y b K = true) : PySem.W.kitOne K (.ref (He.ga K x)) (.ref (He.ga K y)) = some b := of_decide_eq_true h
theorem pe_two {X : Cx} {e : Expr} {t1 t2 : TE} (h1 : PE X e t1) (h2 : PE X e t2) : PE X e (fun σ H Q => t1 σ H Q ∨ t2 σ H Q) := ⟨fun pins s σ H Q I h => by
  rcases h with h | h
  · exact h1.run pins s σ H Q I h
  · exact h2.run pins s σ H Q I h⟩
end GS
/-! zip of a list and a tuple, in any mix. -/
namespace GS
open PySem PySem.Spec PyProof.Rows L2 TL
def SqX (K : PySem.W.Frag) (H : Hp) : Bool → Addr → List V → Prop
  | true, a, xs => SqT K H a xs
  | false, a, xs => SqL K H a xs
def itAt (h : Heap) : Bool → Addr → Addr → Nat → Prop
  | true, it, a, i => h.IsTupleIter it a i
  | false, it, a, i => h.IsListIter it a i
def isAt (h : Heap) : Bool → Addr → Array Value → Prop
  | true, a, its => h.IsTuple a its
  | false, a, its => h.IsList a its
def itObj : Bool → Addr → Obj
  | true, a => { cls := .type "tuple_iterator", data := .fields #[.ref a, .int 0 0] }
  | false, a => { cls := .type "list_iterator", data := .fields #[.ref a, .int 0 0] }
theorem dr_at {prog : Program} {w : World} {A : Around} (hh : A.handled = none) (t : Bool) (it a : Addr) (hne : a ≠ it) (items : Array Value) :
    Draws prog w A it [it, a] items.size (fun i v => items[i]? = some v) (fun i h => itAt h t it a i ∧ isAt h t a items) := by
  cases t with
  | true => exact Draws.tuple hh it a hne items
  | false => exact Draws.list hh it a hne items
theorem itAt_obj {h : Heap} {t : Bool} {it a : Addr} {i : Nat} (x : itAt h t it a i) : ∃ o, h.get? it = some o ∧ ∀ v, o.data ≠ .cell v := by
  cases t with
  | true => exact let ⟨o, e, _, d⟩ := x; ⟨o, e, fun v q => by rw [d] at q; cases q⟩
  | false => exact let ⟨o, e, _, d⟩ := x; ⟨o, e, fun v q => by rw [d] at q; cases q⟩
theorem itAt_keep {h h' : Heap} {t : Bool} {it a : Addr} {i : Nat} (x : itAt h t it a i) (k : ∀ o, h.get? it = some o → h'.get? it = some o) : itAt h' t it a i := by
  cases t with
  | true => exact Heap.IsTupleIter.at x k
  | false => exact Heap.IsListIter.at x k
theorem isAt_keep {h h' : Heap} {t : Bool} {a : Addr} {its : Array Value} (x : isAt h t a its) (k : ∀ o, h.get? a = some o → h'.get? a = some o) : isAt h' t a its := by
  cases t with
  | true => exact Heap.IsTuple.at x k
  | false => exact Heap.IsList.at x k
theorem isAt_lt {h : Heap} {t : Bool} {a : Addr} {its : Array Value} (x : isAt h t a its) : a < h.objs.size := by
  cases t with
  | true => exact let ⟨o, e, _⟩ := x; Heap.lt_size e
  | false => exact let ⟨o, e, _⟩ := x; Heap.lt_size e
theorem beg_at (t : Bool) (a : Addr) (items : Array Value) : Begins (.ref a) (itObj t a) fun h => isAt h t a items := by
  cases t with
  | true => exact begins_tuple a items
  | false => exact begins_list a items
theorem itAt_new {h : Heap} {t : Bool} {it a : Addr} (e : h.get? it = some (itObj t a)) : itAt h t it a 0 := by
  cases t with
  | true => exact ⟨_, e, rfl, rfl⟩
  | false => exact ⟨_, e, rfl, rfl⟩
section
variable {X : Cx} {pins : List (Addr × Obj)} {σ : L2.St} {H : Hp} {s : Shared} {t : Bool} {a : Addr} {xs : List V}
theorem sqX_get (I : Inv X pins σ H s) (h : SqX X.K H t a xs) : ∃ its, Vals xs its ∧ isAt s.heap t a its.toArray := by
  cases t with
  | true => obtain ⟨its, rv, p, _⟩ := I.tuple h; exact ⟨its, rv, p⟩
  | false => obtain ⟨its, rv, p, _⟩ := I.list h; exact ⟨its, rv, p.isList⟩
theorem sqX_inj (I : Inv X pins σ H s) {ys : List V} (h : SqX X.K H t a xs) (g : SqX X.K H t a ys) : xs = ys := by
  cases t with
  | true => exact I.tuple_inj h g
  | false => exact I.list_inj h g
end
def ItzX (K : PySem.W.Frag) (t1 t2 : Bool) (a b : Addr) : It :=
  ⟨fun i H => ∃ (xs ys : List V) (x y : V), SqX K H t1 a xs ∧ SqX K H t2 b ys ∧ xs[i]? = some x ∧ ys[i]? = some y,
    fun i H v H' => ∃ T x y, v = .ref T ∧ H T = none ∧ H' = upd H T (.tup [x, y]) ∧ (∀ xs, SqX K H t1 a xs → xs[i]? = some x) ∧ ∀ ys, SqX K H t2 b ys → ys[i]? = some y,
    fun i H => ∃ xs ys : List V, SqX K H t1 a xs ∧ SqX K H t2 b ys ∧ i ≤ xs.length ∧ i ≤ ys.length ∧ (i = xs.length ∨ i = ys.length)⟩
theorem turn_zipX {P : Program} {w : World} {K : PySem.W.Frag} {elts : List Expr} {kk : Nat} {tpos : Pos} {t1 t2 : Bool} {a b z TI TO i1 i2 : Addr} (D : ZipSep2 z TI TO i1 i2 [i1, a] [i2, b]) :
    Turn P w K (.Tuple elts kk tpos) (ItzX K t1 t2 a b) [z, TI, TO, i1, i2] z (fun i h => IsZip h z TI TO .none ∧ IsTupOf2 h TI (.ref i1) (.ref i2) ∧ (∃ x y, IsTupOf2 h TO x y) ∧ itAt h t1 i1 a i ∧ itAt h t2 i2 b i) where
  mem := by simp
  obj := fun i h st c hc => by
    obtain ⟨hz, hTI, ⟨x, y, hTO⟩, h1, h2⟩ := st
    have e' : c = z ∨ c = TI ∨ c = TO ∨ c = i1 ∨ c = i2 := by simpa using hc
    rcases e' with q | q | q | q | q
    · rw [q]; exact ⟨_, hz, fun v q => nomatch q⟩
    · rw [q]; exact ⟨_, hTI, fun v q => nomatch q⟩
    · rw [q]; exact ⟨_, hTO, fun v q => nomatch q⟩
    · rw [q]; exact itAt_obj h1
    · rw [q]; exact itAt_obj h2
  keep := fun i h h' st k => by
    obtain ⟨hz, hTI, ⟨x, y, hTO⟩, h1, h2⟩ := st
    exact ⟨k z (by simp) _ hz, k TI (by simp) _ hTI, ⟨x, y, k TO (by simp) _ hTO⟩, itAt_keep h1 fun o q => k i1 (by simp) o q, itAt_keep h2 fun o q => k i2 (by simp) o q⟩
  item := by
    intro X hP hw hK hc i pins s σ H E I hf st hg
    subst hP hw hK
    obtain ⟨hz, hTI, ⟨x0, y0, hTO⟩, h1, h2⟩ := st
    obtain ⟨xs, ys, x, y, hqx, hqy, hx, hy⟩ := hg
    obtain ⟨its, rv, p⟩ := sqX_get I hqx
    obtain ⟨its2, rv2, p2⟩ := sqX_get I hqy
    obtain ⟨u, hu, ru⟩ := rv.get hx
    obtain ⟨u2, hu2, ru2⟩ := rv2.get hy
    have hzl : z < s.heap.objs.size := Heap.lt_size hz
    have n1 : a ≠ i1 := fun e => by
      have := (hf i1 (by simp)).1
      have hh := itAt_obj h1
      rw [← e] at hh this
      obtain ⟨o, q, _⟩ := hh
      cases t1 with
      | true =>
        obtain ⟨o2, e2, c2, _⟩ := (show s.heap.IsTuple a its.toArray from p)
        obtain ⟨o3, e3, c3, _⟩ := (show s.heap.IsTupleIter i1 a i from h1)
        rw [← e, e2] at e3
        cases e3
        rw [c2] at c3
        exact absurd c3 (by decide)
      | false =>
        obtain ⟨o2, e2, c2, _⟩ := (show s.heap.IsList a its.toArray from p)
        obtain ⟨o3, e3, c3, _⟩ := (show s.heap.IsListIter i1 a i from h1)
        rw [← e, e2] at e3
        cases e3
        rw [c2] at c3
        exact absurd c3 (by decide)
    have n2 : b ≠ i2 := fun e => by
      cases t2 with
      | true =>
        obtain ⟨o2, e2, c2, _⟩ := (show s.heap.IsTuple b its2.toArray from p2)
        obtain ⟨o3, e3, c3, _⟩ := (show s.heap.IsTupleIter i2 b i from h2)
        rw [← e, e2] at e3
        cases e3
        rw [c2] at c3
        exact absurd c3 (by decide)
      | false =>
        obtain ⟨o2, e2, c2, _⟩ := (show s.heap.IsList b its2.toArray from p2)
        obtain ⟨o3, e3, c3, _⟩ := (show s.heap.IsListIter i2 b i from h2)
        rw [← e, e2] at e3
        cases e3
        rw [c2] at c3
        exact absurd c3 (by decide)
    have k1 : i < its.toArray.size := by have := (List.getElem?_eq_some_iff.mp hu).1; simpa using this
    have k2 : i < its2.toArray.size := by have := (List.getElem?_eq_some_iff.mp hu2).1; simpa using this
    refine wpAny_pyNext_zipD2_item D (dr_at (prog := X.prog) (w := X.w) (A := X.A.in1) (I.ok.hd hc) t1 i1 a n1 its.toArray) (dr_at (prog := X.prog) (w := X.w) (A := X.A.in1) (I.ok.hd hc) t2 i2 b n2 its2.toArray) hz hTI hTO ⟨h1, p⟩ ⟨h2, p2⟩ k1 k2 fun x1 x2 h' tk y1 y2 z' TO' st1' st2' hT hsz hk => ?_
    have e1 : x1 = u := by have : its[i]? = some x1 := by simpa using y1
                           rw [hu] at this; exact (Option.some.inj this).symm
    have e2 : x2 = u2 := by have : its2[i]? = some x2 := by simpa using y2
                            rw [hu2] at this; exact (Option.some.inj this).symm
    subst e1 e2
    refine ⟨_, rfl, wpAny_letOwnedTupleGo_zip (s := { s with heap := h', toks := tk }) z' fun h'' z'' sb => ?_⟩
    have hT2 : h''.get? s.heap.objs.size = some { cls := .type "tuple", data := .seq #[x1, x2] } := (sb.2 _ (Nat.ne_of_gt hzl)).trans hT
    have new : ObjOk X.prog X.w (upd H s.heap.objs.size (.tup [x, y])) h'' s.heap.objs.size (.tup [x, y]) :=
      ⟨by show 2 ≤ sizeLine; decide, [x1, x2], .cons ru (.cons ru2 .nil), ⟨_, hT2, rfl, _, rfl⟩⟩
    have I1 : Inv X pins σ (upd H s.heap.objs.size (.tup [x, y])) { s with heap := h'', toks := tk } :=
      I.turnedNew (t' := tk) (ch := [z, TI, TO, i1, i2]) (fun c o hb q => (sb.2 c (fun q' => hb (by simp [q']))).trans (hk c o (fun q' => hb (by simp [q'])) (fun q' => hb (by simp [q'])) (fun q' => hb (by simp [q'])) (fun q' => hb (by simp [q'])) q)) hf (Nat.le_refl _) new
    have TOi2 : TO ≠ i2 := D.Ti2
    refine ⟨.ref s.heap.objs.size, _, I1, rfl, ⟨_, x, y, rfl, I.hok.fresh (Nat.le_refl _), rfl, fun l hl => by rw [sqX_inj I hl hqx]; exact hx, fun l hl => by rw [sqX_inj I hl hqy]; exact hy⟩, ⟨z'', ?_, ⟨x1, x2, ?_⟩, ?_, ?_⟩, fun c hcm => ?_⟩
    · exact (sb.2 _ D.TIz).trans (hk _ _ D.TIz D.TITO D.TIi1 D.TIi2 hTI)
    · exact (sb.2 _ D.TOz).trans TO'
    · exact itAt_keep st1'.1 fun o q => (sb.2 _ (Ne.symm D.zi1)).trans q
    · exact itAt_keep st2'.1 fun o q => (sb.2 _ (Ne.symm D.zi2)).trans q
    · have hlt : c < s.heap.objs.size := by
        have e' : c = z ∨ c = TI ∨ c = TO ∨ c = i1 ∨ c = i2 := by simpa using hcm
        rcases e' with q | q | q | q | q
        · rw [q]; exact hzl
        · rw [q]; exact Heap.lt_size hTI
        · rw [q]; exact Heap.lt_size hTO
        · rw [q]; obtain ⟨_, e1, _⟩ := itAt_obj h1; exact Heap.lt_size e1
        · rw [q]; obtain ⟨_, e2, _⟩ := itAt_obj h2; exact Heap.lt_size e2
      rw [upd_ne (Nat.ne_of_lt hlt)]
      exact (hf c hcm).1
  done := by
    intro X hP hw hK hc i pins s σ H E I hf st hg
    subst hP hw hK
    obtain ⟨hz, hTI, ⟨x0, y0, hTO⟩, h1, h2⟩ := st
    obtain ⟨xs, ys, hqx, hqy, l1, l2, hend⟩ := hg
    obtain ⟨its, rv, p⟩ := sqX_get I hqx
    obtain ⟨its2, rv2, p2⟩ := sqX_get I hqy
    have m1 := rv.length
    have m2 := rv2.length
    have n1 : a ≠ i1 := fun e => by
      cases t1 with
      | true =>
        obtain ⟨o2, e2, c2, _⟩ := (show s.heap.IsTuple a its.toArray from p)
        obtain ⟨o3, e3, c3, _⟩ := (show s.heap.IsTupleIter i1 a i from h1)
        rw [← e, e2] at e3
        cases e3
        rw [c2] at c3
        exact absurd c3 (by decide)
      | false =>
        obtain ⟨o2, e2, c2, _⟩ := (show s.heap.IsList a its.toArray from p)
        obtain ⟨o3, e3, c3, _⟩ := (show s.heap.IsListIter i1 a i from h1)
        rw [← e, e2] at e3
        cases e3
        rw [c2] at c3
        exact absurd c3 (by decide)
    have n2 : b ≠ i2 := fun e => by
      cases t2 with
      | true =>
        obtain ⟨o2, e2, c2, _⟩ := (show s.heap.IsTuple b its2.toArray from p2)
        obtain ⟨o3, e3, c3, _⟩ := (show s.heap.IsTupleIter i2 b i from h2)
        rw [← e, e2] at e3
        cases e3
        rw [c2] at c3
        exact absurd c3 (by decide)
      | false =>
        obtain ⟨o2, e2, c2, _⟩ := (show s.heap.IsList b its2.toArray from p2)
        obtain ⟨o3, e3, c3, _⟩ := (show s.heap.IsListIter i2 b i from h2)
        rw [← e, e2] at e3
        cases e3
        rw [c2] at c3
        exact absurd c3 (by decide)
    refine wpAny_pyNext_zipD2_end D (dr_at (prog := X.prog) (w := X.w) (A := X.A.in1) (I.ok.hd hc) t1 i1 a n1 its.toArray) (dr_at (prog := X.prog) (w := X.w) (A := X.A.in1) (I.ok.hd hc) t2 i2 b n2 its2.toArray) hz hTI hTO ⟨h1, p⟩ ⟨h2, p2⟩ (by rw [List.size_toArray]; omega) (by rw [List.size_toArray]; omega) (by rw [List.size_toArray, List.size_toArray]; omega) fun h' tk hk => ⟨rfl, ?_⟩
    exact I.turnedL (t' := tk) (ch := [z, TI, TO, i1, i2]) (fun c o hb q => hk c o (fun q' => hb (by simp [q'])) (fun q' => hb (by simp [q'])) (fun q' => hb (by simp [q'])) (fun q' => hb (by simp [q'])) q) hf
  self := fun A i s Q E st h => wpAny_pyIter_zip st.1 h
def iZipX (K : PySem.W.Frag) (ta : TA) : TI := fun σ H R => ta σ H fun vs H1 => ∃ t1 t2 a b xs ys, vs = [.ref a, .ref b] ∧ SqX K H1 t1 a xs ∧ SqX K H1 t2 b ys ∧ R (ItzX K t1 t2 a b) H1
theorem pi_zipX {X : Cx} {e e2 : Expr} {ta : TA} {p pos tpos : Pos} {elts : List Expr} {kk : Nat} (hg : Gl X "zip") (hm : X.mg "zip" = none) (ha : PA X [e, e2] ta)
    (hs : starEach [e, e2] X.env = (false, eval e X.env) :: starEach [e2] X.env := by rfl) (hpl : (backTo pos (starEach [e2] X.env)).any (·.1) = false := by rfl) :
    PI X (.Tuple elts kk tpos) (.Call (.Name "zip" p) [e, e2] [] pos) (iZipX X.K ta) := by
  refine ⟨fun pins s σ H R I h => ?_⟩
  refine Call_ (ld_blt I hg hm PyProof.Rows.boot_zip (PyProof.Rows.callWith_type1 (thn (ha.run pos pins s σ H _ I h) fun us s1 ⟨vs, H1, I1, r1, q1⟩ => ?_) hs hpl))
  obtain ⟨t1, t2, a, b, xs, ys, ex, hqx, hqy, q⟩ := q1
  subst ex
  cases r1 with
  | cons r rr =>
    cases rr with
    | cons r' rr =>
      cases rr
      cases r
      cases r'
      have fresh5 : ∀ c, c ∈ [s1.heap.objs.size + 4, s1.heap.objs.size + 2, s1.heap.objs.size + 3, s1.heap.objs.size, s1.heap.objs.size + 1] → FpOk X pins H1 c := fun c hcm => by
        have e' : c = s1.heap.objs.size + 4 ∨ c = s1.heap.objs.size + 2 ∨ c = s1.heap.objs.size + 3 ∨ c = s1.heap.objs.size ∨ c = s1.heap.objs.size + 1 := by simpa using hcm
        have hle : s1.heap.objs.size ≤ c := by
          rcases e' with z | z | z | z | z
          · rw [z]; exact Nat.le_add_right _ _
          · rw [z]; exact Nat.le_add_right _ _
          · rw [z]; exact Nat.le_add_right _ _
          · rw [z]; exact Nat.le_refl _
          · rw [z]; exact Nat.le_add_right _ _
        exact I1.fpOk hle (I1.hok.fresh hle)
      obtain ⟨its, rv, p1⟩ := sqX_get I1 hqx
      obtain ⟨its2, rv2, p2⟩ := sqX_get I1 hqy
      refine zip_begins2 (beg_at t1 a its.toArray) (beg_at t2 b its2.toArray) p1 p2 fun h' hz hTI hTO h1 h2 hsz hk => wpAny_pyIter_zip hz ?_
      have I2 : Inv X pins σ H1 { s1 with heap := h' } := I1.kept (t' := s1.toks) hk
      have sep : ZipSep2 (s1.heap.objs.size + 4) (s1.heap.objs.size + 2) (s1.heap.objs.size + 3) s1.heap.objs.size (s1.heap.objs.size + 1) [s1.heap.objs.size, a] [s1.heap.objs.size + 1, b] :=
        zip_sep2 (fun c hc => by rw [List.mem_singleton.mp hc]; exact isAt_lt p1) (fun c hc => by rw [List.mem_singleton.mp hc]; exact isAt_lt p2)
      exact ⟨s1.heap.objs.size + 4, [s1.heap.objs.size + 4, s1.heap.objs.size + 2, s1.heap.objs.size + 3, s1.heap.objs.size, s1.heap.objs.size + 1], _, _, H1, rfl, I2, turn_zipX sep, ⟨hz, hTI, ⟨_, _, hTO⟩, itAt_new h1, itAt_new h2⟩, fresh5, q⟩
theorem sqX_ex {K : PySem.W.Frag} {H H' : Hp} {t : Bool} {a : Addr} {xs : List V} (e : Ex H H') (h : SqX K H t a xs) : SqX K H' t a xs := by
  cases t with
  | true => exact e.sqt h
  | false => exact e.sql h
theorem walk_zipX {K : PySem.W.Frag} {t1 t2 : Bool} {a b : Addr} {xs ys : List V} {n : Nat} (hn : n = min xs.length ys.length) : Walk (ItzX K t1 t2 a b) n (fun H => SqX K H t1 a xs ∧ SqX K H t2 b ys) (YPair (fun i => xs[i]?) (fun i => ys[i]?)) := by
  subst hn
  refine ⟨fun i _ hi q => ?_, fun _ q => ⟨xs, ys, q.1, q.2, by omega, by omega, by omega⟩, fun i H v H' _ q y => ?_⟩
  · have h1 : i < xs.length := by omega
    have h2 : i < ys.length := by omega
    exact ⟨xs, ys, xs[i], ys[i], q.1, q.2, by simp [h1], by simp [h2]⟩
  · obtain ⟨T, x, z, h1, h2, h3, h4, h5⟩ := y
    exact ⟨T, x, z, h1, h2, h3, h4 xs q.1, h5 ys q.2⟩
theorem r_zipX {K : PySem.W.Frag} {ta : TA} {σ : L2.St} {H : Hp} {R : It → Hp → Prop} (q : ta σ H fun vs H1 => ∃ t1 t2 a b xs ys, vs = [.ref a, .ref b] ∧ SqX K H1 t1 a xs ∧ SqX K H1 t2 b ys ∧ R (ItzX K t1 t2 a b) H1) : iZipX K ta σ H R := q
end GS
/-! A lambda handed to a def that calls it in a try: what is raised is wished for at the slots of that def. -/
namespace GS
open PySem PySem.Spec PyProof.Rows L2 LamX
section
variable {X : Cx} {pins : List (Addr × Obj)} {σ : L2.St} {H : Hp} {s : Shared}
theorem act_at {CXg : CXT} {Eg : XK} {Ng : List Str} {qg : Str} {sg : Scope} {g f c' : Addr} {cdg pm ctv : Value} {params : Arguments} {body : Expr} {scope : Scope} {k i : Nat} {a : Str} {pn : List (Addr × Obj)} {xe : Value → Shared → Prop} {W : WX} {E : L2.St → XK} {t : XK → TE} {p1 p2 : Pos}
    (I : Inv X pins σ H s) (L : LamS X.env.scope scope) (hf : s.heap.get? f = some (PySem.W.kla_obj "<lambda>" (X.env.qual ++ "<lambda>") params body scope (cloFrom X.env.cells scope.names []) pm c' ctv)) (hfn : H f = none) (hfr : f ∉ frs X.stack)
    (hbind : bindArgs (PySem.W.kla_fn "<lambda>" (X.env.qual ++ "<lambda>") params body scope (cloFrom X.env.cells scope.names []) pm (.ref c') ctv) ⟨[], []⟩ = pure [])
    (tk : Takes ((cxOf CXg X.prog X.w X.K X.mg X.base Ng qg sg g cdg X.A X.stack s H Eg).tr pn xe) W) (hW : ∀ σ' cls d H', E σ' cls d H' → W cls d σ' H') (hr : Room (k + 1) (X.A.deeper (envOfC qg sg s.heap.objs.size g cdg)))
    (hbody : ∀ (A : Around) (outer : List Env) (s : Shared) (H : Hp) (E : XK), Room k (A.deeper (lamEnv X scope s.heap.objs.size f c')) → PE (lamCx X A outer s H E scope f c') body (t E))
    (hN : Ng[i]? = some a) (hv : Vis sg a) (hd : (a == ("__debug__" : Str)) = false) (hcd : (a == ("__classdict__" : Str)) = false) :
    PE ((cxOf CXg X.prog X.w X.K X.mg X.base Ng qg sg g cdg X.A X.stack s H Eg).tr pn xe) (.Call (.Name a p1) [] [] p2)
      (fun σZ HZ Q => σZ[i]? = some (some (.ref f)) ∧ HZ c' = some (CodeO c' (X.env.qual ++ "<lambda>")) ∧ t (E σZ) σ HZ Q) := by
  refine ⟨fun pinsZ sZ σZ HZ Q IZ want => ?_⟩
  obtain ⟨slot, code, goal⟩ := want
  refine wpAny_Call_Name_kw (thn ((pe_var (pos := p1) (i := i) hN hv hd hcd).run pinsZ sZ σZ HZ (fun v H1 => v = .ref f ∧ H1 = HZ) IZ ⟨.ref f, slot, rfl, rfl⟩) fun u s1 ⟨v, H1, I1, r1, q1⟩ => ?_)
  obtain ⟨ev, eH⟩ := q1
  subst ev
  rw [eH] at I1
  obtain rfl : u = Value.ref f := r1
  have here : s1.heap.get? f = some (PySem.W.kla_obj "<lambda>" (X.env.qual ++ "<lambda>") params body scope (cloFrom X.env.cells scope.names []) pm c' ctv) := I1.base.keep f _ hf hfn hfr (fun z => nomatch (show f ∈ ([] : List Addr) from z))
  refine PySem.W.callWith_F0 ⟨_, _, _, _, here⟩ ?_
  have un : Un (frs X.stack) [] H HZ s.heap s1.heap := I1.base
  obtain ⟨⟨oc, vs, tk1, hoc, hdc, hvc⟩, _, _⟩ := I1.hok c' _ code
  have ran : codeAny (model X.prog X.w) (X.A.deeper (envOfC qg sg s.heap.objs.size g cdg)) (.call (.ref f) ⟨[], []⟩) (CR (L2.CX X.prog X.w) (envOfC qg sg s.heap.objs.size g cdg :: X.stack) X.prog X.w HZ s1 Q (E σZ)) s1 := by
    refine PySem.W.kla_callFunE hr.depth here rfl L.co L.gen rfl ⟨c', oc, vs, tk1, rfl, hoc, hdc, hvc⟩ ?_
    rw [hbind]
    refine wpAny_pure (wpAny_newFunctionEnv (fun y hy => (L.own y hy).2) (fun y hy => absurd hy (by simp)) (fun h₁ hns hsb => ⟨I1.nolimit.fresh _ hsb, ?_⟩) L.kind)
    show codeAny _ _ (.expr body (lamEnv X scope s1.heap.objs.size f c')) _ _
    have kp : ∀ b o, s1.heap.get? b = some o → h₁.get? b = some o := fun b o e => hsb.extBut b o (Nat.ne_of_lt (Heap.lt_size e)) (Heap.get?_push_of_some _ e)
    have J := lam_start2 (E := E σZ) (f := f) (c' := c') (tk := s1.toks + ([] : List (Str × Value)).length) I L I1.env0 hr.hd un hns kp
    refine PySem.W.kla_codeExpr (wpAny_mono ((hbody _ _ s1 HZ (E σZ) (hr.deeper _)).run [] _ _ HZ Q J goal) (fun v s' hq => ?_) fun e s' hq => hq)
    obtain ⟨w', H', J', rv, q⟩ := hq
    exact ⟨w', H', J'.os, J'.bare, J'.base, J'.hok, rv, q⟩
  refine wpAny_call (codeAny_mono ran fun r s' hq => ?_)
  match r, hq with
  | .error e, hq => exact tk e s' (XE.of_call I1 (fun cls d H' h => hW σZ cls d H' h) hq)
  | .ok (.ret u), hq => exact I1.after hq
  | .ok .next, hq => exact False.elim hq
  | .ok .brk, hq => exact False.elim hq
  | .ok .cont, hq => exact False.elim hq
end
/-- the def that calls what it got, in a try -/
def GivesS (X : Cx) (Ng : List Str) (x : Str) (sg : Scope) (g : Addr) (cdg : Value) (bg : List Stmt) (a : Str) (q : Str) (TT : (XK → Hp → VK → Prop) → Hp → VK → Prop) : Prop :=
  ∀ (f c' : Addr) (s : Shared) (H : Hp) (Q : VK) (tl : XK → Hp → VK → Prop),
    (∀ (W : WX) (pn : List (Addr × Obj)) (xe : Value → Shared → Prop) (E : L2.St → XK) (p1 p2 : Pos), Takes ((cxOf C8.CX0 X.prog X.w X.K X.mg X.base Ng x sg g cdg X.A X.stack s H C8.E0).tr pn xe) W → (∀ σ' cls d H', E σ' cls d H' → W cls d σ' H') →
      PE ((cxOf C8.CX0 X.prog X.w X.K X.mg X.base Ng x sg g cdg X.A X.stack s H C8.E0).tr pn xe) (.Call (.Name a p1) [] [] p2) (fun σZ HZ Q => σZ[0]? = some (some (.ref f)) ∧ HZ c' = some (CodeO c' q) ∧ tl (E σZ) HZ Q)) →
    H c' = some (CodeO c' q) → TT tl H Q →
    ∃ t, PSs (cxOf C8.CX0 X.prog X.w X.K X.mg X.base Ng x sg g cdg X.A X.stack s H C8.E0).nox bg t ∧ t { nx := fun _ H' => Q .non H', rt := Q } (L2.start Ng [.ref f]) H
theorem pe_lam {X : Cx} {TT : (XK → Hp → VK → Prop) → Hp → VK → Prop} {x a : Str} {g c P : Addr} {k : Nat} {pg : Arguments} {bg : List Stmt} {sg : Scope} {fd : FuncData} {Ng : List Str}
    {params : Arguments} {body : Expr} {scope : Scope} {t : XK → TE} {p lpos pos : Pos} (hg : Gl X x) (hm : X.mg x = some (.ref g)) (hk : PySem.W.keepIn X.K (.ref g) = true)
    (F : FunD X.K x x pg bg sg [] [] g fd) (hb : L2.Binds X.K fd [a] []) (Sg : FnScope Ng [a] sg) (hNg : Ng[0]? = some a) (hva : Vis sg a)
    (hG : ∀ cdg, GivesS X Ng x sg g cdg bg a (X.env.qual ++ "<lambda>") TT)
    (TB : TabB X.base X.mg c P) (hcode : X.env.code = .ref c) (hr : Room (k + 2) X.A) (L : LamS X.env.scope scope) (hdef : defaultsOf params X.env = ([], []))
    (hbind : ∀ (q : Str) (cl : List (Str × Addr)) (pm cv ctv : Value), bindArgs (PySem.W.kla_fn "<lambda>" q params body scope cl pm cv ctv) ⟨[], []⟩ = pure [])
    (hbody : ∀ (A : Around) (outer : List Env) (s : Shared) (H : Hp) (E : XK) (f c' : Addr), Room k (A.deeper (lamEnv X scope s.heap.objs.size f c')) → PE (lamCx X A outer s H E scope f c') body (t E))
    (hdb : (x == ("__debug__" : Str)) = false := by decide) (hd : (a == ("__debug__" : Str)) = false := by decide) (hcd : (a == ("__classdict__" : Str)) = false := by decide) :
    PE X (.Call (.Name x p) [.Lambda params body scope lpos] [] pos) (tLam [(P, X.env.qual ++ "<lambda>")] TT t) := by
  obtain ⟨oc, od, dV, kV, doc, pm, an, cdv, ct, osl, rfl, known, hcg, -, -⟩ := F.ex
  refine ⟨fun pins s σ H Q I want => ?_⟩
  obtain ⟨tabs, goal⟩ := want
  refine wpAny_Call_Name_kw (ld_glob I hg hm ?_ hdb)
  refine PySem.W.callWith_K (h₀ := X.base) I.ok.mod.kin hk ?_ (by rfl) (by rfl)
  show wpAny _ _ (spliced ((false, eval (.Lambda params body scope lpos) X.env) :: backTo pos (starEach [] X.env))) _ _ s
  refine Calls.spliced_cons (lam_make2 I TB hcode List.mem_cons_self (fun p hp _ => by rw [List.mem_singleton.mp hp]) tabs hdef (L.has I.ok) fun f c' pm' ctv H1 s' I1 eN T1 hf hfn hfr hco => ?_)
  refine Calls.spliced_nil ⟨I1.kIn, ?_⟩
  have ran : codeAny (model X.prog X.w) X.A (.call (.ref g) ⟨[.ref f], []⟩) (CR C8.CX0 X.stack X.prog X.w H1 s' Q C8.E0) s' := by
    refine run_ofS (N := Ng) (ps := [a]) (us := [.ref f]) (vs := [.ref f]) known hcg Sg hr I1.env0 (hb s' [.ref f] I1.kIn rfl) (.cons rfl .nil) rfl fun hr' => ?_
    obtain ⟨t', reads, wants⟩ := hG cdv f c' s' H1 Q (fun E H' Q' => t E σ H' Q') (fun W pn xe E p1 p2 tk hW => act_at (i := 0) I1 L hf hfn hfr (hbind _ _ _ _ _) tk hW hr' (fun A outer s H E hr2 => hbody A outer s H E f c' hr2) hNg hva hd hcd) hco (goal H1 eN T1)
    exact ⟨t', reads.nox, wants⟩
  refine wpAny_call (codeAny_mono ran fun r s2 hq => ?_)
  match r, hq with
  | .error e, hq => exact (show False from hq).elim
  | .ok (.ret u), hq => exact I1.after hq
  | .ok .next, hq => exact False.elim hq
  | .ok .brk, hq => exact False.elim hq
  | .ok .cont, hq => exact False.elim hq
/-- a() within try, a what was got -/
def tAsk (f c' : Addr) (q : Str) (tl : XK → Hp → VK → Prop) (W : WX) : TS := fun D σ H => ∃ E : XK, (∀ cls d H', E cls d H' → W cls d σ H') ∧ σ[0]? = some (some (.ref f)) ∧ H c' = some (CodeO c' q) ∧ tl E H (fun _ H' => D.nx σ H')
theorem ps_ask {Y : Cx} {W : WX} {a : Str} {f c' : Addr} {q : Str} {tl : XK → Hp → VK → Prop} {p1 p2 p3 : Pos}
    (act : ∀ (E : L2.St → XK) (p1 p2 : Pos), Takes Y W → (∀ σ' cls d H', E σ' cls d H' → W cls d σ' H') → PE Y (.Call (.Name a p1) [] [] p2) (fun σZ HZ Q => σZ[0]? = some (some (.ref f)) ∧ HZ c' = some (CodeO c' q) ∧ tl (E σZ) HZ Q)) (tk : Takes Y W) :
    PS Y (.Expr (.Call (.Name a p1) [] [] p2) p3) (tAsk f c' q tl W) := by
  refine ⟨fun pins s σ H D I h => ?_⟩
  obtain ⟨E, hW, h1, h2, h3⟩ := h
  have e : (fun cls d H' => σ = σ ∧ E cls d H') = E := by
    funext cls d H'
    exact propext ⟨fun z => z.2, fun z => ⟨rfl, z⟩⟩
  refine (ps_expr (pos := p3) (act (fun σ' cls d H' => σ' = σ ∧ E cls d H') p1 p2 tk (fun σ' cls d H' z => by rw [z.1]; exact hW cls d H' z.2))).run pins s σ H D I ⟨h1, h2, ?_⟩
  show tl (fun cls d H' => σ = σ ∧ E cls d H') H _
  rw [e]
  exact h3
/-! a field's reading -/
def fldK (K : PySem.W.Frag) (f : Str) (Q : VK) : VK := fun x H1 => ∃ a C dx fs v, x = .ref a ∧ H1 a = some (.ins C dx fs) ∧ Cls K C ∧ NoAttr K C f ∧ fs.lookup f = some v ∧ Q v H1
theorem r_F {K : PySem.W.Frag} {f : Str} {te : TE} {σ : L2.St} {H : Hp} {Q : VK} (q : te σ H (fldK K f Q)) : tFld K te f σ H Q := q
theorem r_gUnl {K : PySem.W.Frag} {n : Nat} {gs : TGs} {p : Addr} {xs : List V} {σ : L2.St} {H : Hp} {N : L2.St → Hp → Prop} (h : H p = some (.lst xs)) (l : xs.length = n) (q : gs xs σ H N) : gUnl K n gs (.ref p) σ H N := ⟨p, xs, rfl, SqL.of h, l, q⟩
end GS
/-! A list comprehension whose element may raise, out of a call. -/
namespace GS
open PySem PySem.Spec PySem.Calls PyProof.Rows L2
/-- frames over a smaller ground -/
theorem ff_less {h B B' : Heap} (n : ∀ b, B.get? b = none → B'.get? b = none) : ∀ {l : List Env}, h.FunFrames B l → h.FunFrames B' l
  | [], _ => trivial
  | _ :: _, ⟨k, ⟨L, o, f, b, r⟩, t⟩ => ⟨k, ⟨L, o, f, n L b, r⟩, ff_less n t⟩
theorem hid_none {h : Heap} {C b : Addr} (e : h.get? b = none) : (PySem.W.hideAll h [C]).get? b = none := by
  cases q : (PySem.W.hideAll h [C]).get? b with
  | none => rfl
  | some o =>
    have z := PySem.W.of_hideAll _ q
    rw [e] at z
    cases z
theorem hid_ne {h : Heap} {C b : Addr} {o : Obj} (e : (PySem.W.hideAll h [C]).get? b = some o) : b ≠ C := by
  rintro rfl
  rw [PySem.W.hideAll_none [b] (List.mem_singleton.mpr rfl)] at e
  cases e
theorem held_hid {B h1 h2 : Heap} {l : List Env} {a C L : Addr} {Z : Obj → Prop} {m1 m2 : Str → Option Value} (n1 : h1.Ns C m1) (n2 : h2.Ns C m2) (sb : Heap.SameBut C h1 h2) (hh : HandSPX.HeldZ B l a Z L h1) : HandSPX.HeldZ (PySem.W.hideAll B [C]) l a Z L h2 := by
  obtain ⟨st, an, ff, oe, vs, T, oT, ts, e1, e2, e3, e4, e5, e6, e7, e8, e9⟩ := hh
  have noF : ∀ b o vs, h1.get? b = some o → o.data = .fields vs → b ≠ C := fun b o vs e z q => by
    obtain ⟨oc, _, _, hc, hd, _⟩ := n1
    rw [q, hc] at e
    cases e
    rw [hd] at z
    cases z
  refine ⟨fun b o e => ?_, hid_none an, ff_less (fun b e => hid_none e) (Heap.FunFrames.sameBut sb n2 ff), oe, vs, T, oT, ts, ?_, e2, e3, e4, hid_none e5, e6, ?_, e8, e9⟩
  · rw [sb.2 b (hid_ne e)]
    exact st b o (PySem.W.of_hideAll _ e)
  · rw [sb.2 a (noF _ _ _ e1 e3)]
    exact e1
  · rw [sb.2 T (noF _ _ _ e7 e8)]
    exact e7
section
variable {X : Cx} {pins : List (Addr × Obj)} {σ : L2.St} {H : Hp} {s : Shared}
theorem comp_fails {s3 : Shared} (I3 : Inv X pins σ H s3) {W : WX} {E : XK} (tk : Takes X W) (hW : ∀ cls d σ H, E cls d H → W cls d σ H) (hst : X.stack = X.env :: X.outer) (hf : X.env.frame = some X.env.locals) {scope : Scope} {ce : Env} {fp : List Addr}
    (cL : ce.locals = s3.heap.objs.size) (cF : ce.frame = X.env.frame) (f3 : ∀ b ∈ fp, FpOk X pins H b) {pn pins' : List (Addr × Obj)} {xe : Value → Shared → Prop} {σ' : L2.St} {H' : Hp} {s s' : Shared} {e : Value}
    (J : Inv ((X.blk s3 H scope ce fp).tr pn xe) pins' σ' H' s) (c : L2.CX X.prog X.w X.stack H' s E e s') : notedBy (model X.prog X.w) X.A ce (CompFails (model X.prog X.w) X.A X.xe ce) e s' := by
  obtain ⟨a, B, sI, pins1, σ1, H1, cls, d, rfl, J1, nb, up, sky, na, os, ag, w⟩ := XE.of_call (W := fun cls d _ H => E cls d H) J (fun _ _ _ h => h) c
  have fl : HandSPX.FlyingZ B X.stack a (Zc cls d) s'.heap := by
    obtain ⟨a', B', H'', cls', d', ea, fl', _⟩ := c
    cases ea
    obtain ⟨_, _, _, oe', vs', T', oT', ts', g1, g2, g3, g4, g5, g6, g7, g8, g9⟩ := fl'
    rcases sky with ⟨_, _, _, oe, vs, k1, k2, k3, k4⟩ | f | ⟨_, _, _, oe, vs, T, oT, ts, k1, k2, k3, k4, k5, k6, k7, k8, k9⟩
    · exfalso
      rw [g1] at k1
      cases k1
      rw [g3] at k3
      cases k3
      rw [g4] at k4
      cases k4
    · exact f
    · exfalso
      rw [g1] at k1
      cases k1
      rw [g3] at k3
      cases k3
      rw [g4] at k4
      cases k4
      rw [g7] at k7
      cases k7
      rw [g8] at k8
      cases k8
      rw [g9] at k9
      exact absurd (Option.some.inj k9) (by simp [rawInt])
  have IX : Inv X pins σ H1 sI := I3.call' (ch := fp) J1.os J1.base J1.hok J1.bare fun b hb => ⟨(f3 b hb).2.2.2.1, (f3 b hb).2.1, (f3 b hb).2.2.2.2.1, (f3 b hb).2.2.2.2.2⟩
  have nC : H1 ce.locals = none := J1.free
  have fC : FpOk X pins H1 ce.locals := by
    have z := nC
    rw [cL] at z ⊢
    exact I3.fpOk (Nat.le_refl _) z
  have IX2 : Inv X pins σ H1 { sI with heap := PySem.W.hideAll sI.heap [ce.locals], toks := sI.toks } := IX.turned (fun b o n e => PySem.W.hideAll_get _ e (by simpa using n)) fC.1 fC.2.1 fC.2.2.2.1 fC.2.2.2.2.1 fC.2.2.2.2.2
  have hfr : X.A.frames = some (X.env :: X.outer) := by rw [I3.ok.frames, hst]
  show wpAny (model X.prog X.w) X.A (noteFrame (.ref a) ce) _ _ s'
  rw [noteFrame_env _ cF]
  refine HandSPX.looks_onZ Zc.steady hfr hf (by rw [← hst]; exact fl) fun h1 hh1 up1 => ?_
  obtain ⟨m, hn, _⟩ := J1.loc
  have hn1 := Heap.UpToSlots.ns up1 (Heap.UpToSlots.ns up hn)
  refine ⟨m, hn1, fun h2 m2 hn2 hs2 => ?_⟩
  have hh2 := held_hid hn1 hn2 hs2 hh1
  obtain ⟨_, _, _, oe, vs, T, _, _, t1, _, t3, t4, _⟩ := id hh2
  unfold PySem.passOn
  refine wpAny_bind (wpAny_field t1 t3 t4 ?_)
  rw [if_neg (show ¬ ((Value.ref T == Value.none) = true) from by simp)]
  have fin : wpAny (model X.prog X.w) X.A (setFlight (.ref a) ce.frame) (fun _ s4 => wpAny (model X.prog X.w) X.A (throw (.ref a) : Sem Value) (fun _ _ => False) X.xe s4) X.xe { s' with heap := h2 } := by
    rw [cF, hf]
    refine HandSPX.setFlight_onZ hh2 fun h3 hh3 up3 => wpAny_throw (tk _ _ ?_)
    refine ⟨a, PySem.W.hideAll B [ce.locals], _, pins, σ, H1, cls, d, rfl, IX2, fun b o z hb => PySem.W.hideAll_get [ce.locals] (nb b o (PySem.W.of_hideAll _ z) hb) (by simpa using hid_ne z), fun b o z nf => ?_, .inr (.inr (by rw [hst]; exact hh3)), na, os, ag, hW _ _ _ _ w⟩
    obtain ⟨l1, q1⟩ := up b o (PySem.W.of_hideAll _ z) nf
    obtain ⟨l2, q2⟩ := up1 b _ q1 nf
    have q3 : h2.get? b = _ := (hs2.2 b (hid_ne z)).trans q2
    obtain ⟨l3, q4⟩ := up3 b _ q3 nf
    exact ⟨l3, q4⟩
  first
    | exact wpAny_bind (wpAny_pure (wpAny_bind fin))
    | exact wpAny_bind fin
/-- THE RULE: [elt for tg in iter if ..], elt may let out what a call in it lets out -/
theorem pe_lcE {W : WX} {E : XK} {elt tg iter : Expr} {ifs : List Expr} {scope : Scope} {own : List (Str × Nat)} {pos : Pos} {wi : TI} {g : TG} {tt : TT} {te : TE} (tk : Takes X W) (hW : ∀ cls d σ H, E cls d H → W cls d σ H) (hst : X.stack = X.env :: X.outer) (hf : X.env.frame = some X.env.locals)
    (hc : X.calm = true) (hN : X.N.Nodup) (hi : PI X tg iter wi) (ok : BlkOk X.N X.env.scope scope own) (hg : ∀ (s : Shared) (H : Hp) (C : Addr) (cl : List (Str × Addr)) (fp : List Addr), PG (X.blk s H scope (compEnvC scope cl C X.env) fp) tg g)
    (ht : ∀ (s : Shared) (H : Hp) (C : Addr) (cl : List (Str × Addr)) (fp : List Addr), PTs (X.blk s H scope (compEnvC scope cl C X.env) fp) ifs tt)
    (he : ∀ (s : Shared) (H : Hp) (C : Addr) (cl : List (Str × Addr)) (fp : List Addr) (pn : List (Addr × Obj)) (xe : Value → Shared → Prop), Passes (L2.CX X.prog X.w) ((X.blk s H scope (compEnvC scope cl C X.env) fp).tr pn xe) E → PE ((X.blk s H scope (compEnvC scope cl C X.env) fp).tr pn xe) elt te)
    (hs : ∀ x, foldedSetIterable iter X.env x = pure x := by intro _; rfl) : PE X (.ListComp elt [⟨tg, iter, ifs, 0⟩] scope pos) (tLc wi g tt te (own.map (·.2))) := by
  refine ⟨fun pins s σ H Q I h => ?_⟩
  rw [eval_ListComp]
  have free : ∀ y ∈ scope.names, y.2 = .free → ∃ c, X.env.cells.lookup y.1 = some c := fun y hy e => (ok.free y hy e).elim (fun k => I.ok.has _ (.inl k)) fun k => I.ok.has _ (.inr k)
  refine comprehension_at (use := none) rfl hs (closure_ok free) ok.kind (fun y hy e => by rw [ok.uniq y hy, e]) (thn (hi.run pins s σ H _ I h) fun _ _ hx => thn hx fun _ s2 h2 => ?_)
  obtain ⟨it, fp, tn, J, H2, rfl, I2, T, st2, f2, q⟩ := h2
  refine wpAny_newObj_type (newEnv_comp ?_) (by show 0 ≤ sizeLine; decide)
  generalize hL : s2.heap.objs.size = L
  have nL : H2 L = none := I2.hok.fresh (Nat.le_of_eq hL)
  obtain ⟨V, ⟨m0, v0⟩, turn⟩ := q L nL
  generalize hs3 : ({ s2 with heap := s2.heap.push { cls := .type "list", data := .seq ([] : List Value).toArray } } : Shared) = s3
  have h3 : s3.heap = s2.heap.push { cls := .type "list", data := .seq ([] : List Value).toArray } := by rw [← hs3]
  have grow : ∀ b o, s2.heap.get? b = some o → s3.heap.get? b = some o := fun b o e => by rw [h3]; exact Heap.get?_push_of_some _ e
  have I3 : Inv X pins σ (upd H2 L (.lst [])) s3 := by
    rw [← hs3]
    refine I2.laid (t' := s2.toks) (fun b o e => Heap.get?_push_of_some _ e) (Nat.le_of_eq hL) ⟨Nat.zero_le _, [], 0, .nil, ?_⟩
    rw [← hL]; exact Heap.get?_push_size _ rfl
  have lt2 : ∀ b ∈ fp, b < s2.heap.objs.size := fun b hb => let ⟨_, e, _⟩ := T.obj _ _ st2 b hb; Heap.lt_size e
  have f3 : ∀ b ∈ fp, FpOk X pins (upd H2 L (.lst [])) b ∧ b < s3.heap.objs.size := fun b hb => by
    refine ⟨⟨?_, (f2 b hb).2⟩, by rw [h3, Heap.size_push]; exact Nat.lt_succ_of_lt (lt2 b hb)⟩
    rw [upd_ne (by rw [← hL]; exact Nat.ne_of_lt (lt2 b hb))]; exact (f2 b hb).1
  have st3 : tn 0 s3.heap := T.keep _ _ _ st2 fun b _ o e => grow b o e
  have I4 := block_start I3 ok hN f3
  have pg := hg s3 (upd H2 L (.lst [])) s3.heap.objs.size (cellsFrom (s3.heap.objs.size + 1) scope.names (cloFrom X.env.cells scope.names [])) fp
  have pt := ht s3 (upd H2 L (.lst [])) s3.heap.objs.size (cellsFrom (s3.heap.objs.size + 1) scope.names (cloFrom X.env.cells scope.names [])) fp
  have pe := he s3 (upd H2 L (.lst [])) s3.heap.objs.size (cellsFrom (s3.heap.objs.size + 1) scope.names (cloFrom X.env.cells scope.names [])) fp
  show codeAny _ _ (.compStart (.ListComp elt [⟨tg, iter, ifs, 0⟩] scope pos) 0 (.ref it) (.ref L) (compEnvC scope (cellsFrom (s3.heap.objs.size + 1) scope.names (cloFrom X.env.cells scope.names [])) s3.heap.objs.size X.env)) (compEnds (model X.prog X.w) X.A X.xe none (EP X pins σ Q) (.ref L) (compEnvC scope (cellsFrom (s3.heap.objs.size + 1) scope.names (cloFrom X.env.cells scope.names [])) s3.heap.objs.size X.env)) { s3 with heap := pushCells (s3.heap.push { cls := .type "dict", data := .dict #[] }) scope.names }
  generalize hce : compEnvC scope (cellsFrom (s3.heap.objs.size + 1) scope.names (cloFrom X.env.cells scope.names [])) s3.heap.objs.size X.env = ce at I4 pg pt pe ⊢
  have cL : ce.locals = s3.heap.objs.size := by subst hce; rfl
  have cF : ce.frame = X.env.frame := by subst hce; rfl
  have no0 : ∀ b ∈ fp, (upd H2 L (.lst [])) b = none := fun b hb => (f3 b hb).1.1
  generalize hH3 : upd H2 L (.lst []) = H3 at I3 I4 pg pt pe v0 no0 f3
  generalize hs4 : ({ s3 with heap := pushCells (s3.heap.push { cls := .type "dict", data := .dict #[] }) scope.names } : Shared) = s4 at I4 ⊢
  have st4 : tn 0 s4.heap := T.keep _ _ _ st3 fun b _ o e => by rw [← hs4]; exact pushCells_keeps _ _ _ _ (Heap.get?_push_of_some _ e)
  have quiet : ∀ {σ' : L2.St} {H' : Hp} {s' : Shared}, Inv (X.blk s3 H3 scope ce fp) [] σ' H' s' → (∀ b ∈ fp, H' b = none) → ∀ b ∈ fp, FpOk (X.blk s3 H3 scope ce fp) [] H' b := fun {σ' H' s'} I' n b hb =>
    ⟨n b hb, (I'.ok.exf b hb).1, I'.ok.exfs b hb, .inl hb, fun x c e => (I'.ok.exf b hb).2 x c e, fun p hp => nomatch hp⟩
  have loop : codeAny (model X.prog X.w) X.A (.compLoop (.ListComp elt [⟨tg, iter, ifs, 0⟩] scope pos) 0 (.ref it) (.ref L) ce) (compEnds (model X.prog X.w) X.A X.xe none (EP X pins σ Q) (.ref L) ce) s4 := by
    refine compLoop_any (fun n s' => ∃ i H', Inv (X.blk s3 H3 scope ce fp) [] (wipe σ (own.map (·.2))) H' s' ∧ tn i s'.heap ∧ (∀ b ∈ fp, H' b = none) ∧ V i n H') ?_ m0 ⟨0, H3, I4, st4, no0, v0⟩
    rintro n s5 ⟨i, H5, I5, st5, n5, v5⟩
    rcases turn i n H5 v5 with ⟨stop, done⟩ | ⟨go, Nx, hNx, step⟩
    · refine thnF (T.done (X.blk s3 H3 scope ce fp) rfl rfl rfl hc i [] s5 _ H5 (fun _ _ => False) I5 (quiet I5 n5) st5 stop) fun r s6 ⟨hr, I6⟩ => ?_
      subst hr
      have I7 : Inv X pins σ H5 s6 := I3.call' (ch := fp) I6.os I6.base I6.hok I6.bare fun b hb => let z := (f3 b hb).1; ⟨z.2.2.2.1, z.2.1, z.2.2.2.2.1, z.2.2.2.2.2⟩
      have z : H5 ce.locals = none := I6.free
      obtain ⟨m, hn, _⟩ := I6.loc
      refine ⟨m, hn, fun h'' sb => ?_⟩
      rw [cL] at z sb
      obtain ⟨k0, k1, k2, k3, k4, k5⟩ := I3.fpOk (Nat.le_refl _) z
      exact ⟨.ref L, H5, I7.turned (t' := s6.toks) (fun b o hb e => (sb.2 b hb).trans e) k0 k1 k3 k4 k5, rfl, done⟩
    · refine thnF (T.item (X.blk s3 H3 scope ce fp) rfl rfl rfl hc i [] s5 _ H5 (fun _ _ => False) I5 (quiet I5 n5) st5 go) fun r s6 ⟨u, hr, h6⟩ => ?_
      subst hr
      refine thnF h6 fun _ s7 ⟨x, H7, I7, r7, y7, st7, n7⟩ => ?_
      have I7p := I7.pinned (quiet I7 n7) (T.obj _ _ st7)
      refine thnF (pg.run _ s7 _ H7 x u _ I7p r7 (step x H7 y7)) fun _ s8 ⟨σ8, H8, I8, w8, q8⟩ => ?_
      refine thnF (pt.run _ s8 σ8 H8 _ I8 q8) fun b s9 ⟨H9, I9, q9⟩ => ?_
      have fin : ∀ {s' : Shared} {H' : Hp}, Inv (X.blk s3 H3 scope ce fp) ([] ++ pinsAt fp s7.heap) σ8 H' s' → Nx H' → ∃ m, m < n ∧ ∃ i H', Inv (X.blk s3 H3 scope ce fp) [] (wipe σ (own.map (·.2))) H' s' ∧ tn i s'.heap ∧ (∀ b ∈ fp, H' b = none) ∧ V i m H' := fun {s' H'} I' nx => by
        obtain ⟨m', hm, v'⟩ := hNx H' nx
        have at_ : ∀ b ∈ fp, ∀ o, s7.heap.get? b = some o → s'.heap.get? b = some o ∧ H' b = none := fun b hb o e => let z := I'.pin (b, o) (List.mem_append_right _ (List.mem_append_right _ (mem_pinsAt hb e))); ⟨z.1, z.2.1⟩
        refine ⟨m', hm, i + 1, H', (I'.unpinned (pins := [])).weak (by rw [← w8, wipe_length]) (fun j v e => ?_), T.keep _ _ _ st7 fun b hb o e => (at_ b hb o e).1, fun b hb => ?_, v'⟩
        · rw [← w8] at e; exact (wipe_some e).1
        · obtain ⟨o, e, _⟩ := T.obj _ _ st7 b hb
          exact (at_ b hb o e).2
      cases b with
      | false => simp only [Bool.false_eq_true, if_false] at q9 ⊢; exact fin I9 q9
      | true =>
        simp only [if_true] at q9 ⊢
        have okB := I9.ok
        have pass : Passes (L2.CX X.prog X.w) ((X.blk s3 H3 scope ce fp).tr ((X.blk s3 H3 scope ce fp).pn ++ ([] ++ pinsAt fp s7.heap)) (fun e s' => notedBy (model X.prog X.w) X.A ce (CompFails (model X.prog X.w) X.A X.xe ce) e s')) E := fun _ _ _ _ _ _ Jb c => comp_fails I3 tk hW hst hf cL cF (fun b hb => (f3 b hb).1) Jb c
        refine wpAny_mono ((pe _ _ pass).run [] s9 σ8 H9 _ (I9.toTry _) q9) (fun z s10 ⟨yv, H10, I10, r10, acc, hD10, hz10, nx⟩ => ?_) fun _ _ f => f
        have I10' := I10.ofTry okB
        exact app_ok (X := X.blk s3 H3 scope ce fp) I10' hD10 hz10 r10 fun s11 I11 => fin I11 nx
  exact codeAny_compStart_list loop (T.self X.A 0 _ _ _ st4 loop)
end
end GS
/-! Rules whose K is told by an equation, for comprehensions. -/
namespace GS
open PySem PySem.Spec PyProof.Rows L2
theorem kx_ixs {X : Cx} {K : PySem.W.Frag} (h : X.K = K) : IxR X (rIx K) := by
  subst h
  exact ix_seq
theorem kx_sll {X : Cx} {K : PySem.W.Frag} (h : X.K = K) : SlR X (rSlL K) := by
  subst h
  exact sl_list
theorem kx_listOf {X : Cx} {K : PySem.W.Frag} (h : X.K = K) : CallR X (.type "list") (fun xs H Q => ∃ p ys, xs = [V.ref p] ∧ (SqL K H p ys ∨ SqT K H p ys) ∧ ∀ l, H l = none → Q (.ref l) (upd H l (.lst ys))) := by
  subst h
  exact call_list_of
theorem kx_slt {X : Cx} {K : PySem.W.Frag} (h : X.K = K) : SlR X (rSlT K) := by
  subst h
  exact sl_tup
end GS
namespace GS
open PySem PySem.Spec PyProof.Rows L2
section
variable {X : Cx}
/-- C.m(k = v, ..), m a staticmethod -/
def tSMethN (C : Addr) (nk : Nat) (sp : Sp) (gV : List V → List V → List V) (E : XK) (ta : TE) (tk : TA) : TE := fun σ H Q => ta σ H fun x H1 => x = .ref C ∧ tk σ H1 fun zs H2 => zs.length = nk ∧ sp (gV [] zs) H2 Q E
theorem pe_smethK0 {CX : CXT} {k : Nat} {C p g : Addr} {mc : Value} {fd : FuncData} {ps ks : List PySem.Str} {sp : Sp} {E : XK} {o : Expr} {m : PySem.Str} {pos apos : Pos} {ta : TE} {tk : TA} {kws : List Keyword} {gg : List Value → List Value → List Value} {gV : List V → List V → List V} {pl : Sem Bool}
    (he : PE X o ta) (r : ClX.CRead X.K C mc) (c : SMet X.K C mc m p g) (F : FnOk X.prog X.w X.K X.mg X.base CX k g fd ps sp) (hk : PySem.W.keepIn X.K (.ref g) = true) (hr : Room k X.A) (kb : KBn X.K fd ps 0 ks gg gV) (hx : Passes CX X E) (hw : PK X kws tk)
    (named : (backToKw pos (keywordEach kws X.env)).all (·.1.isSome) = true := by rfl) (names : (backToKw pos (keywordEach kws X.env)).filterMap (·.1) = ks := by rfl)
    (plain : ((backTo pos (starEach [] X.env)).any (·.1) || (backToKw pos (keywordEach kws X.env)).any (·.1.isNone)) = false := by rfl)
    (ht : eval (.Call (.Attribute o m apos) [] kws pos) X.env = (do let ov ← eval o X.env; standAt apos.atName; let (f, first) ← holding [ov] (getMethod ov m pl); callWith pos f first (backTo pos (starEach [] X.env)) (backToKw pos (keywordEach kws X.env))) := by rfl) :
    PE X (.Call (.Attribute o m apos) [] kws pos) (tSMethN C ks.length sp gV E ta tk) := by
  refine ⟨fun pins s σ H Q I h => PySem.W.methodCall_KW (pl := pl) (thn (he.run pins s σ H _ I h) fun u s1 ⟨x, H1, I1, rx, ex, q⟩ => ?_) ht⟩
  subst ex
  obtain rfl : u = Value.ref C := rx
  obtain ⟨rest, hp⟩ := c.rc
  refine PySem.W.method_cls I1.kIn r.ga (PySem.W.cls_bind I1.kIn r.rd c.at_ (wpAny_call (PySem.W.sm_get (s := { s1 with toks := s1.toks + 1 }) I1.kIn hp (PySem.W.handed_on rfl ?_))))
  have I2 := I1.tok (s1.toks + 1)
  refine PySem.W.callWith_KW0 (h₀ := X.base) I2.ok.mod.kin hk named (thn (hw.run pos pins _ σ H1 _ I2 q) fun ws s3 ⟨zs, H2, I3, rz, m2, q2⟩ => ⟨I3.kIn, ?_⟩) plain
  rw [names]
  exact run_fnN (us := []) (vs := []) F hr kb hx I3 .nil rz rfl m2 q2
/-- C.m(e, ..), m a staticmethod, inside try -/
def tSMethS (C : Addr) (sp : Sp) (E : L2.St → XK) (ta : TE) (t : TA) : TE := fun σ H Q => ta σ H fun x H1 => x = .ref C ∧ t σ H1 fun vs H2 => sp vs H2 Q (E σ)
theorem pe_smethS {CX : CXT} {k : Nat} {C p g : Addr} {mc : Value} {fd : FuncData} {ps : List PySem.Str} {sp : Sp} {E : L2.St → XK} {o e : Expr} {es : List Expr} {m : PySem.Str} {pos apos : Pos} {ta : TE} {t : TA} {pl : Sem Bool}
    (he : PE X o ta) (r : ClX.CRead X.K C mc) (c : SMet X.K C mc m p g) (F : FnOk X.prog X.w X.K X.mg X.base CX k g fd ps sp) (hk : PySem.W.keepIn X.K (.ref g) = true) (hr : Room k X.A) (hb : Binds X.K fd ps []) (hx : ∀ σ, PassesAt CX X σ (E σ)) (ha : PA X (e :: es) t)
    (hst : starEach (e :: es) X.env = (false, eval e X.env) :: starEach es X.env := by rfl) (hpl : (backTo pos (starEach es X.env)).any (·.1) = false := by rfl)
    (ht : eval (.Call (.Attribute o m apos) (e :: es) [] pos) X.env = (do let ov ← eval o X.env; standAt apos.atName; let (f, first) ← holding [ov] (getMethod ov m pl); callWith pos f first (backTo pos (starEach (e :: es) X.env)) (backToKw pos (keywordEach [] X.env))) := by rfl) :
    PE X (.Call (.Attribute o m apos) (e :: es) [] pos) (tSMethS C sp E ta t) := by
  refine ⟨fun pins s σ H Q I h => PySem.W.methodCall_KW (pl := pl) (thn (he.run pins s σ H _ I h) fun u s1 ⟨x, H1, I1, rx, ex, q⟩ => ?_) ht⟩
  subst ex
  obtain rfl : u = Value.ref C := rx
  obtain ⟨rest, hp⟩ := c.rc
  refine PySem.W.method_cls I1.kIn r.ga (PySem.W.cls_bind I1.kIn r.rd c.at_ (wpAny_call (PySem.W.sm_get (s := { s1 with toks := s1.toks + 1 }) I1.kIn hp (PySem.W.handed_on rfl ?_))))
  have I2 := I1.tok (s1.toks + 1)
  refine PySem.W.callWith_K (h₀ := X.base) I2.ok.mod.kin hk (thn (ha.run pos pins _ σ H1 _ I2 q) fun us s3 ⟨vs, H2, I3, rv, q2⟩ => ⟨I3.kIn, ?_⟩) hst hpl
  exact run_fnS F hr hb (hx σ) I3 rv q2
end
end GS
namespace GS
open PySem PySem.Spec PyProof.Rows L2
theorem kx_neD {X : Cx} {K : PySem.W.Frag} (h : X.K = K) (hu : X.A.units + 64 < cLine) : OpR X (compareOp .NotEq) (rNeD K) := by
  subst h
  exact op_neD hu
theorem kx_eqD {X : Cx} {K : PySem.W.Frag} (h : X.K = K) (hu : X.A.units + 64 < cLine) : OpR X (compareOp .Eq) (rEqD K) := by
  subst h
  exact op_eqD hu
/-- (a if t else b) as a test -/
def tIfT (t ta tb : TT) : TT := fun σ H Q => t σ H fun c H1 => if c = true then ta σ H1 Q else tb σ H1 Q
theorem pt_ifExp {X : Cx} {c a b : Expr} {pos : Pos} {t ta tb : TT} (hc : PT X c t) (ha : PT X a ta) (hb : PT X b tb) : PT X (.IfExp c a b pos) (tIfT t ta tb) := by
  refine ⟨fun pins s σ H Q I h => ?_⟩
  rw [arm_isTrue_IfExp]
  refine wpAny_bind (thn (hc.run pins s σ H _ I h) fun d s1 ⟨H1, I1, q1⟩ => ?_)
  cases d with
  | true => exact ha.run pins s1 σ H1 Q I1 q1
  | false => exact hb.run pins s1 σ H1 Q I1 q1
end GS
/-! Comprehensions whose elements are new lists. -/
namespace GS
open PySem PySem.Spec PyProof.Rows L2
/-- lists that were just laid, one a turn, none of them another's -/
theorem r_lcLs {J : It} {n : Nat} {G : Hp → Prop} {Y : Nat → Hp → V → Hp → Prop} {k : Nat} {te : TE} {σ : L2.St} {H1 : Hp} {Q : VK} (w : Walk J n G Y) (o : Nat → List V) (hn : n ≤ 50000) (hG : ∀ H' : Hp, Ex H1 H' → G H')
    (hw : ∀ x, wipe ((wipe σ [k]).set k (some x)) [k] = wipe σ [k])
    (he : ∀ i x H H', i < n → Ex H1 H → Y i H x H' → Ex H H' ∧ ∀ R : VK, (∀ t H4, Ex H' H4 → H' t = none → H4 t = some (.lst (o i)) → R (.ref t) H4) → te ((wipe σ [k]).set k (some x)) H' R)
    (q : ∀ p ts H', H1 p = none → Ex H1 H' → H' p = some (.lst (ts.map V.ref)) → ts.length = n → (p :: ts).Nodup → (∀ t ∈ ts, H1 t = none) → (∀ (j : Nat) (t : Addr), ts[j]? = some t → H' t = some (.lst (o j))) → Q (.ref p) H') : lcB J (gName k) tYes te [k] σ Q H1 := by
  refine r_lcP w (fun D i ys H => ∃ ts : List Addr, ys = ts.map V.ref ∧ ts.length = i ∧ (D :: ts).Nodup ∧ (∀ t ∈ ts, H1 t = none) ∧ ∀ (j : Nat) (t : Addr), ts[j]? = some t → H t = some (.lst (o j))) hn hG
    (fun D H e => ⟨[], rfl, rfl, by simp, (fun t h => nomatch h), fun j t h => by simp at h⟩) (fun D i ys H H' ⟨ts, h1, h2, h3, h4, h5⟩ b => ⟨ts, h1, h2, h3, h4, fun j t h => b _ _ (fun z => (List.nodup_cons.mp h3).1 (by rw [← z]; exact List.mem_of_getElem? h)) (h5 j t h)⟩) ?_ ?_
  · rintro D i x ys H H' hi hD e hd ⟨ts, rfl, h2, h3, h4, h5⟩ y N hN
    obtain ⟨e1, go⟩ := he i x H H' hi e y
    refine ⟨hw x, go N fun t H4 e4 ht ho => hN _ H4 (e1.trans e4) ⟨ts ++ [t], by simp, by simp [h2], ?_, fun u hu => ?_, fun j u hu => ?_⟩⟩
    · obtain ⟨n1, n2⟩ := List.nodup_cons.mp h3
      have tD : t ≠ D := fun z => by rw [z, e1 _ _ hd] at ht; cases ht
      have tts : t ∉ ts := fun z => by
        obtain ⟨j, hj⟩ := List.getElem?_of_mem z
        rw [e1 _ _ (h5 j t hj)] at ht
        cases ht
      refine List.nodup_cons.mpr ⟨fun z => ?_, List.nodup_append.mpr ⟨n2, by simp, fun a ha b hb => ?_⟩⟩
      · rcases List.mem_append.mp z with z | z
        · exact n1 z
        · exact tD (List.mem_singleton.mp z).symm
      · rw [List.mem_singleton.mp hb]
        rintro rfl
        exact tts ha
    · rcases List.mem_append.mp hu with z | z
      · exact h4 u z
      · rw [List.mem_singleton.mp z]
        exact (e.trans e1).free ht
    · rcases Nat.lt_or_ge j ts.length with c | c
      · rw [List.getElem?_append_left c] at hu
        exact e4 _ _ (e1 _ _ (h5 j u hu))
      · rw [List.getElem?_append_right c] at hu
        cases z : j - ts.length with
        | zero =>
          rw [z] at hu
          cases hu
          have : j = i := by omega
          rw [this]
          exact ho
        | succ m => rw [z] at hu; simp at hu
  · rintro D ys H' h1 h2 h3 h4 ⟨ts, rfl, g2, g3, g4, g5⟩
    exact q D ts H' h1 h2 h3 g2 g3 g4 g5
end GS
/-! Comprehensions with two for. -/
namespace GS
open PySem PySem.Spec PyProof.Rows L2
def flatV (F : Nat → List V) (i : Nat) : List V := ((List.range i).map F).flatten
theorem flatV_succ (F : Nat → List V) (i : Nat) : flatV F (i + 1) = flatV F i ++ F i := by
  unfold flatV
  rw [List.range_succ, List.map_append, List.flatten_append]
  simp
theorem flatV_len {F : Nat → List V} : ∀ i, (∀ j, j < i → (F j).length ≤ 200) → (flatV F i).length ≤ 200 * i
  | 0, _ => by simp [flatV]
  | i + 1, h => by
    rw [flatV_succ, List.length_append]
    have := flatV_len i fun j hj => h j (by omega)
    have := h i (by omega)
    omega
/-- tLc2 behind its outer walk -/
def lc2B (J : It) (g : TG) (tt : TT) (wi1 : TI) (g1 : TG) (tt1 : TT) (te : TE) (vs vs1 : List Nat) (σ : L2.St) (Q : VK) : Hp → Prop := fun H1 => tLc2 (fun _ H R => R J H) g tt wi1 g1 tt1 te vs vs1 σ H1 Q
theorem r_lc2 {wi wi1 : TI} {g g1 : TG} {tt tt1 : TT} {te : TE} {vs vs1 : List Nat} {σ : L2.St} {H : Hp} {Q : VK} (q : wi σ H fun J H1 => lc2B J g tt wi1 g1 tt1 te vs vs1 σ Q H1) : tLc2 wi g tt wi1 g1 tt1 te vs vs1 σ H Q := q
theorem if_go {A B : Prop} (h : A) : if true = true then A else B := by
  rw [if_pos rfl]
  exact h
/-- what an inner walk is to give -/
def inB2 (H1 : Hp) (f : List V) (k1 : Nat) (te : TE) (σ2 : L2.St) (J1 : It) : Prop := ∃ (G1 : Hp → Prop) (Y1 : Nat → Hp → V → Hp → Prop), Walk J1 f.length G1 Y1 ∧ (∀ H5, Ex H1 H5 → G1 H5) ∧
  ∀ j y H5 H6, j < f.length → Ex H1 H5 → Y1 j H5 y H6 → Ex H5 H6 ∧ ∀ N : VK, (∀ H7, Ex H6 H7 → N (f.getD j .non) H7) → te ((wipe σ2 [k1]).set k1 (some y)) H6 N
theorem r_lc2P {J : It} {n : Nat} {G : Hp → Prop} {Y : Nat → Hp → V → Hp → Prop} {k k1 : Nat} {wi1 : TI} {te : TE} {σ : L2.St} {H1 : Hp} {Q : VK} (w : Walk J n G Y) (F : Nat → List V) (hn : n ≤ 200) (hF : ∀ i, i < n → (F i).length ≤ 200) (hG : ∀ H' : Hp, Ex H1 H' → G H')
    (hw : ∀ x, wipe ((wipe σ [k, k1]).set k (some x)) [k, k1] = wipe σ [k, k1]) (hw1 : ∀ x y, wipe ((wipe ((wipe σ [k, k1]).set k (some x)) [k1]).set k1 (some y)) [k1] = wipe ((wipe σ [k, k1]).set k (some x)) [k1])
    (he : ∀ i x H H', i < n → Ex H1 H → Y i H x H' → Ex H H' ∧ ∀ R : It → Hp → Prop, (∀ J1, inB2 H1 (F i) k1 te ((wipe σ [k, k1]).set k (some x)) J1 → R J1 H') → wi1 ((wipe σ [k, k1]).set k (some x)) H' R)
    (q : ∀ p H', H1 p = none → Ex H1 H' → H' p = some (.lst (flatV F n)) → Q (.ref p) H') : lc2B J (gName k) tYes wi1 (gName k1) tYes te [k, k1] [k1] σ Q H1 := by
  intro D hD
  have mu : ∀ {H : Hp} {o : HO}, Ex H1 H → Ex H1 (upd H D o) := fun e => Ex.mut e hD
  have len : ∀ i, i ≤ n → (flatV F i).length ≤ 200 * i := fun i hi => flatV_len i fun j hj => hF j (by omega)
  refine ⟨fun i m H => i ≤ n ∧ m = n - i ∧ Ex H1 H ∧ H D = some (.lst (flatV F i)), ⟨n, Nat.zero_le _, by simp, mu (Ex.refl _), upd_same⟩, ?_⟩
  rintro i m H ⟨hi, rfl, e, hd⟩
  rcases Nat.lt_or_eq_of_le hi with c | rfl
  · refine .inr ⟨w.goes i H c (hG H e), fun H' => Ex H1 H' ∧ H' D = some (.lst (flatV F (i + 1))), fun H' h => ⟨n - (i + 1), by omega, by omega, rfl, h⟩, fun x H' y => ?_⟩
    obtain ⟨e1, go⟩ := he i x H H' c e (w.yields i H x H' c (hG H e) y)
    refine r_gName ⟨hw x, ?_⟩
    show wi1 _ _ _
    refine go _ fun J1 ⟨G1, Y1, w1, hG1, st⟩ => ?_
    have l1 := hF i c
    have l2 := len i hi
    refine ⟨fun j k H => j ≤ (F i).length ∧ k = (F i).length - j ∧ Ex H1 H ∧ H D = some (.lst (flatV F i ++ (F i).take j)), ⟨(F i).length, Nat.zero_le _, by simp, e.trans e1, by simpa using e1 _ _ hd⟩, ?_⟩
    rintro j kk H5 ⟨hj, rfl, e5, hd5⟩
    rcases Nat.lt_or_eq_of_le hj with cj | rfl
    · refine .inr ⟨w1.goes j H5 cj (hG1 H5 e5), fun H' => Ex H1 H' ∧ H' D = some (.lst (flatV F i ++ (F i).take (j + 1))), fun H' h => ⟨(F i).length - (j + 1), by omega, by omega, rfl, h⟩, fun z H6 y1 => ?_⟩
      obtain ⟨e6, go1⟩ := st j z H5 H6 cj e5 (w1.yields j H5 z H6 cj (hG1 H5 e5) y1)
      refine r_gName ⟨hw1 x z, ?_⟩
      show te _ _ _
      refine go1 _ fun H7 e7 => ⟨_, e7 _ _ (e6 _ _ hd5), ?_, mu ((e5.trans e6).trans e7), ?_⟩
      · refine sz_lt ?_
        rw [List.length_append, List.length_take]
        omega
      · rw [upd_same, List.append_assoc, List.take_add_one, List.getElem?_eq_getElem cj, List.getD_eq_getElem?_getD, List.getElem?_eq_getElem cj]
        rfl
    · refine .inl ⟨w1.stops H5 (hG1 H5 e5), e5, ?_⟩
      rw [hd5, List.take_length, flatV_succ]
  · exact .inl ⟨w.stops H (hG H e), q D H hD e hd⟩
end GS
/-! A field stored: the value is read first. -/
namespace GS
open PySem PySem.Spec PyProof.Rows L2
/-- sFld behind its value -/
def fldS (K : PySem.W.Frag) (ta : TE) (f : PySem.Str) (D : Ends) (σ : L2.St) : VK := fun y H1 => sFld K ta (fun _ H Q => Q y H) f D σ H1
theorem r_fldS {K : PySem.W.Frag} {ta tv : TE} {f : PySem.Str} {D : Ends} {σ : L2.St} {H : Hp} (q : tv σ H (fldS K ta f D σ)) : sFld K ta tv f D σ H := q
end GS
/-! zip, enumerate within comprehensions within comprehensions. -/
namespace GS
open PySem PySem.Spec PyProof.Rows L2
theorem kx_zipX {X : Cx} {K : PySem.W.Frag} (h : X.K = K) {e e2 : Expr} {ta : TA} {p pos tpos : Pos} {elts : List Expr} {kk : Nat} (hg : Gl X "zip") (hm : X.mg "zip" = none) (ha : PA X [e, e2] ta)
    (hs : starEach [e, e2] X.env = (false, eval e X.env) :: starEach [e2] X.env := by rfl) (hpl : (backTo pos (starEach [e2] X.env)).any (·.1) = false := by rfl) :
    PI X (.Tuple elts kk tpos) (.Call (.Name "zip" p) [e, e2] [] pos) (iZipX K ta) := by
  subst h
  exact pi_zipX hg hm ha hs hpl
theorem kx_enum {X : Cx} {K : PySem.W.Frag} (h : X.K = K) {e : Expr} {ta : TA} {p pos tpos : Pos} {elts : List Expr} {kk : Nat} (hg : Gl X "enumerate") (hm : X.mg "enumerate" = none) (ha : PA X [e] ta) (hs : starEach [e] X.env = [(false, eval e X.env)] := by rfl) :
    PI X (.Tuple elts kk tpos) (.Call (.Name "enumerate" p) [e] [] pos) (iEnum K ta) := by
  subst h
  exact pi_enum hg hm ha hs
end GS
/-! zip of three lists or tuples, in any mix. -/
namespace GS
open PySem PySem.Spec PyProof.Rows L2 TL
def ItzY (K : PySem.W.Frag) (t1 t2 t3 : Bool) (a b c : Addr) : It :=
  ⟨fun i H => ∃ (xs ys zs : List V) (x y z : V), SqX K H t1 a xs ∧ SqX K H t2 b ys ∧ SqX K H t3 c zs ∧ xs[i]? = some x ∧ ys[i]? = some y ∧ zs[i]? = some z,
    fun i H v H' => ∃ T x y z, v = .ref T ∧ H T = none ∧ H' = upd H T (.tup [x, y, z]) ∧ (∀ xs, SqX K H t1 a xs → xs[i]? = some x) ∧ (∀ ys, SqX K H t2 b ys → ys[i]? = some y) ∧ ∀ zs, SqX K H t3 c zs → zs[i]? = some z,
    fun i H => ∃ xs ys zs : List V, SqX K H t1 a xs ∧ SqX K H t2 b ys ∧ SqX K H t3 c zs ∧ i ≤ xs.length ∧ i ≤ ys.length ∧ i ≤ zs.length ∧ (i = xs.length ∨ i = ys.length ∨ i = zs.length)⟩
theorem turn_zipY {P : Program} {w : World} {K : PySem.W.Frag} {elts : List Expr} {kk : Nat} {tpos : Pos} {t1 t2 t3 : Bool} {a b c0 z TI TO i1 i2 i3 : Addr} (D : ZipSep3 z TI TO i1 i2 i3 [i1, a] [i2, b] [i3, c0]) :
    Turn P w K (.Tuple elts kk tpos) (ItzY K t1 t2 t3 a b c0) [z, TI, TO, i1, i2, i3] z (fun i h => IsZip h z TI TO .none ∧ IsTupOf3 h TI (.ref i1) (.ref i2) (.ref i3) ∧ (∃ x y u, IsTupOf3 h TO x y u) ∧ itAt h t1 i1 a i ∧ itAt h t2 i2 b i ∧ itAt h t3 i3 c0 i) where
  mem := by simp
  obj := fun i h st c hc => by
    obtain ⟨hz, hTI, ⟨x, y, u, hTO⟩, h1, h2, h3⟩ := st
    have e' : c = z ∨ c = TI ∨ c = TO ∨ c = i1 ∨ c = i2 ∨ c = i3 := by simpa using hc
    rcases e' with q | q | q | q | q | q
    · rw [q]; exact ⟨_, hz, fun v q => nomatch q⟩
    · rw [q]; exact ⟨_, hTI, fun v q => nomatch q⟩
    · rw [q]; exact ⟨_, hTO, fun v q => nomatch q⟩
    · rw [q]; exact itAt_obj h1
    · rw [q]; exact itAt_obj h2
    · rw [q]; exact itAt_obj h3
  keep := fun i h h' st k => by
    obtain ⟨hz, hTI, ⟨x, y, u, hTO⟩, h1, h2, h3⟩ := st
    exact ⟨k z (by simp) _ hz, k TI (by simp) _ hTI, ⟨x, y, u, k TO (by simp) _ hTO⟩, itAt_keep h1 fun o q => k i1 (by simp) o q, itAt_keep h2 fun o q => k i2 (by simp) o q, itAt_keep h3 fun o q => k i3 (by simp) o q⟩
  item := by
    intro X hP hw hK hc i pins s σ H E I hf st hg
    subst hP hw hK
    obtain ⟨hz, hTI, ⟨x0, y0, u0, hTO⟩, h1, h2, h3⟩ := st
    obtain ⟨xs, ys, zs, x, y, zz, hqx, hqy, hqz, hx, hy, hzz⟩ := hg
    obtain ⟨its, rv, p⟩ := sqX_get I hqx
    obtain ⟨its2, rv2, p2⟩ := sqX_get I hqy
    obtain ⟨its3, rv3, p3⟩ := sqX_get I hqz
    obtain ⟨u, hu, ru⟩ := rv.get hx
    obtain ⟨u2, hu2, ru2⟩ := rv2.get hy
    obtain ⟨u3, hu3, ru3⟩ := rv3.get hzz
    have hzl : z < s.heap.objs.size := Heap.lt_size hz
    have n1 : a ≠ i1 := fun e => by
      cases t1 with
      | true =>
        obtain ⟨o2, e2, c2, _⟩ := (show s.heap.IsTuple a its.toArray from p)
        obtain ⟨o3, e3, c3, _⟩ := (show s.heap.IsTupleIter i1 a i from h1)
        rw [← e, e2] at e3
        cases e3
        rw [c2] at c3
        exact absurd c3 (by decide)
      | false =>
        obtain ⟨o2, e2, c2, _⟩ := (show s.heap.IsList a its.toArray from p)
        obtain ⟨o3, e3, c3, _⟩ := (show s.heap.IsListIter i1 a i from h1)
        rw [← e, e2] at e3
        cases e3
        rw [c2] at c3
        exact absurd c3 (by decide)
    have n2 : b ≠ i2 := fun e => by
      cases t2 with
      | true =>
        obtain ⟨o2, e2, c2, _⟩ := (show s.heap.IsTuple b its2.toArray from p2)
        obtain ⟨o3, e3, c3, _⟩ := (show s.heap.IsTupleIter i2 b i from h2)
        rw [← e, e2] at e3
        cases e3
        rw [c2] at c3
        exact absurd c3 (by decide)
      | false =>
        obtain ⟨o2, e2, c2, _⟩ := (show s.heap.IsList b its2.toArray from p2)
        obtain ⟨o3, e3, c3, _⟩ := (show s.heap.IsListIter i2 b i from h2)
        rw [← e, e2] at e3
        cases e3
        rw [c2] at c3
        exact absurd c3 (by decide)
    have n3 : c0 ≠ i3 := fun e => by
      cases t3 with
      | true =>
        obtain ⟨o2, e2, c2, _⟩ := (show s.heap.IsTuple c0 its3.toArray from p3)
        obtain ⟨o3, e3, c3, _⟩ := (show s.heap.IsTupleIter i3 c0 i from h3)
        rw [← e, e2] at e3
        cases e3
        rw [c2] at c3
        exact absurd c3 (by decide)
      | false =>
        obtain ⟨o2, e2, c2, _⟩ := (show s.heap.IsList c0 its3.toArray from p3)
        obtain ⟨o3, e3, c3, _⟩ := (show s.heap.IsListIter i3 c0 i from h3)
        rw [← e, e2] at e3
        cases e3
        rw [c2] at c3
        exact absurd c3 (by decide)
    have k1 : i < its.toArray.size := by have := (List.getElem?_eq_some_iff.mp hu).1; simpa using this
    have k2 : i < its2.toArray.size := by have := (List.getElem?_eq_some_iff.mp hu2).1; simpa using this
    have k3 : i < its3.toArray.size := by have := (List.getElem?_eq_some_iff.mp hu3).1; simpa using this
    refine wpAny_pyNext_zipD3_item D (dr_at (prog := X.prog) (w := X.w) (A := X.A.in1) (I.ok.hd hc) t1 i1 a n1 its.toArray) (dr_at (prog := X.prog) (w := X.w) (A := X.A.in1) (I.ok.hd hc) t2 i2 b n2 its2.toArray) (dr_at (prog := X.prog) (w := X.w) (A := X.A.in1) (I.ok.hd hc) t3 i3 c0 n3 its3.toArray) hz hTI hTO ⟨h1, p⟩ ⟨h2, p2⟩ ⟨h3, p3⟩ k1 k2 k3 fun x1 x2 x3 h' tk y1 y2 y3 z' TO' st1' st2' st3' hT hsz hk => ?_
    have e1 : x1 = u := by have : its[i]? = some x1 := by simpa using y1
                           rw [hu] at this; exact (Option.some.inj this).symm
    have e2 : x2 = u2 := by have : its2[i]? = some x2 := by simpa using y2
                            rw [hu2] at this; exact (Option.some.inj this).symm
    have e3 : x3 = u3 := by have : its3[i]? = some x3 := by simpa using y3
                            rw [hu3] at this; exact (Option.some.inj this).symm
    subst e1 e2 e3
    refine ⟨_, rfl, wpAny_letOwnedTupleGo_zip (s := { s with heap := h', toks := tk }) z' fun h'' z'' sb => ?_⟩
    have hT2 : h''.get? s.heap.objs.size = some { cls := .type "tuple", data := .seq #[x1, x2, x3] } := (sb.2 _ (Nat.ne_of_gt hzl)).trans hT
    have new : ObjOk X.prog X.w (upd H s.heap.objs.size (.tup [x, y, zz])) h'' s.heap.objs.size (.tup [x, y, zz]) :=
      ⟨by show 3 ≤ sizeLine; decide, [x1, x2, x3], .cons ru (.cons ru2 (.cons ru3 .nil)), ⟨_, hT2, rfl, _, rfl⟩⟩
    have I1 : Inv X pins σ (upd H s.heap.objs.size (.tup [x, y, zz])) { s with heap := h'', toks := tk } :=
      I.turnedNew (t' := tk) (ch := [z, TI, TO, i1, i2, i3]) (fun c o hb q => (sb.2 c (fun q' => hb (by simp [q']))).trans (hk c o (fun q' => hb (by simp [q'])) (fun q' => hb (by simp [q'])) (fun q' => hb (by simp [q'])) (fun q' => hb (by simp [q'])) (fun q' => hb (by simp [q'])) q)) hf (Nat.le_refl _) new
    refine ⟨.ref s.heap.objs.size, _, I1, rfl, ⟨_, x, y, zz, rfl, I.hok.fresh (Nat.le_refl _), rfl, (fun l hl => by rw [sqX_inj I hl hqx]; exact hx), (fun l hl => by rw [sqX_inj I hl hqy]; exact hy), fun l hl => by rw [sqX_inj I hl hqz]; exact hzz⟩, ⟨z'', ?_, ⟨x1, x2, x3, ?_⟩, ?_, ?_, ?_⟩, fun c hcm => ?_⟩
    · exact (sb.2 _ D.TIz).trans (hk _ _ D.TIz D.TITO D.TIi1 D.TIi2 D.TIi3 hTI)
    · exact (sb.2 _ D.TOz).trans TO'
    · exact itAt_keep st1'.1 fun o q => (sb.2 _ (Ne.symm D.zi1)).trans q
    · exact itAt_keep st2'.1 fun o q => (sb.2 _ (Ne.symm D.zi2)).trans q
    · exact itAt_keep st3'.1 fun o q => (sb.2 _ (Ne.symm D.zi3)).trans q
    · have hlt : c < s.heap.objs.size := by
        have e' : c = z ∨ c = TI ∨ c = TO ∨ c = i1 ∨ c = i2 ∨ c = i3 := by simpa using hcm
        rcases e' with q | q | q | q | q | q
        · rw [q]; exact hzl
        · rw [q]; exact Heap.lt_size hTI
        · rw [q]; exact Heap.lt_size hTO
        · rw [q]; obtain ⟨_, e1, _⟩ := itAt_obj h1; exact Heap.lt_size e1
        · rw [q]; obtain ⟨_, e2, _⟩ := itAt_obj h2; exact Heap.lt_size e2
        · rw [q]; obtain ⟨_, e3, _⟩ := itAt_obj h3; exact Heap.lt_size e3
      rw [upd_ne (Nat.ne_of_lt hlt)]
      exact (hf c hcm).1
  done := by
    intro X hP hw hK hc i pins s σ H E I hf st hg
    subst hP hw hK
    obtain ⟨hz, hTI, ⟨x0, y0, u0, hTO⟩, h1, h2, h3⟩ := st
    obtain ⟨xs, ys, zs, hqx, hqy, hqz, l1, l2, l3, hend⟩ := hg
    obtain ⟨its, rv, p⟩ := sqX_get I hqx
    obtain ⟨its2, rv2, p2⟩ := sqX_get I hqy
    obtain ⟨its3, rv3, p3⟩ := sqX_get I hqz
    have m1 := rv.length
    have m2 := rv2.length
    have m3 := rv3.length
    have n1 : a ≠ i1 := fun e => by
      cases t1 with
      | true =>
        obtain ⟨o2, e2, c2, _⟩ := (show s.heap.IsTuple a its.toArray from p)
        obtain ⟨o3, e3, c3, _⟩ := (show s.heap.IsTupleIter i1 a i from h1)
        rw [← e, e2] at e3
        cases e3
        rw [c2] at c3
        exact absurd c3 (by decide)
      | false =>
        obtain ⟨o2, e2, c2, _⟩ := (show s.heap.IsList a its.toArray from p)
        obtain ⟨o3, e3, c3, _⟩ := (show s.heap.IsListIter i1 a i from h1)
        rw [← e, e2] at e3
        cases e3
        rw [c2] at c3
        exact absurd c3 (by decide)
    have n2 : b ≠ i2 := fun e => by
      cases t2 with
      | true =>
        obtain ⟨o2, e2, c2, _⟩ := (show s.heap.IsTuple b its2.toArray from p2)
        obtain ⟨o3, e3, c3, _⟩ := (show s.heap.IsTupleIter i2 b i from h2)
        rw [← e, e2] at e3
        cases e3
        rw [c2] at c3
        exact absurd c3 (by decide)
      | false =>
        obtain ⟨o2, e2, c2, _⟩ := (show s.heap.IsList b its2.toArray from p2)
        obtain ⟨o3, e3, c3, _⟩ := (show s.heap.IsListIter i2 b i from h2)
        rw [← e, e2] at e3
        cases e3
        rw [c2] at c3
        exact absurd c3 (by decide)
    have n3 : c0 ≠ i3 := fun e => by
      cases t3 with
      | true =>
        obtain ⟨o2, e2, c2, _⟩ := (show s.heap.IsTuple c0 its3.toArray from p3)
        obtain ⟨o3, e3, c3, _⟩ := (show s.heap.IsTupleIter i3 c0 i from h3)
        rw [← e, e2] at e3
        cases e3
        rw [c2] at c3
        exact absurd c3 (by decide)
      | false =>
        obtain ⟨o2, e2, c2, _⟩ := (show s.heap.IsList c0 its3.toArray from p3)
        obtain ⟨o3, e3, c3, _⟩ := (show s.heap.IsListIter i3 c0 i from h3)
        rw [← e, e2] at e3
        cases e3
        rw [c2] at c3
        exact absurd c3 (by decide)
    refine wpAny_pyNext_zipD3_end D (dr_at (prog := X.prog) (w := X.w) (A := X.A.in1) (I.ok.hd hc) t1 i1 a n1 its.toArray) (dr_at (prog := X.prog) (w := X.w) (A := X.A.in1) (I.ok.hd hc) t2 i2 b n2 its2.toArray) (dr_at (prog := X.prog) (w := X.w) (A := X.A.in1) (I.ok.hd hc) t3 i3 c0 n3 its3.toArray) hz hTI hTO ⟨h1, p⟩ ⟨h2, p2⟩ ⟨h3, p3⟩ (by rw [List.size_toArray]; omega) (by rw [List.size_toArray]; omega) (by rw [List.size_toArray]; omega) (by rw [List.size_toArray, List.size_toArray, List.size_toArray]; omega) fun h' tk hk => ⟨rfl, ?_⟩
    exact I.turnedL (t' := tk) (ch := [z, TI, TO, i1, i2, i3]) (fun c o hb q => hk c o (fun q' => hb (by simp [q'])) (fun q' => hb (by simp [q'])) (fun q' => hb (by simp [q'])) (fun q' => hb (by simp [q'])) (fun q' => hb (by simp [q'])) q) hf
  self := fun A i s Q E st h => wpAny_pyIter_zip st.1 h
def iZipY (K : PySem.W.Frag) (ta : TA) : TI := fun σ H R => ta σ H fun vs H1 => ∃ t1 t2 t3 a b c xs ys zs, vs = [.ref a, .ref b, .ref c] ∧ SqX K H1 t1 a xs ∧ SqX K H1 t2 b ys ∧ SqX K H1 t3 c zs ∧ R (ItzY K t1 t2 t3 a b c) H1
theorem pi_zipY {X : Cx} {e e2 e3 : Expr} {ta : TA} {p pos tpos : Pos} {elts : List Expr} {kk : Nat} (hg : Gl X "zip") (hm : X.mg "zip" = none) (ha : PA X [e, e2, e3] ta)
    (hs : starEach [e, e2, e3] X.env = (false, eval e X.env) :: starEach [e2, e3] X.env := by rfl) (hpl : (backTo pos (starEach [e2, e3] X.env)).any (·.1) = false := by rfl) :
    PI X (.Tuple elts kk tpos) (.Call (.Name "zip" p) [e, e2, e3] [] pos) (iZipY X.K ta) := by
  refine ⟨fun pins s σ H R I h => ?_⟩
  refine Call_ (ld_blt I hg hm PyProof.Rows.boot_zip (PyProof.Rows.callWith_type1 (thn (ha.run pos pins s σ H _ I h) fun us s1 ⟨vs, H1, I1, r1, q1⟩ => ?_) hs hpl))
  obtain ⟨t1, t2, t3, a, b, c0, xs, ys, zs, ex, hqx, hqy, hqz, q⟩ := q1
  subst ex
  cases r1 with
  | cons r rr =>
    cases rr with
    | cons r' rr =>
      cases rr with
      | cons r'' rr =>
        cases rr
        cases r
        cases r'
        cases r''
        have fresh6 : ∀ c, c ∈ [s1.heap.objs.size + 5, s1.heap.objs.size + 3, s1.heap.objs.size + 4, s1.heap.objs.size, s1.heap.objs.size + 1, s1.heap.objs.size + 2] → FpOk X pins H1 c := fun c hcm => by
          have hle : s1.heap.objs.size ≤ c := by
            simp only [List.mem_cons, List.not_mem_nil, or_false] at hcm
            rcases hcm with z | z | z | z | z | z
            · rw [z]; exact Nat.le_add_right _ _
            · rw [z]; exact Nat.le_add_right _ _
            · rw [z]; exact Nat.le_add_right _ _
            · rw [z]; exact Nat.le_refl _
            · rw [z]; exact Nat.le_add_right _ _
            · rw [z]; exact Nat.le_add_right _ _
          exact I1.fpOk hle (I1.hok.fresh hle)
        obtain ⟨its, rv, p1⟩ := sqX_get I1 hqx
        obtain ⟨its2, rv2, p2⟩ := sqX_get I1 hqy
        obtain ⟨its3, rv3, p3⟩ := sqX_get I1 hqz
        refine zip_begins3 (beg_at t1 a its.toArray) (beg_at t2 b its2.toArray) (beg_at t3 c0 its3.toArray) p1 p2 p3 fun h' hz hTI hTO h1 h2 h3 hsz hk => wpAny_pyIter_zip hz ?_
        have I2 : Inv X pins σ H1 { s1 with heap := h' } := I1.kept (t' := s1.toks) hk
        have la := isAt_lt p1
        have lb := isAt_lt p2
        have lc := isAt_lt p3
        have sep : ZipSep3 (s1.heap.objs.size + 5) (s1.heap.objs.size + 3) (s1.heap.objs.size + 4) s1.heap.objs.size (s1.heap.objs.size + 1) (s1.heap.objs.size + 2) [s1.heap.objs.size, a] [s1.heap.objs.size + 1, b] [s1.heap.objs.size + 2, c0] :=
          zip_sep3 (fun c hc => by rw [List.mem_singleton.mp hc]; exact isAt_lt p1) (fun c hc => by rw [List.mem_singleton.mp hc]; exact isAt_lt p2) (fun c hc => by rw [List.mem_singleton.mp hc]; exact isAt_lt p3)
        exact ⟨s1.heap.objs.size + 5, [s1.heap.objs.size + 5, s1.heap.objs.size + 3, s1.heap.objs.size + 4, s1.heap.objs.size, s1.heap.objs.size + 1, s1.heap.objs.size + 2], _, _, H1, rfl, I2, turn_zipY sep, ⟨hz, hTI, ⟨_, _, _, hTO⟩, itAt_new h1, itAt_new h2, itAt_new h3⟩, fresh6, q⟩
theorem kx_zipY {X : Cx} {K : PySem.W.Frag} (h : X.K = K) {e e2 e3 : Expr} {ta : TA} {p pos tpos : Pos} {elts : List Expr} {kk : Nat} (hg : Gl X "zip") (hm : X.mg "zip" = none) (ha : PA X [e, e2, e3] ta)
    (hs : starEach [e, e2, e3] X.env = (false, eval e X.env) :: starEach [e2, e3] X.env := by rfl) (hpl : (backTo pos (starEach [e2, e3] X.env)).any (·.1) = false := by rfl) :
    PI X (.Tuple elts kk tpos) (.Call (.Name "zip" p) [e, e2, e3] [] pos) (iZipY K ta) := by
  subst h
  exact pi_zipY hg hm ha hs hpl
def YTri (f g h : Nat → Option V) (i : Nat) (H : Hp) (v : V) (H' : Hp) : Prop := ∃ T x y z, v = .ref T ∧ H T = none ∧ H' = upd H T (.tup [x, y, z]) ∧ f i = some x ∧ g i = some y ∧ h i = some z
theorem walk_zipY {K : PySem.W.Frag} {t1 t2 t3 : Bool} {a b c : Addr} {xs ys zs : List V} {n : Nat} (hn : n = min (min xs.length ys.length) zs.length) : Walk (ItzY K t1 t2 t3 a b c) n (fun H => SqX K H t1 a xs ∧ SqX K H t2 b ys ∧ SqX K H t3 c zs) (YTri (fun i => xs[i]?) (fun i => ys[i]?) (fun i => zs[i]?)) := by
  subst hn
  refine ⟨fun i _ hi q => ?_, fun _ q => ⟨xs, ys, zs, q.1, q.2.1, q.2.2, by omega, by omega, by omega, by omega⟩, fun i H v H' _ q y => ?_⟩
  · have h1 : i < xs.length := by omega
    have h2 : i < ys.length := by omega
    have h3 : i < zs.length := by omega
    exact ⟨xs, ys, zs, xs[i], ys[i], zs[i], q.1, q.2.1, q.2.2, by simp [h1], by simp [h2], by simp [h3]⟩
  · obtain ⟨T, x, y', z, h1, h2, h3, h4, h5, h6⟩ := y
    exact ⟨T, x, y', z, h1, h2, h3, h4 xs q.1, h5 ys q.2.1, h6 zs q.2.2⟩
theorem r_zipY {K : PySem.W.Frag} {ta : TA} {σ : L2.St} {H : Hp} {R : It → Hp → Prop} (q : ta σ H fun vs H1 => ∃ t1 t2 t3 a b c xs ys zs, vs = [.ref a, .ref b, .ref c] ∧ SqX K H1 t1 a xs ∧ SqX K H1 t2 b ys ∧ SqX K H1 t3 c zs ∧ R (ItzY K t1 t2 t3 a b c) H1) : iZipY K ta σ H R := q
end GS
/-! sorted(d), d a dict whose keys are pairs of ints -/
namespace L2
open PySem PySem.Spec PyProof.Rows
def pairK (p : Int × Int) : List Key := [Sum.inl p.1, Sum.inl p.2]
/-- sorted(d): the keys, pairs of ints, by their first, then by their second -/
def rSortedDP : List V → Hp → VK → Prop := fun vs H Q => ∃ (a : Addr) (kvs : List (List Key × V)) (ps : List (Int × Int)), vs = [V.ref a] ∧ Rd H a (.dT kvs) ∧ kvs.map (·.1) = ps.map pairK ∧
  ∀ (p : Addr) (ts : List Addr) (qs : List (Int × Int)), qs.Perm ps → SrtO.Srtd SrtO.lexB qs → ts.length = qs.length → (∀ (j : Nat) (t : Addr) (q : Int × Int), ts[j]? = some t → qs[j]? = some q → H t = some (.tup [.int q.1, .int q.2])) → H p = none → Q (.ref p) (upd H p (.lst (ts.map V.ref)))
theorem dp_pair {f : List Key → Addr → Prop} : ∀ {kvs : List (List Key × V)} {bs : List Addr} {ps : List (Int × Int)}, Paired (fun p b => f p.1 b) kvs bs → kvs.map (·.1) = ps.map pairK → Paired (fun (p : Int × Int) b => f (pairK p) b) ps bs
  | [], _, ps, .nil, e => by
    cases ps with
    | nil => exact .nil
    | cons p q => cases e
  | k :: kvs, _, ps, .cons h t, e => by
    cases ps with
    | nil => cases e
    | cons p q =>
      rw [List.map_cons, List.map_cons] at e
      injection e with e1 e2
      exact .cons (by rw [← e1]; exact h) (dp_pair t e2)
def pairOf : Option HO → Int × Int
  | some (.tup [.int i, .int j]) => (i, j)
  | _ => (0, 0)
def kOf (H : Hp) : Value → Int × Int
  | .ref b => pairOf (H b)
  | _ => (0, 0)
theorem kOf_ref {H : Hp} {b : Addr} {p : Int × Int} (h : H b = some (.tup ((pairK p).map kV))) : kOf H (.ref b) = p := by
  show pairOf (H b) = p
  rw [h]
  rfl
theorem paired_mem {α β : Type} {R : α → β → Prop} : ∀ {xs : List α} {ys : List β} {y : β}, Paired R xs ys → y ∈ ys → ∃ x, x ∈ xs ∧ R x y
  | _, _, _, .nil, h => nomatch h
  | x :: xs, y' :: ys, y, .cons h t, hm => by
    rcases List.mem_cons.mp hm with rfl | hm
    · exact ⟨x, List.mem_cons_self, h⟩
    · obtain ⟨z, hz, r⟩ := paired_mem t hm
      exact ⟨z, List.mem_cons_of_mem _ hz, r⟩
theorem kOf_keys {H : Hp} : ∀ {ps : List (Int × Int)} {bs : List Addr}, Paired (fun (p : Int × Int) b => H b = some (.tup ((pairK p).map kV))) ps bs → ps = bs.map (kOf H ∘ Value.ref)
  | _, _, .nil => rfl
  | p :: ps, b :: bs, .cons h t => by
    rw [List.map_cons, ← kOf_keys t]
    congr 1
    exact (kOf_ref h).symm
theorem refs_all : ∀ {out : List Value}, (∀ v ∈ out, ∃ a, v = Value.ref a) → ∃ ts : List Addr, out = ts.map Value.ref
  | [], _ => ⟨[], rfl⟩
  | v :: out, h => by
    obtain ⟨a, rfl⟩ := h v List.mem_cons_self
    obtain ⟨ts, rfl⟩ := refs_all (out := out) fun u hu => h u (List.mem_cons_of_mem _ hu)
    exact ⟨a :: ts, rfl⟩
section
variable {X : Cx}
theorem cr_sortedDP (hc : X.calm = true) : CallR X (.builtin "sorted") rSortedDP := by
  intro pins s σ H xs us Q I r h
  obtain ⟨d, kvs, ps, rfl, hd, hks, q⟩ := h
  obtain ⟨u, rfl, rx⟩ := r.one
  cases rx
  obtain ⟨z, hs, ks, pr, o, es, ep, ho, hx, hdt, he, hn⟩ := (show ObjOk X.prog X.w H s.heap d (.dT kvs) from hd.ok I.hok)
  have l1 : es.size = ks.length := size_of_entries he
  have l2 : kvs.length = ks.length := Paired.length pr
  have hsz : es.size ≤ sizeLine := by omega
  refine Calls.call_function_entry kind_sorted plain_sorted entry_sorted (args_sorted1 _) ?_
  unfold Builtin.«sorted»
  refine wpAny_bind (m := checkCount "sorted" 1 1 _) (wpAny_pure ?_)
  refine wpAny_bind (PySem.W.kdu_collect (A := X.A.in1) (kdl_raw hs hx hdt) (I.ok.hd hc) ho hsz fun h' tk acc hk it => ?_)
  have ea : acc.toList = ks.map fun x => Value.ref x.2.1 := by
    have hl : acc.toList.length = ks.length := by rw [Array.length_toList, it.1]; exact l1
    apply List.ext_getElem?
    intro j
    rw [List.getElem?_map]
    cases hj : acc.toList[j]? with
    | none =>
      have h1 := List.getElem?_eq_none_iff.mp hj
      rw [List.getElem?_eq_none (by omega)]
      all_goals rfl
    | some v =>
      obtain ⟨en, hen, hv⟩ := it.2 j v (by rw [← Array.getElem?_toList]; exact hj)
      have qe := entry_at he j
      rw [hen] at qe
      cases hb : ks[j]? with
      | none =>
        rw [hb] at qe
        exact nomatch (show some en = none from qe)
      | some b =>
        rw [hb] at qe
        have e2 : en = entryOfKey (tupleKind (mixKind X.prog X.w)) b := Option.some.inj qe
        rw [hv, e2]
        all_goals rfl
  have eb : acc.toList = (ks.map fun x => x.2.1).map Value.ref := by rw [ea, List.map_map]; all_goals rfl
  have keys : Paired (fun (p : Int × Int) b => H b = some (.tup ((pairK p).map kV))) ps (ks.map fun x => x.2.1) := dp_pair (f := fun k b => H b = some (.tup (k.map kV))) (isKeys_of pr) hks
  generalize (ks.map fun x => x.2.1) = bs at eb keys
  have I1 : Inv X pins σ H { s with heap := h', toks := tk } := I.kept hk
  have hla : acc.toList.length ≤ sizeLine := by rw [ea, List.length_map]; omega
  refine wpAny_bind (wpAny_newList ?_ (by simpa using hla))
  have hoL : (h'.push (seqObj "list" acc.toList.toArray 0)).get? h'.objs.size = some (seqObj "list" acc.toList.toArray 0) := Heap.get?_push_size _ rfl
  show wpAny _ _ _ _ _ { s with heap := h'.push (seqObj "list" acc.toList.toArray 0), toks := tk }
  have mem : ∀ v ∈ acc.toList, ∃ b, v = Value.ref b ∧ H b = some (.tup [.int (kOf H v).1, .int (kOf H v).2]) := fun v hv => by
    rw [eb] at hv
    obtain ⟨b, hb, rfl⟩ := List.mem_map.mp hv
    obtain ⟨p, _, hp⟩ := paired_mem keys hb
    refine ⟨b, rfl, ?_⟩
    have e : kOf H (.ref b) = p := kOf_ref hp
    rw [e]
    exact hp
  refine wpAny_bind (wpAny_holding (wpAny_call_entry slot_list_sort ⟨_, hoL, rfl⟩ entry_list_sort (SrtO.list_sort_ord (s := { s with heap := h'.push (seqObj "list" acc.toList.toArray 0), toks := tk }) (ltv := fun v u => SrtO.lexB (kOf H v) (kOf H u)) (SrtO.swo_lex (kOf H)) hoL hla (fun h2 => ?_) fun out g1 g2 => ⟨_, rfl, ?_⟩) (args_list_sort _)))
  · refine SrtO.pairs_sortableO (by omega) (fun v hv => ?_) fun o e => ?_
    · obtain ⟨b, rfl, hb⟩ := mem v hv
      obtain ⟨_, its2, r2, o2, ho2, hc2, n2, hd2⟩ := I1.hok _ _ hb
      obtain ⟨u1, u2, rfl, ri, rj⟩ := vals2 r2
      obtain ⟨t1, rfl⟩ := ri
      obtain ⟨t2, rfl⟩ := rj
      exact ⟨b, o2, t1, t2, n2, rfl, Heap.get?_push_of_some _ ho2, hc2, hd2⟩
    · have e' : some o = some (seqObj "list" acc.toList.toArray 0) := e.symm.trans hoL
      cases e'
      intro c
      exact absurd (Value.type.inj c) (by decide)
  · obtain ⟨e', he'⟩ := PyProof.Rows.sortedHeap_at (vs := acc.toList) (out := out.toArray) hoL
    obtain ⟨ts, rfl⟩ : ∃ ts : List Addr, out = ts.map Value.ref := refs_all fun v hv => by
      obtain ⟨b, e, _⟩ := mem v (g2.perm.mem_iff.mp hv)
      exact ⟨b, e⟩
    have lt : ts.length ≤ sizeLine := by
      have := g2.perm.length_eq
      rw [List.length_map] at this
      omega
    refine wpAny_pure ⟨_, rfl, .ref h'.objs.size, upd H h'.objs.size (.lst (ts.map V.ref)), I1.laid (t' := tk) (fun b u e => ?_) (Nat.le_refl _)
      (show ObjOk X.prog X.w _ _ _ (.lst (ts.map V.ref)) from ⟨by rw [List.length_map]; exact lt, ts.map Value.ref, e', vals_refs _, he'⟩), rfl, q _ ts (ts.map fun b => kOf H (.ref b)) ?_ ?_ (by simp) (fun j t q' h1 h2 => ?_) (I1.hok.fresh (Nat.le_refl _))⟩
    · have hb : b < h'.objs.size := Heap.lt_size e
      rw [PyProof.Rows.sortedHeap_old (Nat.ne_of_lt hb) (by rw [size_push']; exact Nat.lt_succ_of_lt hb)]
      exact Heap.get?_push_of_some _ e
    · have p1 := g2.perm.map (kOf H)
      rw [eb, List.map_map, List.map_map] at p1
      rw [show ps = bs.map (kOf H ∘ Value.ref) from kOf_keys keys]
      exact p1
    · have := SrtO.srtd_map (f := kOf H) (lt := SrtO.lexB) g1
      rw [List.map_map] at this
      exact this
    · rw [List.getElem?_map, h1] at h2
      obtain rfl := Option.some.inj h2
      obtain ⟨b, e, hb⟩ := mem (.ref t) (g2.perm.mem_iff.mp (List.mem_map.mpr ⟨t, List.mem_of_getElem? h1, rfl⟩))
      cases e
      exact hb
end
end L2
/-! A lambda where several defs make such. -/
namespace GS
open PySem PySem.Spec PyProof.Rows L2 LamX
theorem pe_lamT {X : Cx} {T : List (Addr × Str)} {TT : (XK → Hp → VK → Prop) → Hp → VK → Prop} {x a : Str} {g c P : Addr} {k : Nat} {pg : Arguments} {bg : List Stmt} {sg : Scope} {fd : FuncData} {Ng : List Str}
    {params : Arguments} {body : Expr} {scope : Scope} {t : XK → TE} {p lpos pos : Pos} (hg : Gl X x) (hm : X.mg x = some (.ref g)) (hk : PySem.W.keepIn X.K (.ref g) = true)
    (F : FunD X.K x x pg bg sg [] [] g fd) (hb : L2.Binds X.K fd [a] []) (Sg : FnScope Ng [a] sg) (hNg : Ng[0]? = some a) (hva : Vis sg a)
    (hG : ∀ cdg, GivesS X Ng x sg g cdg bg a (X.env.qual ++ "<lambda>") TT)
    (TB : TabB X.base X.mg c P) (hcode : X.env.code = .ref c) (hmT : (P, X.env.qual ++ "<lambda>") ∈ T) (hu : ∀ p ∈ T, p.1 = P → p.2 = X.env.qual ++ "<lambda>") (hr : Room (k + 2) X.A) (L : LamS X.env.scope scope) (hdef : defaultsOf params X.env = ([], []))
    (hbind : ∀ (q : Str) (cl : List (Str × Addr)) (pm cv ctv : Value), bindArgs (PySem.W.kla_fn "<lambda>" q params body scope cl pm cv ctv) ⟨[], []⟩ = pure [])
    (hbody : ∀ (A : Around) (outer : List Env) (s : Shared) (H : Hp) (E : XK) (f c' : Addr), Room k (A.deeper (lamEnv X scope s.heap.objs.size f c')) → PE (lamCx X A outer s H E scope f c') body (t E))
    (hdb : (x == ("__debug__" : Str)) = false := by decide) (hd : (a == ("__debug__" : Str)) = false := by decide) (hcd : (a == ("__classdict__" : Str)) = false := by decide) :
    PE X (.Call (.Name x p) [.Lambda params body scope lpos] [] pos) (tLam T TT t) := by
  obtain ⟨oc, od, dV, kV, doc, pm, an, cdv, ct, osl, rfl, known, hcg, -, -⟩ := F.ex
  refine ⟨fun pins s σ H Q I want => ?_⟩
  obtain ⟨tabs, goal⟩ := want
  refine wpAny_Call_Name_kw (ld_glob I hg hm ?_ hdb)
  refine PySem.W.callWith_K (h₀ := X.base) I.ok.mod.kin hk ?_ (by rfl) (by rfl)
  show wpAny _ _ (spliced ((false, eval (.Lambda params body scope lpos) X.env) :: backTo pos (starEach [] X.env))) _ _ s
  refine Calls.spliced_cons (lam_make2 I TB hcode hmT hu tabs hdef (L.has I.ok) fun f c' pm' ctv H1 s' I1 eN T1 hf hfn hfr hco => ?_)
  refine Calls.spliced_nil ⟨I1.kIn, ?_⟩
  have ran : codeAny (model X.prog X.w) X.A (.call (.ref g) ⟨[.ref f], []⟩) (CR C8.CX0 X.stack X.prog X.w H1 s' Q C8.E0) s' := by
    refine run_ofS (N := Ng) (ps := [a]) (us := [.ref f]) (vs := [.ref f]) known hcg Sg hr I1.env0 (hb s' [.ref f] I1.kIn rfl) (.cons rfl .nil) rfl fun hr' => ?_
    obtain ⟨t', reads, wants⟩ := hG cdv f c' s' H1 Q (fun E H' Q' => t E σ H' Q') (fun W pn xe E p1 p2 tk hW => act_at (i := 0) I1 L hf hfn hfr (hbind _ _ _ _ _) tk hW hr' (fun A outer s H E hr2 => hbody A outer s H E f c' hr2) hNg hva hd hcd) hco (goal H1 eN T1)
    exact ⟨t', reads.nox, wants⟩
  refine wpAny_call (codeAny_mono ran fun r s2 hq => ?_)
  match r, hq with
  | .error e, hq => exact (show False from hq).elim
  | .ok (.ret u), hq => exact I1.after hq
  | .ok .next, hq => exact False.elim hq
  | .ok .brk, hq => exact False.elim hq
  | .ok .cont, hq => exact False.elim hq
/-- the tables of two defs are two -/
def tnB (x y : Str) : Chk := fun K => decide ((He.cT K (x, none)).2 ≠ (He.cT K (y, none)).2)
theorem tnB_ok {K : PySem.W.Frag} {x y : Str} (h : tnB x y K = true) : (He.cT K (x, none)).2 ≠ (He.cT K (y, none)).2 := of_decide_eq_true h
end GS
/-! A comprehension with a test whose turns change the heap. -/
namespace GS
open PySem PySem.Spec PyProof.Rows L2
theorem r_lcGT {J : It} {n : Nat} {G : Hp → Prop} {Y : Nat → Hp → V → Hp → Prop} {g : TG} {vs : List Nat} {tt : TT} {te : TE} {σ : L2.St} {H1 : Hp} {Q : VK} (w : Walk J n G Y) (P : Addr → Nat → List V → Hp → Prop) (hn : n ≤ 50000) (hG : ∀ D i ys H, P D i ys H → G H)
    (h0 : ∀ D, H1 D = none → P D 0 [] (upd H1 D (.lst []))) (mono : ∀ D i ys H o, H1 D = none → P D i ys H → P D i ys (upd H D o))
    (step : ∀ D i x ys H H', i < n → H1 D = none → H D = some (.lst ys) → ys.length ≤ i → P D i ys H → Y i H x H' → ∀ (N : VK) (M : Hp → Prop), (∀ y H4, H4 D = some (.lst ys) → P D (i + 1) (ys ++ [y]) H4 → N y H4) → (∀ H4, H4 D = some (.lst ys) → P D (i + 1) ys H4 → M H4) →
      g x (wipe σ vs) H' fun σ2 H2 => wipe σ2 vs = wipe σ vs ∧ tt σ2 H2 fun b H3 => if b = true then te σ2 H3 N else M H3)
    (q : ∀ D ys H', H1 D = none → H' D = some (.lst ys) → ys.length ≤ n → P D n ys H' → Q (.ref D) H') : lcB J g tt te vs σ Q H1 := by
  intro D hD
  refine lc_it w (fun i H => ∃ ys, H D = some (.lst ys) ∧ ys.length ≤ i ∧ P D i ys H) ⟨[], upd_same, Nat.le_refl _, h0 D hD⟩ (fun i H _ p => let ⟨ys, _, _, h⟩ := p; hG D i ys H h) ?_ (fun H p => let ⟨ys, h1, h2, h3⟩ := p; q D ys H hD h1 h2 h3)
  intro i x H H' hi p y
  obtain ⟨ys, p2, p3, p4⟩ := p
  exact step D i x ys H H' hi hD p2 p3 p4 y _ _ (fun z H4 h4 hp4 => ⟨ys, h4, sz_lt (by omega), ys ++ [z], upd_same, (by rw [List.length_append]; simp; omega), mono D _ _ _ _ hD hp4⟩) fun H4 h4 hp4 => ⟨ys, h4, by omega, hp4⟩
end GS
/-! Errors made as values: with own __init__, by place and by name; isinstance and fields of them. -/
namespace GS
open PySem PySem.Spec PySem.Calls PyProof.Rows L2
section
variable {X : Cx} {e : Expr} {es : List Expr} {ta : TA} {p pos : Pos}
/-- C(..) as a value -/
def tMkV (C : Addr) (sp : Sp) (dvs : List V) (ta : TA) : TE := fun σ H Q => ta σ H fun vs H1 => vs.length ≤ 1000 ∧ ∀ a, H1 a = none → sp (.ref a :: (vs ++ dvs)) (upd H1 a (exo a C none)) (fun v H2 => v = .non ∧ Q (.ref a) H2) fun _ _ _ => False
theorem pe_oexV {CX : CXT} {x : Str} {C fI : Addr} {k : Nat} {fd : FuncData} {ps : List Str} {sp : Sp} {ds : List Value} {dvs : List V} (T : OexC X.K C) (iC : PySem.W.findIn X.K (.ref C) "__init__" = some (some (.ref fI))) (tI : PySem.W.typeIn X.K (.ref fI) = some (.type "function"))
    (F1 : FnOk X.prog X.w X.K X.mg X.base CX k fI fd ps sp) (hr : Room (k + 1) X.A) (hb : Binds X.K fd ps ds) (hd : Vals dvs ds) (hx : Passes CX X (fun _ _ _ => False)) (hg : Gl X x) (hm : X.mg x = some (.ref C)) (ha : PA X (e :: es) ta)
    (hdb : (x == ("__debug__" : Str)) = false := by decide) (he : starEach (e :: es) X.env = (false, eval e X.env) :: starEach es X.env := by rfl) (hpl : (backTo pos (starEach es X.env)).any (·.1) = false := by rfl) :
    PE X (.Call (.Name x p) (e :: es) [] pos) (tMkV C sp dvs ta) := by
  refine ⟨fun pins s σ H Q I h => ?_⟩
  obtain ⟨nm, q, N, bs, bm, sn, sub, ab, col, dd, k0, k1, k2, k3, k5, hC, hbm⟩ := T.cls
  refine wpAny_Call_Name_kw (ld_glob I hg hm ?_ hdb)
  refine PySem.W.callWith_K (h₀ := X.base) I.ok.mod.kin T.kC (thn (ha.run pos pins s σ H _ I h) fun us s1 ⟨vs, H1, I1, r1, hz, q1⟩ => ⟨I1.kIn, ?_⟩) he hpl
  show wpAny _ _ (call (.ref C) us) _ _ _
  obtain ⟨hp, g, dr, tk, os⟩ := s1
  have hsz : hp.objs.size ≤ hp.objs.size + 1 := Nat.le_succ _
  have hn : H1 (hp.objs.size + 1) = none := I1.hok.fresh hsz
  have hq := q1 (hp.objs.size + 1) hn
  have kk : ∀ b o, hp.get? b = some o → ((hp.push (PySem.W.kdv_tup us)).push (PySem.HandSPX.excO C hp.objs.size)).get? b = some o := fun b o e => Heap.get?_push_of_some _ (Heap.get?_push_of_some _ e)
  have hget : ((hp.push (PySem.W.kdv_tup us)).push (PySem.HandSPX.excO C hp.objs.size)).get? (hp.objs.size + 1) = some (PySem.HandSPX.excO C hp.objs.size) := by heap_get
  have I2 : Inv X pins σ (upd H1 (hp.objs.size + 1) (exo (hp.objs.size + 1) C none)) ⟨(hp.push (PySem.W.kdv_tup us)).push (PySem.HandSPX.excO C hp.objs.size), g, dr, tk, os⟩ :=
    I1.laid (t' := tk) (a := hp.objs.size + 1) (o := exo (hp.objs.size + 1) C none) (h' := (hp.push (PySem.W.kdv_tup us)).push (PySem.HandSPX.excO C hp.objs.size)) kk hsz (exo_ok hget)
  have r2 : Vals (V.ref (hp.objs.size + 1) :: (vs ++ dvs)) (Value.ref (hp.objs.size + 1) :: (us ++ ds)) := .cons rfl (r1.append hd)
  have hl : (Value.ref (hp.objs.size + 1) :: us ++ ds).length = ps.length := by
    have e := r2.length
    rw [F1.len _ _ _ _ hq] at e
    exact e.symm
  have hus : us.length ≤ sizeLine := by
    rw [← Paired.length r1, sizeLine_eq]
    omega
  refine wpAny_call (PySem.HandSPX.call_own F.excBase_ValueError (fun Y => PySem.HandSPX.refsVE_contains Y bm hbm) (I1.kIn _ _ hC) (PySem.W.looks_findIn I1.kIn iC) (fun self => PySem.W.bind_fn I1.kIn self tI) hus
    (codeAny_mono (F1.run _ X.stack _ _ ⟨Value.ref (hp.objs.size + 1) :: us, []⟩ (Value.ref (hp.objs.size + 1) :: (us ++ ds)) _ _ (fun _ _ _ => False) (hr.make C us []) (I2.env0.make C us []) (hb _ (Value.ref (hp.objs.size + 1) :: us) I2.kIn hl) r2 hq) fun r s' hq' => ?_))
  cases r with
  | error er => exact hx pins σ _ _ er s' I2 hq'
  | ok fl =>
    cases fl with
    | ret u =>
      obtain ⟨v', H2, I3, rv, ev, q2⟩ := I2.after hq'
      subst ev
      exact ⟨rv, .ref _, H2, I3, rfl, q2⟩
    | next => exact False.elim hq'
    | brk => exact False.elim hq'
    | cont => exact False.elim hq'
end
end GS
/-! An error made by keyword. -/
namespace PySem.HandSPX
open PySem PySem.Spec PyProof.Rows PyProof
section
variable {M : Model} {prog : Program} {w : World} {A : Around} {E : Value → Shared → Prop} {R : Result → Shared → Prop} {h : Heap} {g : Array GenState} {d : Drawn} {t : Nat} {os : OsState}
variable {nm q : Str} {C N : Addr} {bs bm bmB : List Value} {hdct : Bool} {sn : List Str} {sub : List Value} {ab : Bool} {col : Option Bool} {dd : Option Addr} {k0 k1 k2 k3 k5 : Option Value} {B newId initId : String} {kw : List (Str × Value)}
theorem check_new_ownK (F : ExcBaseFacts B newId initId bmB) (hT : ∀ X : String, bm.contains (.type X) = bmB.contains (.type X)) {rest : List Value} {Q : Unit → Shared → Prop}
    (hC : h.get? C = some (excClassObj nm q C N bs bm hdct sn sub ab col dd k0 k1 k2 k3 k5 newId)) (hq : Q () ⟨h, g, d, t, os⟩) : wpAny M A (checkBuiltinCall newId ⟨.ref C :: rest, kw⟩) Q E ⟨h, g, d, t, os⟩ := by
  have hcont : (Value.ref C :: bm).contains (.type B) = true := by rw [List.contains_cons, hT, F.hasB, Bool.or_true]
  have hstar := F.noStar
  simp only [checkBuiltinCall, F.newKind, F.newSplit, F.newRow]
  repeat (first | refine wpAny_loadPart_at hC ?_ | (refine wpAny_isSubtype_exc hC ?_; rw [hcont]) | refine wpAny_staticBase_exc hC ?_ | refine wpAny_madeBy_exc hC ?_ | simp only [bne_self_eq_false, Bool.false_eq_true, if_false] | wp_step)
  exact hq
theorem new_ownK (F : ExcBaseFacts B newId initId bmB) (hT : ∀ X : String, bm.contains (.type X) = bmB.contains (.type X)) {rest : List Value}
    (hC : h.get? C = some (excClassObj nm q C N bs bm hdct sn sub ab col dd k0 k1 k2 k3 k5 newId))
    (hq : R (.ok (.ret (.ref (h.objs.size + 1)))) ⟨(h.push { cls := .type "tuple", data := .seq rest.toArray }).push
      { cls := .ref C, data := .fields #[.ref h.objs.size, .none, .none, .none, .bool false, .none] }, g, d, t, os⟩) (hrest : rest.length ≤ sizeLine) :
    codeAny (model prog w) A (.builtin newId ⟨.ref C :: rest, kw⟩) R ⟨h, g, d, t, os⟩ := by
  have hends := F.ends
  have hcB : (Value.ref C :: bm).contains (.type B) = true := by rw [List.contains_cons, hT, F.hasB, Bool.or_true]
  have hcA : (Value.ref C :: bm).contains (.type "AttributeError") = false := by rw [List.contains_cons, hT, F.noAttr]; rfl
  have hcN : (Value.ref C :: bm).contains (.type "NameError") = false := by rw [List.contains_cons, hT, F.noName]; rfl
  refine codeAny_builtinAt F.entry ?_
  unfold Builtin.«BaseException.__new__»
  refine wpAt_bind ?_
  show wpAt _ _ _ (stack >>= _) _ _ _
  refine wpAt_bind (wpAt_stack fun p below => wpAt_of_wpAny ?_)
  wp_walk
  refine wpAt_of_wpAny ?_
  rw [F.owner]
  repeat (first | with_reducible refine wpAny_madeHere_exc F.canon hC ?_ | with_reducible refine wpAny_loadPart_at hC ?_ | (with_reducible refine wpAny_isSubtype_exc hC ?_; first | rw [hcB] | rw [hcA] | rw [hcN]) | wp_step)
  show R _ _
  rw [Heap.size_push]
  exact hq
theorem type_call_ownK (F : ExcBaseFacts B newId initId bmB) (hT : ∀ X : String, bm.contains (.type X) = bmB.contains (.type X)) {rest : List Value} {fI : Addr} {Q : Fin → Shared → Prop}
    (hC : h.get? C = some (excClassObj nm q C N bs bm hdct sn sub ab col dd k0 k1 k2 k3 k5 newId))
    (hi : W.Looks (model prog w) h (typeLookup (.ref C) "__init__") (some (.ref fI))) (hb : ∀ self, W.Looks (model prog w) h (bindSpecial (.ref fI) self) (.ref fI, [self])) (hrest : rest.length ≤ sizeLine)
    (hq : codeAny (model prog w) A (.call (.ref fI) ⟨.ref (h.objs.size + 1) :: rest, kw⟩)
      (fun r s' => match r with | .ok (.ret v) => v = .none ∧ Q (.done (.ret (.ref (h.objs.size + 1)))) s' | .ok _ => False | .error e => E e s')
      ⟨(h.push (W.kdv_tup rest)).push (excO C h.objs.size), g, d, t, os⟩) :
    wpAny (model prog w) A (Builtin.«type.__call__» ⟨.ref C :: rest, kw⟩) Q E ⟨h, g, d, t, os⟩ := by
  repeat (first | with_reducible refine wpAny_loadPart_at hC ?_ | with_reducible refine wpAny_madeBy_exc hC ?_ | wp_step)
  refine codeAny_call_builtin_code (Code.quiet_builtin _ F.quiet) (check_new_ownK F hT hC ?_)
  refine new_ownK F hT hC ?_ hrest
  show wpAny _ _ _ _ _ _
  have k : ∀ b o, h.get? b = some o → ((h.push (W.kdv_tup rest)).push (excO C h.objs.size)).get? b = some o := fun b o e => Heap.get?_push_of_some _ (Heap.get?_push_of_some _ e)
  have hC₁ := k _ _ hC
  have hget : ((h.push (W.kdv_tup rest)).push (excO C h.objs.size)).get? (h.objs.size + 1) = some (excO C h.objs.size) := by heap_get
  have hcC : (Value.ref C :: bm).contains (.ref C) = true := by simp
  have i1 := hi.keeps k
  have b1 := (hb (.ref (h.objs.size + 1))).keeps k
  unfold isInstance
  repeat (first | with_reducible refine wpAny_loadPart_at hget ?_ | (with_reducible refine wpAny_isSubtype_exc hC₁ ?_; rw [hcC]) | wp_step)
  show wpAny _ _ (typeLookup (.ref C) _) _ _ _
  refine i1.at ?_
  refine wpAny_holding (wpAny_bind (b1.at ?_))
  refine wpAny_bind (wpAny_call (codeAny_mono hq fun r s' z => ?_))
  rcases r with e | (v | _ | _ | _) <;> first | exact z | exact z.elim | skip
  obtain ⟨rfl, z⟩ := z
  first
    | exact wpAny_pure (wpAny_pure z)
    | (wp_walk; exact z)
theorem call_ownK (F : ExcBaseFacts B newId initId bmB) (hT : ∀ X : String, bm.contains (.type X) = bmB.contains (.type X)) {rest : List Value} {fI : Addr}
    (hC : h.get? C = some (excClassObj nm q C N bs bm hdct sn sub ab col dd k0 k1 k2 k3 k5 newId))
    (hi : W.Looks (model prog w) h (typeLookup (.ref C) "__init__") (some (.ref fI))) (hb : ∀ self, W.Looks (model prog w) h (bindSpecial (.ref fI) self) (.ref fI, [self])) (hrest : rest.length ≤ sizeLine)
    (hq : codeAny (model prog w) (A.under (.builtin "type.__call__" ⟨.ref C :: rest, kw⟩)) (.call (.ref fI) ⟨.ref (h.objs.size + 1) :: rest, kw⟩) (W.InitBack (h.objs.size + 1) R)
      ⟨(h.push (W.kdv_tup rest)).push (excO C h.objs.size), g, d, t, os⟩) :
    codeAny (model prog w) A (.call (.ref C) ⟨rest, kw⟩) R ⟨h, g, d, t, os⟩ := by
  have f1 := tc_lookup
  have f2 := tc_bind (.ref C)
  have hTy : (⟨h, g, d, t, os⟩ : Shared).TypeIs (.ref C) "type" := ⟨_, hC, rfl⟩
  refine codeAny_of_tree ?_
  show wpAny _ _ (callAny (.ref C) _) _ _ _
  repeat (any_goals (first | assumption | with_reducible refine wpAny_loadPart_at hC ?_ | wp_step))
  refine ⟨rfl, ?_⟩
  refine codeAny_call_builtin_at (Code.quiet_builtin _ (by decide +kernel)) entry_typeCall (wpAny_check_type_call_sub hC (type_call_ownK F hT hC hi hb hrest ?_))
  refine codeAny_mono hq fun r s' z => ?_
  rcases r with e | (v | _ | _ | _) <;> exact z
end
end PySem.HandSPX
namespace GS
open PySem PySem.Spec PySem.Calls PyProof.Rows L2
section
variable {X : Cx} {p pos : Pos}
/-- C(k = v, ..) as a value -/
def tMkVK (C : Addr) (nk : Nat) (sp : Sp) (gV : List V → List V → List V) (tk : TA) : TE := fun σ H Q => tk σ H fun zs H1 => zs.length = nk ∧ zs.length ≤ 1000 ∧ ∀ a, H1 a = none → sp (gV [.ref a] zs) (upd H1 a (exo a C none)) (fun v H2 => v = .non ∧ Q (.ref a) H2) fun _ _ _ => False
theorem pe_oexK {CX : CXT} {x : Str} {C fI : Addr} {k : Nat} {fd : FuncData} {ps ks : List Str} {sp : Sp} {g : List Value → List Value → List Value} {gV : List V → List V → List V} {kws : List Keyword} {tk : TA} (T : OexC X.K C) (iC : PySem.W.findIn X.K (.ref C) "__init__" = some (some (.ref fI))) (tI : PySem.W.typeIn X.K (.ref fI) = some (.type "function"))
    (F1 : FnOk X.prog X.w X.K X.mg X.base CX k fI fd ps sp) (hr : Room (k + 1) X.A) (kb : KBn X.K fd ps 1 ks g gV) (hx : Passes CX X (fun _ _ _ => False)) (hg : Gl X x) (hm : X.mg x = some (.ref C)) (hw : PK X kws tk)
    (named : (backToKw pos (keywordEach kws X.env)).all (·.1.isSome) = true := by rfl) (names : (backToKw pos (keywordEach kws X.env)).filterMap (·.1) = ks := by rfl) (nodb : (x == ("__debug__" : Str)) = false := by decide)
    (plain : ((backTo pos (starEach [] X.env)).any (·.1) || (backToKw pos (keywordEach kws X.env)).any (·.1.isNone)) = false := by rfl) : PE X (.Call (.Name x p) [] kws pos) (tMkVK C ks.length sp gV tk) := by
  refine ⟨fun pins s σ H Q I h => wpAny_Call_Name_kw (ld_glob I hg hm ?_ nodb)⟩
  obtain ⟨nm, q, N, bs, bm, sn, sub, ab, col, dd, k0, k1, k2, k3, k5, hC, hbm⟩ := T.cls
  refine PySem.W.callWith_KW0 (h₀ := X.base) I.ok.mod.kin T.kC named (thn (hw.run pos pins s σ H _ I h) fun ws s1 ⟨zs, H1, I1, rz, m2, m3, q1⟩ => ⟨I1.kIn, ?_⟩) plain
  rw [names]
  obtain ⟨hp, gg, dr, tk, os⟩ := s1
  have hsz : hp.objs.size ≤ hp.objs.size + 1 := Nat.le_succ _
  have hn : H1 (hp.objs.size + 1) = none := I1.hok.fresh hsz
  have hq := q1 (hp.objs.size + 1) hn
  have kk : ∀ b o, hp.get? b = some o → ((hp.push (PySem.W.kdv_tup [])).push (PySem.HandSPX.excO C hp.objs.size)).get? b = some o := fun b o e => Heap.get?_push_of_some _ (Heap.get?_push_of_some _ e)
  have hget : ((hp.push (PySem.W.kdv_tup [])).push (PySem.HandSPX.excO C hp.objs.size)).get? (hp.objs.size + 1) = some (PySem.HandSPX.excO C hp.objs.size) := by heap_get
  have I2 : Inv X pins σ (upd H1 (hp.objs.size + 1) (exo (hp.objs.size + 1) C none)) ⟨(hp.push (PySem.W.kdv_tup [])).push (PySem.HandSPX.excO C hp.objs.size), gg, dr, tk, os⟩ :=
    I1.laid (t' := tk) (a := hp.objs.size + 1) (o := exo (hp.objs.size + 1) C none) (h' := (hp.push (PySem.W.kdv_tup [])).push (PySem.HandSPX.excO C hp.objs.size)) kk hsz (exo_ok hget)
  have l1 : ws.length = ks.length := by rw [← m2]; exact (Paired.length rz).symm
  have r2 : Vals (gV [.ref (hp.objs.size + 1)] zs) (g [Value.ref (hp.objs.size + 1)] ws) := kb.2 (.cons rfl .nil) rz
  refine wpAny_call (PySem.HandSPX.call_ownK F.excBase_ValueError (fun Y => PySem.HandSPX.refsVE_contains Y bm hbm) (I1.kIn _ _ hC) (PySem.W.looks_findIn I1.kIn iC) (fun self => PySem.W.bind_fn I1.kIn self tI) (Nat.zero_le _)
    (codeAny_mono (F1.run _ X.stack _ _ ⟨[Value.ref (hp.objs.size + 1)], ks.zip ws⟩ (g [Value.ref (hp.objs.size + 1)] ws) _ _ (fun _ _ _ => False) (hr.make C [] (ks.zip ws)) (I2.env0.make C [] (ks.zip ws)) (kb.1 _ [Value.ref (hp.objs.size + 1)] ws I2.kIn rfl l1) r2 hq) fun r s' hq' => ?_))
  cases r with
  | error er => exact hx pins σ _ _ er s' I2 hq'
  | ok fl =>
    cases fl with
    | ret u =>
      obtain ⟨v', H2, I3, rv, ev, q2⟩ := I2.after hq'
      subst ev
      exact ⟨rv, .ref _, H2, I3, rfl, q2⟩
    | next => exact False.elim hq'
    | brk => exact False.elim hq'
    | cont => exact False.elim hq'
end
end GS
/-! isinstance and fields of errors that are values. -/
namespace GS
open PySem PySem.Spec PySem.Calls PyProof.Rows L2
section
variable {X : Cx} {pins : List (Addr × Obj)} {σ : L2.St} {H : Hp} {s : Shared} {a : Addr}
theorem inst_val {C dd : Addr} {fs : List (Str × V)} (I : Inv X pins σ H s) (he : H a = some (exo a C (some dd))) (there : H dd = some (exd dd fs)) :
    ∃ oe od, PySem.W.InstAt s.heap a oe C (some od) ∧ ∀ n v, fs.lookup n = some v → ∃ u, RelV v u ∧ PySem.W.lookIn n od = some (some u) := by
  obtain ⟨mA, hns, hr⟩ := exd_at I.hok there
  obtain ⟨od, ho, hl⟩ := lookIn_ns hns
  obtain ⟨t1, ha⟩ := exo_at I.hok he
  refine ⟨_, od, ⟨ha, rfl, rfl, ho⟩, fun n v hv => ?_⟩
  obtain ⟨u, hu, ru⟩ := RelO.some_of (v := v) (o := mA n) (by rw [← hv]; exact hr n)
  exact ⟨u, ru, by rw [hl, hu]⟩
theorem inst_any {C : Addr} {d : Option Addr} (I : Inv X pins σ H s) (he : H a = some (exo a C d)) (hd : ∀ dx, d = some dx → ∃ fs, H dx = some (exd dx fs)) : ∃ oe od, PySem.W.InstAt s.heap a oe C od := by
  cases d with
  | none =>
    obtain ⟨t1, ha⟩ := exo_at I.hok he
    exact ⟨_, none, ha, rfl, rfl, trivial⟩
  | some dx =>
    obtain ⟨fs, hf⟩ := hd dx rfl
    obtain ⟨oe, od, i, _⟩ := inst_val I he hf
    exact ⟨oe, some od, i⟩
/-- an error that is a value: of class C, its fields -/
def ErV (H : Hp) (a C : Addr) (fs : List (Str × V)) : Prop := (∃ dx, H a = some (exo a C (some dx)) ∧ H dx = some (exd dx fs)) ∨ (H a = some (exo a C none) ∧ fs = [])
theorem ErV.inst {C : Addr} {fs : List (Str × V)} (I : Inv X pins σ H s) (h : ErV H a C fs) : ∃ oe od, PySem.W.InstAt s.heap a oe C od := by
  rcases h with ⟨dx, h1, h2⟩ | ⟨h, _⟩
  · exact inst_any I h1 fun dx' e => by cases e; exact ⟨fs, h2⟩
  · exact inst_any I h fun dx' e => by cases e
def rIsV (K : PySem.W.Frag) : List V → Hp → VK → Prop := fun xs H Q => ∃ (a : Addr) (c : V) (cv : Value) (b : Bool) (C : Addr) (fs : List (Str × V)), xs = [.ref a, c] ∧ (∀ u, RelV c u → u = cv) ∧ ErV H a C fs ∧ ExcC K C ∧ PySem.W.kitOne K (.ref C) cv = some b ∧ Q (.bl b) H
theorem cr_isV {K : PySem.W.Frag} (hk : X.K = K) : CallR X (.builtin "isinstance") (rIsV K) := by
  subst hk
  intro pins s σ H xs us Q I r got
  obtain ⟨a, c, cv, b, C, fs, rfl, only, he, ec, e, q⟩ := got
  obtain ⟨u1, u2, rfl, r1, r2⟩ := vals2 r
  cases r1
  rw [only _ r2]
  obtain ⟨oe, od, i⟩ := he.inst I
  exact PySem.W.kia_one (kit_err ec) I.kIn i e (fun z => nomatch z) fun tk => ⟨.bl b, H, I.kept (t' := tk) fun _ _ z => z, rfl, q⟩
def rIsVT (K : PySem.W.Frag) : List V → Hp → VK → Prop := fun xs H Q => ∃ (a tp : Addr) (cs : List V) (us : List Value) (b : Bool) (C : Addr) (fs : List (Str × V)), xs = [.ref a, .ref tp] ∧ H tp = some (.tup cs) ∧ Paired ClsV cs us ∧ ErV H a C fs ∧ ExcC K C ∧ PySem.W.kitAny K (.ref C) us = some b ∧ Q (.bl b) H
theorem cr_isVT {K : PySem.W.Frag} (hk : X.K = K) : CallR X (.builtin "isinstance") (rIsVT K) := by
  subst hk
  intro pins s σ H xs us Q I r got
  obtain ⟨a, tp, cs, ws, b, C, fs, rfl, hT, k, he, ec, e, q⟩ := got
  obtain ⟨u1, u2, rfl, r1, r2⟩ := vals2 r
  cases r1
  cases (show u2 = Value.ref tp from r2)
  obtain ⟨oe, od, i⟩ := he.inst I
  obtain ⟨_, its, rv, o, h1, h2, n, h3⟩ := (show ObjOk X.prog X.w H s.heap tp (.tup cs) from I.hok tp _ hT)
  have e3 := ClsV.all k rv
  subst e3
  obtain ⟨oc, od', dt, sl⟩ := o
  simp only at h2 h3
  subst h2 h3
  exact PySem.W.kia_tup (kit_err ec) I.kIn i h1 e (fun z => nomatch z) fun tk => ⟨.bl b, H, I.tok tk, rfl, q⟩
def tXV (K : PySem.W.Frag) (n : Str) (te : TE) : TE := fun σ H Q => te σ H fun x H1 => ∃ (a C dx : Addr) (fs : List (Str × V)) (v : V), x = .ref a ∧ H1 a = some (exo a C (some dx)) ∧ H1 dx = some (exd dx fs) ∧ XfC K C ∧ PySem.W.findIn K (.ref C) n = some none ∧ fs.lookup n = some v ∧ Q v H1
theorem pe_xV {K : PySem.W.Frag} {e : Expr} {te : TE} {pos : Pos} {n : Str} (hk : X.K = K) (he : PE X e te) (plain : attributeBase e n X.env (eval e X.env) = eval e X.env := by rfl) : PE X (.Attribute e n pos) (tXV K n te) := by
  subst hk
  refine ⟨fun pins s σ H Q I h => attr_of plain (thn (he.run pins s σ H _ I h) fun u s1 got => ?_)⟩
  obtain ⟨x, H1, I1, rx, a, C, dd, fs, v, rfl, hea, there, T, no_, l, q⟩ := got
  obtain rfl : u = Value.ref a := rx
  obtain ⟨oe, od, i, fields⟩ := inst_val I1 hea there
  obtain ⟨u, ru, hu⟩ := fields n v l
  exact PySem.HandSPX.exc_get I1.kIn i T.ga T.gg T.exC (PySem.W.findObj_own T.hdC no_ rfl hu) (handed_of ru) ⟨v, H1, I1.tok _, ru, q⟩
/-- C(), an own exception class without own __init__ -/
theorem pe_exc0 {C : Addr} {bmB : List Value} {B newId initId : String} {x : Str} {p pos : Pos} (F : ExcBaseFacts B newId initId bmB) (q : PySem.W.excIn X.K C bmB newId = true) (gC : X.mg x = some (.ref C)) (kC : PySem.W.keepIn X.K (.ref C) = true) (hg : Gl X x)
    (hdb : (x == ("__debug__" : Str)) = false := by decide) :
    PE X (.Call (.Name x p) [] [] pos) (fun σ H Q => ∀ a, H a = none → Q (.ref a) (upd H a (exo a C none))) := by
  refine ⟨fun pins s σ H Q I h => ?_⟩
  refine wpAny_Call_Name_kw (ld_glob I hg gC (PySem.W.callWith_K0 I.kIn kC ?_) hdb)
  obtain ⟨bm, N, nm, qn, bs, hdct, sn, sub, ab, col, dd, k0, k1, k2, k3, k5, mN, hC, hN, hni, T⟩ := exc_obj I.kIn q
  refine wpAny_call_exc_subT F T hC hN hni (fun h' a hm => ?_) (Nat.zero_le _)
  have hn : H a = none := I.hok.gone hm.new
  obtain ⟨t, ht, _, _⟩ := hm.there
  exact ⟨.ref a, upd H a (exo a C none), I.laidN hm.keeps hm.new hn (exo_ok ht), rfl, h a hn⟩
end
end GS
/-! != of what is the same object, or of lists of the same objects; `is` of bools. -/
namespace GS
open PySem PySem.Spec PySem.Calls PyProof.Rows L2
def Same1 (x : V) : Prop := flatB x = true ∨ ∃ a, x = .ref a
section
variable {X : Cx} {pins : List (Addr × Obj)} {σ : L2.St} {H : Hp} {s : Shared}
theorem same_at {A : Around} {x : V} {v u : Value} (h : Same1 x) (rx : RelV x v) (ry : RelV x u) : SeqAt.EqAt A s v u true := by
  rcases h with f | ⟨a, rfl⟩
  · exact eqAt_same rx ry f
  · cases (show v = Value.ref a from rx)
    cases (show u = Value.ref a from ry)
    exact SeqAt.EqAt.same _
theorem same_run {A : Around} {xs : List V} (h : ∀ x ∈ xs, Same1 x) : ∀ {us ws : List Value}, Vals xs us → Vals xs ws → ∀ j (h1 : j < us.length) (h2 : j < ws.length), SeqAt.EqAt A s us[j] ws[j] true := by
  induction xs with
  | nil =>
    intro us ws r1 r2 j h1 h2
    cases r1
    exact absurd h1 (Nat.not_lt_zero j)
  | cons x xs ih =>
    intro us ws r1 r2 j h1 h2
    cases r1 with
    | cons a1 b1 =>
      cases r2 with
      | cons a2 b2 =>
        cases j with
        | zero => exact same_at (h x List.mem_cons_self) a1 a2
        | succ j => exact ih (fun y hy => h y (List.mem_cons_of_mem _ hy)) b1 b2 j (Nat.lt_of_succ_lt_succ h1) (Nat.lt_of_succ_lt_succ h2)
theorem same_arr {A : Around} {xs : List V} {us ws : List Value} (h : ∀ x ∈ xs, Same1 x) (r1 : Vals xs us) (r2 : Vals xs ws) : ∀ j (h1 : j < us.toArray.size) (h2 : j < ws.toArray.size), SeqAt.EqAt A s us.toArray[j] ws.toArray[j] true := by
  intro j h1 h2
  have := same_run (A := A) (s := s) h r1 r2 j (by simpa using h1) (by simpa using h2)
  simpa using this
def rNeS (K : PySem.W.Frag) : R2 := fun x y H Q => rNe x y H Q ∨ (∃ a b xs, x = .ref a ∧ y = .ref b ∧ SqL K H a xs ∧ SqL K H b xs ∧ (∀ z ∈ xs, Same1 z) ∧ Q (.bl false) H) ∨ (∃ a b xs, x = .ref a ∧ y = .ref b ∧ SqT K H a xs ∧ SqT K H b xs ∧ (∀ z ∈ xs, Same1 z) ∧ Q (.bl false) H) ∨ rNeDA x y H Q
theorem op_neS (hu : X.A.units < cLine) : OpR X (compareOp .NotEq) (rNeS X.K) := by
  intro pins s σ H x y v u Q I rx ry h
  rcases h with h | ⟨a, b, xs, rfl, rfl, h1, h2, hs, q⟩ | ⟨a, b, xs, rfl, rfl, h1, h2, hs, q⟩ | h
  · exact op_ne pins s σ H x y v u Q I rx ry h
  · obtain rfl : v = Value.ref a := rx
    obtain rfl : u = Value.ref b := ry
    obtain ⟨us, r1, p1, _⟩ := I.list h1
    obtain ⟨ws, r2, p2, _⟩ := I.list h2
    have hz : us.toArray.size = ws.toArray.size := by simp [← Paired.length r1, ← Paired.length r2]
    exact PySem.EqBoolInt.of_rcne (SeqAt.RcNeAt.lists (e := fun _ => true) p1.isList p2.isList hz hu (same_arr hs r1 r2)) (fin_bl I q (by simp))
  · obtain rfl : v = Value.ref a := rx
    obtain rfl : u = Value.ref b := ry
    obtain ⟨us, r1, p1, _⟩ := I.tuple h1
    obtain ⟨ws, r2, p2, _⟩ := I.tuple h2
    have hz : us.length = ws.length := by simp [← Paired.length r1, ← Paired.length r2]
    exact PySem.EqBoolInt.of_rcne (SeqAt.RcNeAt.tuples (e := fun _ => true) p1 p2 hu (same_arr hs r1 r2)) (fin_bl I q (by simp [hz]))
  · exact op_ne_dictA hu pins s σ H x y v u Q I rx ry h
/-- a is b, both bools -/
theorem op_isB : OpR X (compareOp .Is) (fun x y H Q => ∃ a b, x = .bl a ∧ y = .bl b ∧ Q (.bl (a == b)) H) := by
  intro pins s σ H x y v u Q I rx ry h
  obtain ⟨a, b, rfl, rfl, q⟩ := h
  cases rx
  cases ry
  show wpAny _ _ ((isSame (Value.bool a) (Value.bool b)) >>= fun z => pure (Value.bool z)) _ _ s
  refine wpAny_bind (wpAny_isSame_plain (by rfl) (wpAny_pure (fin_bl I q ?_)))
  cases a <;> cases b <;> rfl
theorem op_isntB : OpR X (compareOp .IsNot) (fun x y H Q => ∃ a b, x = .bl a ∧ y = .bl b ∧ Q (.bl (!(a == b))) H) := by
  intro pins s σ H x y v u Q I rx ry h
  obtain ⟨a, b, rfl, rfl, q⟩ := h
  cases rx
  cases ry
  show wpAny _ _ ((isSame (Value.bool a) (Value.bool b)) >>= fun z => pure (Value.bool (!z))) _ _ s
  refine wpAny_bind (wpAny_isSame_plain (by rfl) (wpAny_pure (fin_bl I q ?_)))
  cases a <;> cases b <;> rfl
end
/-! facts of the head: error classes that are made and asked -/
section
open PySem.W He
variable {K : PySem.W.Frag}
/-- an error class x, made by the __init__ that the class d tells -/
def evB (x d : PySem.Str) (fs : List PySem.Str) : Chk := fun K => oexB K (ga K x) && (L2.xfB K (ga K x) && ((fs.all fun f => eqO (findIn K (.ref (ga K x)) f) (some none)) &&
  (eqO (findIn K (.ref (ga K x)) "__init__") (some (some (.ref (ma K (ga K d) "__init__")))) && (decide (typeIn K (.ref (ma K (ga K d) "__init__")) = some (.type "function")) && excB x K))))
structure EvC (K : PySem.W.Frag) (x d : PySem.Str) (fs : List PySem.Str) : Prop where
  o : L2.OexC K (ga K x)
  xf : L2.XfC K (ga K x)
  no_ : ∀ f ∈ fs, findIn K (.ref (ga K x)) f = some none
  i : findIn K (.ref (ga K x)) "__init__" = some (some (.ref (ma K (ga K d) "__init__")))
  t : typeIn K (.ref (ma K (ga K d) "__init__")) = some (.type "function")
  ex : ExcC K (ga K x)
theorem evB_ok {x d : PySem.Str} {fs : List PySem.Str} (top : topB K = true) (h : evB x d fs K = true) : EvC K x d fs := by
  obtain ⟨h1, h⟩ := Bool.and_eq_true_iff.mp h
  obtain ⟨h2, h⟩ := Bool.and_eq_true_iff.mp h
  obtain ⟨h3, h⟩ := Bool.and_eq_true_iff.mp h
  obtain ⟨h4, h⟩ := Bool.and_eq_true_iff.mp h
  obtain ⟨h5, h6⟩ := Bool.and_eq_true_iff.mp h
  exact ⟨oexB_ok h1, L2.xfB_ok h2, fun f hf => eqO_ok (List.all_eq_true.mp h3 f hf), eqO_ok h4, of_decide_eq_true h5, excB_ok top (L2.xfB_ok h2) h6⟩
/-- an error class with no __init__ of its own -/
def ezB (x : PySem.Str) : Chk := fun K => L2.xfB K (ga K x) && (excB x K && (excIn K (ga K x) [.type "ValueError", .type "Exception", .type "BaseException", .type "object"] "ValueError.__new__" && keepIn K (.ref (ga K x))))
structure EzC (K : PySem.W.Frag) (x : PySem.Str) : Prop where
  ex : ExcC K (ga K x)
  q : excIn K (ga K x) [.type "ValueError", .type "Exception", .type "BaseException", .type "object"] "ValueError.__new__" = true
  k : keepIn K (.ref (ga K x)) = true
theorem ezB_ok {x : PySem.Str} (top : topB K = true) (h : ezB x K = true) : EzC K x := by
  obtain ⟨h1, h⟩ := Bool.and_eq_true_iff.mp h
  obtain ⟨h2, h⟩ := Bool.and_eq_true_iff.mp h
  obtain ⟨h3, h4⟩ := Bool.and_eq_true_iff.mp h
  exact ⟨excB_ok top (L2.xfB_ok h1) h2, h3, h4⟩
/-- what an error of class x is an instance of: own classes, built-in ones, none of the tuple of built-in ones -/
def kinB (x : PySem.Str) (ys : List (PySem.Str × Bool)) (yes no : List String) : Chk := fun K => (ys.all fun p => decide (kitOne K (.ref (ga K x)) (.ref (ga K p.1)) = some p.2)) && ((yes.all fun t => decide (kitOne K (.ref (ga K x)) (.type t) = some true)) && decide (kitAny K (.ref (ga K x)) (no.map Value.type) = some false))
structure KinC (K : PySem.W.Frag) (x : PySem.Str) (ys : List (PySem.Str × Bool)) (yes no : List String) : Prop where
  own : ∀ p ∈ ys, kitOne K (.ref (ga K x)) (.ref (ga K p.1)) = some p.2
  yes : ∀ t ∈ yes, kitOne K (.ref (ga K x)) (.type t) = some true
  no : kitAny K (.ref (ga K x)) (no.map Value.type) = some false
theorem kinB_ok {x : PySem.Str} {ys : List (PySem.Str × Bool)} {yes no : List String} (h : kinB x ys yes no K = true) : KinC K x ys yes no := by
  obtain ⟨h1, h⟩ := Bool.and_eq_true_iff.mp h
  obtain ⟨h2, h3⟩ := Bool.and_eq_true_iff.mp h
  exact ⟨fun p hp => of_decide_eq_true (List.all_eq_true.mp h1 p hp), fun t ht => of_decide_eq_true (List.all_eq_true.mp h2 t ht), of_decide_eq_true h3⟩
end
end GS
/-! The nineteen error classes of a law, and what an error of each is. -/
namespace GS
open PySem PySem.Spec
def N19 : List PySem.Str := ["BadNumber", "BadBound", "BadPoly", "BadWeb", "BadSigns", "BadVectors", "BadLots", "BadRound", "BadDesk", "Misfit", "NoPlace", "NoTie", "NoName", "Twice", "TooMany", "Impossible", "Nothing", "BadText", "BadLine"]
def isMiss (x : PySem.Str) : Bool := (["NoPlace", "NoTie", "NoName", "Missing"] : List PySem.Str).elem x
def kinOf (x : PySem.Str) : List (PySem.Str × Bool) := N19.map (fun y => (y, y == x)) ++ ([("SignsError", true), ("Missing", isMiss x)] : List (PySem.Str × Bool))
end GS
namespace K00
open PySem PySem.Spec PyProof.Rows L2 GS LamX
def topS (i : Nat) : Stmt := PySem.Challenge.pw_goodsigns_k00_errors_and_checks.main.body.getD i (.Pass ⟨0, 0, 0, 0⟩)
abbrev s_BadNumber_init : Stmt := inClass (topS 3) 0
abbrev s_BadBound_init : Stmt := inClass (topS 4) 0
abbrev s_BadPoly_init : Stmt := inClass (topS 5) 0
abbrev s_BadWeb_init : Stmt := inClass (topS 6) 0
abbrev s_BadSigns_init : Stmt := inClass (topS 7) 0
abbrev s_BadVectors_init : Stmt := inClass (topS 8) 0
abbrev s_BadLots_init : Stmt := inClass (topS 9) 0
abbrev s_BadRound_init : Stmt := inClass (topS 10) 0
abbrev s_BadDesk_init : Stmt := inClass (topS 11) 0
abbrev s_Misfit_init : Stmt := inClass (topS 12) 0
abbrev s_Missing_init : Stmt := inClass (topS 13) 0
abbrev s_Twice_init : Stmt := inClass (topS 17) 0
abbrev s_TooMany_init : Stmt := inClass (topS 18) 0
abbrev s_Impossible_init : Stmt := inClass (topS 19) 0
abbrev s_BadText_init : Stmt := inClass (topS 21) 0
abbrev s_BadLine_init : Stmt := inClass (topS 22) 0
abbrev s_is_integer : Stmt := topS 27
abbrev s_is_within : Stmt := topS 28
abbrev s_is_row : Stmt := topS 29
abbrev s_are_integers : Stmt := topS 30
abbrev s_is_name : Stmt := topS 31
abbrev s_need_integer : Stmt := topS 32
abbrev s_need_integers : Stmt := topS 33
abbrev s_common_divisor : Stmt := topS 34
abbrev s_whole_root : Stmt := topS 35
abbrev s__law_ark : Stmt := topS 37
abbrev s__law_haul : Stmt := topS 38
abbrev s__law_fish : Stmt := topS 39
abbrev s__law_any : Stmt := topS 40
abbrev s__law_kin : Stmt := topS 41
abbrev s__law_stands : Stmt := topS 42
abbrev s__law_parts_right : Stmt := topS 43
abbrev s__law_values_right : Stmt := topS 44
abbrev s__law_integers_right : Stmt := topS 45
abbrev s__law_names_right : Stmt := topS 46
abbrev s__law_heard : Stmt := topS 47
abbrev s__law_roots_right : Stmt := topS 48
abbrev s_law : Stmt := topS 49
theorem sc_BadNumber_init : FnScope ["self", "part"] ["self", "part"] (defScope s_BadNumber_init) := ⟨rfl, rfl, rfl, by decide +kernel, rfl, by decide +kernel, by decide +kernel⟩
theorem sc_BadBound_init : FnScope ["self", "part"] ["self", "part"] (defScope s_BadBound_init) := ⟨rfl, rfl, rfl, by decide +kernel, rfl, by decide +kernel, by decide +kernel⟩
theorem sc_BadPoly_init : FnScope ["self", "part"] ["self", "part"] (defScope s_BadPoly_init) := ⟨rfl, rfl, rfl, by decide +kernel, rfl, by decide +kernel, by decide +kernel⟩
theorem sc_BadWeb_init : FnScope ["self", "part"] ["self", "part"] (defScope s_BadWeb_init) := ⟨rfl, rfl, rfl, by decide +kernel, rfl, by decide +kernel, by decide +kernel⟩
theorem sc_BadSigns_init : FnScope ["self", "part"] ["self", "part"] (defScope s_BadSigns_init) := ⟨rfl, rfl, rfl, by decide +kernel, rfl, by decide +kernel, by decide +kernel⟩
theorem sc_BadVectors_init : FnScope ["self", "part"] ["self", "part"] (defScope s_BadVectors_init) := ⟨rfl, rfl, rfl, by decide +kernel, rfl, by decide +kernel, by decide +kernel⟩
theorem sc_BadLots_init : FnScope ["self", "part"] ["self", "part"] (defScope s_BadLots_init) := ⟨rfl, rfl, rfl, by decide +kernel, rfl, by decide +kernel, by decide +kernel⟩
theorem sc_BadRound_init : FnScope ["self", "part"] ["self", "part"] (defScope s_BadRound_init) := ⟨rfl, rfl, rfl, by decide +kernel, rfl, by decide +kernel, by decide +kernel⟩
theorem sc_BadDesk_init : FnScope ["self", "part"] ["self", "part"] (defScope s_BadDesk_init) := ⟨rfl, rfl, rfl, by decide +kernel, rfl, by decide +kernel, by decide +kernel⟩
theorem sc_Misfit_init : FnScope ["self", "part"] ["self", "part"] (defScope s_Misfit_init) := ⟨rfl, rfl, rfl, by decide +kernel, rfl, by decide +kernel, by decide +kernel⟩
theorem sc_Missing_init : FnScope ["self", "value"] ["self", "value"] (defScope s_Missing_init) := ⟨rfl, rfl, rfl, by decide +kernel, rfl, by decide +kernel, by decide +kernel⟩
theorem sc_Twice_init : FnScope ["self", "value"] ["self", "value"] (defScope s_Twice_init) := ⟨rfl, rfl, rfl, by decide +kernel, rfl, by decide +kernel, by decide +kernel⟩
theorem sc_TooMany_init : FnScope ["self", "what", "most"] ["self", "what", "most"] (defScope s_TooMany_init) := ⟨rfl, rfl, rfl, by decide +kernel, rfl, by decide +kernel, by decide +kernel⟩
theorem sc_Impossible_init : FnScope ["self", "paper"] ["self", "paper"] (defScope s_Impossible_init) := ⟨rfl, rfl, rfl, by decide +kernel, rfl, by decide +kernel, by decide +kernel⟩
theorem sc_BadText_init : FnScope ["self", "line", "item"] ["self", "line", "item"] (defScope s_BadText_init) := ⟨rfl, rfl, rfl, by decide +kernel, rfl, by decide +kernel, by decide +kernel⟩
theorem sc_BadLine_init : FnScope ["self", "line", "error"] ["self", "line", "error"] (defScope s_BadLine_init) := ⟨rfl, rfl, rfl, by decide +kernel, rfl, by decide +kernel, by decide +kernel⟩
theorem sc_is_integer : FnScope ["value"] ["value"] (defScope s_is_integer) := ⟨rfl, rfl, rfl, by decide +kernel, rfl, by decide +kernel, by decide +kernel⟩
theorem sc_is_within : FnScope ["value", "least", "most"] ["value", "least", "most"] (defScope s_is_within) := ⟨rfl, rfl, rfl, by decide +kernel, rfl, by decide +kernel, by decide +kernel⟩
theorem sc_is_row : FnScope ["value"] ["value"] (defScope s_is_row) := ⟨rfl, rfl, rfl, by decide +kernel, rfl, by decide +kernel, by decide +kernel⟩
theorem sc_are_integers : FnScope ["value", "each"] ["value"] (defScope s_are_integers) := ⟨rfl, rfl, rfl, by decide +kernel, rfl, by decide +kernel, by decide +kernel⟩
theorem sc_is_name : FnScope ["value", "each"] ["value"] (defScope s_is_name) := ⟨rfl, rfl, rfl, by decide +kernel, rfl, by decide +kernel, by decide +kernel⟩
theorem sc_need_integer : FnScope ["value", "part", "least", "most"] ["value", "part", "least", "most"] (defScope s_need_integer) := ⟨rfl, rfl, rfl, by decide +kernel, rfl, by decide +kernel, by decide +kernel⟩
theorem sc_need_integers : FnScope ["value", "part"] ["value", "part"] (defScope s_need_integers) := ⟨rfl, rfl, rfl, by decide +kernel, rfl, by decide +kernel, by decide +kernel⟩
theorem sc_common_divisor : FnScope ["values", "divisor", "value"] ["values"] (defScope s_common_divisor) := ⟨rfl, rfl, rfl, by decide +kernel, rfl, by decide +kernel, by decide +kernel⟩
theorem sc_whole_root : FnScope ["number"] ["number"] (defScope s_whole_root) := ⟨rfl, rfl, rfl, by decide +kernel, rfl, by decide +kernel, by decide +kernel⟩
theorem sc__law_ark : FnScope ["script", "cell"] ["script"] (defScope s__law_ark) := ⟨rfl, rfl, rfl, by decide +kernel, rfl, by decide +kernel, by decide +kernel⟩
theorem sc__law_haul : FnScope ["ark", "many", "left", "turn", "cell", "mixed"] ["ark", "many"] (defScope s__law_haul) := ⟨rfl, rfl, rfl, by decide +kernel, rfl, by decide +kernel, by decide +kernel⟩
theorem sc__law_fish : FnScope ["ark", "some"] ["ark", "some"] (defScope s__law_fish) := ⟨rfl, rfl, rfl, by decide +kernel, rfl, by decide +kernel, by decide +kernel⟩
theorem sc__law_any : FnScope ["ark", "number"] ["ark"] (defScope s__law_any) := ⟨rfl, rfl, rfl, by decide +kernel, rfl, by decide +kernel, by decide +kernel⟩
theorem sc__law_kin : FnScope ["error", "told"] ["error"] (defScope s__law_kin) := ⟨rfl, rfl, rfl, by decide +kernel, rfl, by decide +kernel, by decide +kernel⟩
theorem sc__law_stands : FnScope ["error", "at", "spot"] ["error", "at"] (defScope s__law_stands) := ⟨rfl, rfl, rfl, by decide +kernel, rfl, by decide +kernel, by decide +kernel⟩
theorem sc__law_parts_right : FnScope ["one", "made", "named", "at"] ["one"] (defScope s__law_parts_right) := ⟨rfl, rfl, rfl, by decide +kernel, rfl, by decide +kernel, by decide +kernel⟩
theorem sc__law_values_right : FnScope ["one", "other", "made", "at", "error", "base"] ["one", "other"] (defScope s__law_values_right) := ⟨rfl, rfl, rfl, by decide +kernel, rfl, by decide +kernel, by decide +kernel⟩
theorem sc__law_integers_right : FnScope ["ark", "number", "odd", "low", "high", "told", "row", "turn", "at"] ["ark"] (defScope s__law_integers_right) := ⟨rfl, rfl, rfl, by decide +kernel, rfl, by decide +kernel, by decide +kernel⟩
theorem sc__law_names_right : FnScope ["ark", "letters", "name", "turn", "at", "odd", "bent", "value"] ["ark"] (defScope s__law_names_right) := ⟨rfl, rfl, rfl, by decide +kernel, rfl, by decide +kernel, by decide +kernel⟩
theorem sc__law_heard : FnScope ["ask", "caught", "error"] ["ask"] (defScope s__law_heard) := ⟨rfl, rfl, rfl, by decide +kernel, rfl, by decide +kernel, by decide +kernel⟩
theorem sc__law_roots_right : FnScope ["ark", "by", "some", "turn", "due", "number", "each", "told", "root", "more", "odd", "none", "heard"] ["ark"] (defScope s__law_roots_right) := ⟨rfl, rfl, rfl, by decide +kernel, rfl, by decide +kernel, by decide +kernel⟩
theorem sc_law : FnScope ["script", "ark", "turn", "one", "other"] ["script"] (defScope s_law) := ⟨rfl, rfl, rfl, by decide +kernel, rfl, by decide +kernel, by decide +kernel⟩
abbrev tys : List String := ["int", "bool", "str", "NoneType", "list", "tuple", "dict"]
def fa_0 : List He.Fa := [.glo "is_integer",
  .glo "is_within",
  .glo "is_row",
  .glo "are_integers",
  .glo "is_name",
  .glo "need_integer",
  .glo "need_integers",
  .glo "common_divisor",
  .glo "whole_root",
  .glo "_law_ark",
  .glo "_law_haul",
  .glo "_law_fish",
  .glo "_law_any",
  .glo "_law_kin",
  .glo "_law_stands",
  .glo "_law_parts_right",
  .glo "_law_values_right",
  .glo "_law_integers_right",
  .glo "_law_names_right",
  .glo "_law_heard",
  .glo "_law_roots_right",
  .glo "law",
  .glo "SignsError",
  .glo "BadNumber",
  .glo "BadBound",
  .glo "BadPoly",
  .glo "BadWeb",
  .glo "BadSigns",
  .glo "BadVectors",
  .glo "BadLots"]
def fa_1 : List He.Fa := [.glo "BadRound",
  .glo "BadDesk",
  .glo "Misfit",
  .glo "Missing",
  .glo "NoPlace",
  .glo "NoTie",
  .glo "NoName",
  .glo "Twice",
  .glo "TooMany",
  .glo "Impossible",
  .glo "Nothing",
  .glo "BadText",
  .glo "BadLine",
  .keep "is_integer",
  .keep "is_within",
  .keep "is_row",
  .keep "are_integers",
  .keep "is_name",
  .keep "need_integer",
  .keep "need_integers",
  .keep "common_divisor",
  .keep "whole_root",
  .keep "_law_ark",
  .keep "_law_haul",
  .keep "_law_fish",
  .keep "_law_any",
  .keep "_law_kin",
  .keep "_law_stands",
  .keep "_law_parts_right",
  .keep "_law_values_right"]
def fa_2 : List He.Fa := [.keep "_law_integers_right",
  .keep "_law_names_right",
  .keep "_law_heard",
  .keep "_law_roots_right",
  .keep "law",
  .free "isinstance",
  .free "int",
  .free "bool",
  .free "str",
  .free "list",
  .free "tuple",
  .free "len",
  .free "abs",
  .free "range",
  .free "all",
  .free "enumerate",
  .free "repr",
  .free "ValueError",
  .free "LookupError",
  .free "TypeError",
  .free "ArithmeticError",
  .free "AttributeError",
  .free "RuntimeError",
  .str "LETTERS" "abcdefghijklmnopqrstuvwxyz",
  .str "DIGITS" "0123456789",
  .int "LONGEST_NAME" 12]
def fa_all : List He.Fa := fa_0 ++ fa_1 ++ fa_2
def ex_0 : List Chk := [bnB "gcd" "math.gcd",
  bnB "isqrt" "math.isqrt",
  topB,
  errB "BadNumber" ["part"] ["BadNumber", "SignsError"] [],
  excB "BadNumber",
  evB "BadNumber" "BadNumber" ["part"],
  kinB "BadNumber" (kinOf "BadNumber") ["ValueError"] ["LookupError", "TypeError", "ArithmeticError", "AttributeError", "RuntimeError"],
  evB "BadBound" "BadBound" ["part"],
  kinB "BadBound" (kinOf "BadBound") ["ValueError"] ["LookupError", "TypeError", "ArithmeticError", "AttributeError", "RuntimeError"],
  evB "BadPoly" "BadPoly" ["part"],
  kinB "BadPoly" (kinOf "BadPoly") ["ValueError"] ["LookupError", "TypeError", "ArithmeticError", "AttributeError", "RuntimeError"],
  evB "BadWeb" "BadWeb" ["part"],
  kinB "BadWeb" (kinOf "BadWeb") ["ValueError"] ["LookupError", "TypeError", "ArithmeticError", "AttributeError", "RuntimeError"],
  evB "BadSigns" "BadSigns" ["part"],
  kinB "BadSigns" (kinOf "BadSigns") ["ValueError"] ["LookupError", "TypeError", "ArithmeticError", "AttributeError", "RuntimeError"],
  evB "BadVectors" "BadVectors" ["part"],
  kinB "BadVectors" (kinOf "BadVectors") ["ValueError"] ["LookupError", "TypeError", "ArithmeticError", "AttributeError", "RuntimeError"],
  evB "BadLots" "BadLots" ["part"],
  kinB "BadLots" (kinOf "BadLots") ["ValueError"] ["LookupError", "TypeError", "ArithmeticError", "AttributeError", "RuntimeError"],
  evB "BadRound" "BadRound" ["part"],
  kinB "BadRound" (kinOf "BadRound") ["ValueError"] ["LookupError", "TypeError", "ArithmeticError", "AttributeError", "RuntimeError"],
  evB "BadDesk" "BadDesk" ["part"],
  kinB "BadDesk" (kinOf "BadDesk") ["ValueError"] ["LookupError", "TypeError", "ArithmeticError", "AttributeError", "RuntimeError"],
  evB "Misfit" "Misfit" ["part"],
  kinB "Misfit" (kinOf "Misfit") ["ValueError"] ["LookupError", "TypeError", "ArithmeticError", "AttributeError", "RuntimeError"],
  evB "NoPlace" "Missing" ["value"],
  kinB "NoPlace" (kinOf "NoPlace") ["ValueError"] ["LookupError", "TypeError", "ArithmeticError", "AttributeError", "RuntimeError"],
  evB "NoTie" "Missing" ["value"],
  kinB "NoTie" (kinOf "NoTie") ["ValueError"] ["LookupError", "TypeError", "ArithmeticError", "AttributeError", "RuntimeError"],
  evB "NoName" "Missing" ["value"]]
def ex_1 : List Chk := [kinB "NoName" (kinOf "NoName") ["ValueError"] ["LookupError", "TypeError", "ArithmeticError", "AttributeError", "RuntimeError"],
  evB "Twice" "Twice" ["value"],
  kinB "Twice" (kinOf "Twice") ["ValueError"] ["LookupError", "TypeError", "ArithmeticError", "AttributeError", "RuntimeError"],
  evB "Missing" "Missing" ["value"],
  kinB "Missing" (kinOf "Missing") ["ValueError"] ["LookupError", "TypeError", "ArithmeticError", "AttributeError", "RuntimeError"],
  evB "TooMany" "TooMany" ["what", "most"],
  kinB "TooMany" (kinOf "TooMany") ["ValueError"] ["LookupError", "TypeError", "ArithmeticError", "AttributeError", "RuntimeError"],
  evB "Impossible" "Impossible" ["paper"],
  kinB "Impossible" (kinOf "Impossible") ["ValueError"] ["LookupError", "TypeError", "ArithmeticError", "AttributeError", "RuntimeError"],
  ezB "Nothing",
  kinB "Nothing" (kinOf "Nothing") ["ValueError"] ["LookupError", "TypeError", "ArithmeticError", "AttributeError", "RuntimeError"],
  evB "BadText" "BadText" ["line", "item"],
  kinB "BadText" (kinOf "BadText") ["ValueError"] ["LookupError", "TypeError", "ArithmeticError", "AttributeError", "RuntimeError"],
  evB "BadLine" "BadLine" ["line", "error"],
  kinB "BadLine" (kinOf "BadLine") ["ValueError"] ["LookupError", "TypeError", "ArithmeticError", "AttributeError", "RuntimeError"],
  kiB "BadNumber" "BadNumber" true]
def ex_all : List Chk := ex_0 ++ ex_1
def fn_0 : List He5.DefA := [⟨fun K => He.ma K (He.ga K "BadNumber") "__init__", "__init__", "BadNumber.__init__", defArgs s_BadNumber_init, defBody s_BadNumber_init, defScope s_BadNumber_init, [], []⟩,
  ⟨fun K => He.ma K (He.ga K "BadBound") "__init__", "__init__", "BadBound.__init__", defArgs s_BadBound_init, defBody s_BadBound_init, defScope s_BadBound_init, [], []⟩,
  ⟨fun K => He.ma K (He.ga K "BadPoly") "__init__", "__init__", "BadPoly.__init__", defArgs s_BadPoly_init, defBody s_BadPoly_init, defScope s_BadPoly_init, [], []⟩,
  ⟨fun K => He.ma K (He.ga K "BadWeb") "__init__", "__init__", "BadWeb.__init__", defArgs s_BadWeb_init, defBody s_BadWeb_init, defScope s_BadWeb_init, [], []⟩,
  ⟨fun K => He.ma K (He.ga K "BadSigns") "__init__", "__init__", "BadSigns.__init__", defArgs s_BadSigns_init, defBody s_BadSigns_init, defScope s_BadSigns_init, [], []⟩,
  ⟨fun K => He.ma K (He.ga K "BadVectors") "__init__", "__init__", "BadVectors.__init__", defArgs s_BadVectors_init, defBody s_BadVectors_init, defScope s_BadVectors_init, [], []⟩,
  ⟨fun K => He.ma K (He.ga K "BadLots") "__init__", "__init__", "BadLots.__init__", defArgs s_BadLots_init, defBody s_BadLots_init, defScope s_BadLots_init, [], []⟩,
  ⟨fun K => He.ma K (He.ga K "BadRound") "__init__", "__init__", "BadRound.__init__", defArgs s_BadRound_init, defBody s_BadRound_init, defScope s_BadRound_init, [], []⟩,
  ⟨fun K => He.ma K (He.ga K "BadDesk") "__init__", "__init__", "BadDesk.__init__", defArgs s_BadDesk_init, defBody s_BadDesk_init, defScope s_BadDesk_init, [], []⟩,
  ⟨fun K => He.ma K (He.ga K "Misfit") "__init__", "__init__", "Misfit.__init__", defArgs s_Misfit_init, defBody s_Misfit_init, defScope s_Misfit_init, [], []⟩,
  ⟨fun K => He.ma K (He.ga K "Missing") "__init__", "__init__", "Missing.__init__", defArgs s_Missing_init, defBody s_Missing_init, defScope s_Missing_init, [], []⟩,
  ⟨fun K => He.ma K (He.ga K "Twice") "__init__", "__init__", "Twice.__init__", defArgs s_Twice_init, defBody s_Twice_init, defScope s_Twice_init, [], []⟩,
  ⟨fun K => He.ma K (He.ga K "TooMany") "__init__", "__init__", "TooMany.__init__", defArgs s_TooMany_init, defBody s_TooMany_init, defScope s_TooMany_init, [], []⟩,
  ⟨fun K => He.ma K (He.ga K "Impossible") "__init__", "__init__", "Impossible.__init__", defArgs s_Impossible_init, defBody s_Impossible_init, defScope s_Impossible_init, [], []⟩,
  ⟨fun K => He.ma K (He.ga K "BadText") "__init__", "__init__", "BadText.__init__", defArgs s_BadText_init, defBody s_BadText_init, defScope s_BadText_init, [], []⟩,
  ⟨fun K => He.ma K (He.ga K "BadLine") "__init__", "__init__", "BadLine.__init__", defArgs s_BadLine_init, defBody s_BadLine_init, defScope s_BadLine_init, [], []⟩,
  ⟨fun K => He.ga K "is_integer", "is_integer", "is_integer", defArgs s_is_integer, defBody s_is_integer, defScope s_is_integer, [], []⟩,
  ⟨fun K => He.ga K "is_within", "is_within", "is_within", defArgs s_is_within, defBody s_is_within, defScope s_is_within, [], []⟩,
  ⟨fun K => He.ga K "is_row", "is_row", "is_row", defArgs s_is_row, defBody s_is_row, defScope s_is_row, [], []⟩,
  ⟨fun K => He.ga K "are_integers", "are_integers", "are_integers", defArgs s_are_integers, defBody s_are_integers, defScope s_are_integers, [], []⟩,
  ⟨fun K => He.ga K "is_name", "is_name", "is_name", defArgs s_is_name, defBody s_is_name, defScope s_is_name, [], []⟩,
  ⟨fun K => He.ga K "need_integer", "need_integer", "need_integer", defArgs s_need_integer, defBody s_need_integer, defScope s_need_integer, [], []⟩,
  ⟨fun K => He.ga K "need_integers", "need_integers", "need_integers", defArgs s_need_integers, defBody s_need_integers, defScope s_need_integers, [], []⟩,
  ⟨fun K => He.ga K "common_divisor", "common_divisor", "common_divisor", defArgs s_common_divisor, defBody s_common_divisor, defScope s_common_divisor, [], []⟩,
  ⟨fun K => He.ga K "whole_root", "whole_root", "whole_root", defArgs s_whole_root, defBody s_whole_root, defScope s_whole_root, [], []⟩,
  ⟨fun K => He.ga K "_law_ark", "_law_ark", "_law_ark", defArgs s__law_ark, defBody s__law_ark, defScope s__law_ark, [], []⟩,
  ⟨fun K => He.ga K "_law_haul", "_law_haul", "_law_haul", defArgs s__law_haul, defBody s__law_haul, defScope s__law_haul, [], []⟩,
  ⟨fun K => He.ga K "_law_fish", "_law_fish", "_law_fish", defArgs s__law_fish, defBody s__law_fish, defScope s__law_fish, [], []⟩,
  ⟨fun K => He.ga K "_law_any", "_law_any", "_law_any", defArgs s__law_any, defBody s__law_any, defScope s__law_any, [], []⟩,
  ⟨fun K => He.ga K "_law_kin", "_law_kin", "_law_kin", defArgs s__law_kin, defBody s__law_kin, defScope s__law_kin, [], []⟩]
def fn_1 : List He5.DefA := [⟨fun K => He.ga K "_law_stands", "_law_stands", "_law_stands", defArgs s__law_stands, defBody s__law_stands, defScope s__law_stands, [], []⟩,
  ⟨fun K => He.ga K "_law_parts_right", "_law_parts_right", "_law_parts_right", defArgs s__law_parts_right, defBody s__law_parts_right, defScope s__law_parts_right, [], []⟩,
  ⟨fun K => He.ga K "_law_values_right", "_law_values_right", "_law_values_right", defArgs s__law_values_right, defBody s__law_values_right, defScope s__law_values_right, [], []⟩,
  ⟨fun K => He.ga K "_law_integers_right", "_law_integers_right", "_law_integers_right", defArgs s__law_integers_right, defBody s__law_integers_right, defScope s__law_integers_right, [], []⟩,
  ⟨fun K => He.ga K "_law_names_right", "_law_names_right", "_law_names_right", defArgs s__law_names_right, defBody s__law_names_right, defScope s__law_names_right, [], []⟩,
  ⟨fun K => He.ga K "_law_heard", "_law_heard", "_law_heard", defArgs s__law_heard, defBody s__law_heard, defScope s__law_heard, [], []⟩,
  ⟨fun K => He.ga K "_law_roots_right", "_law_roots_right", "_law_roots_right", defArgs s__law_roots_right, defBody s__law_roots_right, defScope s__law_roots_right, [], []⟩,
  ⟨fun K => He.ga K "law", "law", "law", defArgs s_law, defBody s_law, defScope s_law, [], []⟩]
def fn_all : List He5.DefA := fn_0 ++ fn_1
structure Txt (K : PySem.W.Frag) (mg : Str → Option Value) : Prop where
  g_is_integer : mg "is_integer" = some (.ref (He.ga K "is_integer"))
  g_is_within : mg "is_within" = some (.ref (He.ga K "is_within"))
  g_is_row : mg "is_row" = some (.ref (He.ga K "is_row"))
  g_are_integers : mg "are_integers" = some (.ref (He.ga K "are_integers"))
  g_is_name : mg "is_name" = some (.ref (He.ga K "is_name"))
  g_need_integer : mg "need_integer" = some (.ref (He.ga K "need_integer"))
  g_need_integers : mg "need_integers" = some (.ref (He.ga K "need_integers"))
  g_common_divisor : mg "common_divisor" = some (.ref (He.ga K "common_divisor"))
  g_whole_root : mg "whole_root" = some (.ref (He.ga K "whole_root"))
  g__law_ark : mg "_law_ark" = some (.ref (He.ga K "_law_ark"))
  g__law_haul : mg "_law_haul" = some (.ref (He.ga K "_law_haul"))
  g__law_fish : mg "_law_fish" = some (.ref (He.ga K "_law_fish"))
  g__law_any : mg "_law_any" = some (.ref (He.ga K "_law_any"))
  g__law_kin : mg "_law_kin" = some (.ref (He.ga K "_law_kin"))
  g__law_stands : mg "_law_stands" = some (.ref (He.ga K "_law_stands"))
  g__law_parts_right : mg "_law_parts_right" = some (.ref (He.ga K "_law_parts_right"))
  g__law_values_right : mg "_law_values_right" = some (.ref (He.ga K "_law_values_right"))
  g__law_integers_right : mg "_law_integers_right" = some (.ref (He.ga K "_law_integers_right"))
  g__law_names_right : mg "_law_names_right" = some (.ref (He.ga K "_law_names_right"))
  g__law_heard : mg "_law_heard" = some (.ref (He.ga K "_law_heard"))
  g__law_roots_right : mg "_law_roots_right" = some (.ref (He.ga K "_law_roots_right"))
  g_law : mg "law" = some (.ref (He.ga K "law"))
  g_SignsError : mg "SignsError" = some (.ref (He.ga K "SignsError"))
  g_BadNumber : mg "BadNumber" = some (.ref (He.ga K "BadNumber"))
  g_BadBound : mg "BadBound" = some (.ref (He.ga K "BadBound"))
  g_BadPoly : mg "BadPoly" = some (.ref (He.ga K "BadPoly"))
  g_BadWeb : mg "BadWeb" = some (.ref (He.ga K "BadWeb"))
  g_BadSigns : mg "BadSigns" = some (.ref (He.ga K "BadSigns"))
  g_BadVectors : mg "BadVectors" = some (.ref (He.ga K "BadVectors"))
  g_BadLots : mg "BadLots" = some (.ref (He.ga K "BadLots"))
  g_BadRound : mg "BadRound" = some (.ref (He.ga K "BadRound"))
  g_BadDesk : mg "BadDesk" = some (.ref (He.ga K "BadDesk"))
  g_Misfit : mg "Misfit" = some (.ref (He.ga K "Misfit"))
  g_Missing : mg "Missing" = some (.ref (He.ga K "Missing"))
  g_NoPlace : mg "NoPlace" = some (.ref (He.ga K "NoPlace"))
  g_NoTie : mg "NoTie" = some (.ref (He.ga K "NoTie"))
  g_NoName : mg "NoName" = some (.ref (He.ga K "NoName"))
  g_Twice : mg "Twice" = some (.ref (He.ga K "Twice"))
  g_TooMany : mg "TooMany" = some (.ref (He.ga K "TooMany"))
  g_Impossible : mg "Impossible" = some (.ref (He.ga K "Impossible"))
  g_Nothing : mg "Nothing" = some (.ref (He.ga K "Nothing"))
  g_BadText : mg "BadText" = some (.ref (He.ga K "BadText"))
  g_BadLine : mg "BadLine" = some (.ref (He.ga K "BadLine"))
  k_is_integer : PySem.W.keepIn K (.ref (He.ga K "is_integer")) = true
  k_is_within : PySem.W.keepIn K (.ref (He.ga K "is_within")) = true
  k_is_row : PySem.W.keepIn K (.ref (He.ga K "is_row")) = true
  k_are_integers : PySem.W.keepIn K (.ref (He.ga K "are_integers")) = true
  k_is_name : PySem.W.keepIn K (.ref (He.ga K "is_name")) = true
  k_need_integer : PySem.W.keepIn K (.ref (He.ga K "need_integer")) = true
  k_need_integers : PySem.W.keepIn K (.ref (He.ga K "need_integers")) = true
  k_common_divisor : PySem.W.keepIn K (.ref (He.ga K "common_divisor")) = true
  k_whole_root : PySem.W.keepIn K (.ref (He.ga K "whole_root")) = true
  k__law_ark : PySem.W.keepIn K (.ref (He.ga K "_law_ark")) = true
  k__law_haul : PySem.W.keepIn K (.ref (He.ga K "_law_haul")) = true
  k__law_fish : PySem.W.keepIn K (.ref (He.ga K "_law_fish")) = true
  k__law_any : PySem.W.keepIn K (.ref (He.ga K "_law_any")) = true
  k__law_kin : PySem.W.keepIn K (.ref (He.ga K "_law_kin")) = true
  k__law_stands : PySem.W.keepIn K (.ref (He.ga K "_law_stands")) = true
  k__law_parts_right : PySem.W.keepIn K (.ref (He.ga K "_law_parts_right")) = true
  k__law_values_right : PySem.W.keepIn K (.ref (He.ga K "_law_values_right")) = true
  k__law_integers_right : PySem.W.keepIn K (.ref (He.ga K "_law_integers_right")) = true
  k__law_names_right : PySem.W.keepIn K (.ref (He.ga K "_law_names_right")) = true
  k__law_heard : PySem.W.keepIn K (.ref (He.ga K "_law_heard")) = true
  k__law_roots_right : PySem.W.keepIn K (.ref (He.ga K "_law_roots_right")) = true
  k_law : PySem.W.keepIn K (.ref (He.ga K "law")) = true
  b_isinstance : mg "isinstance" = none
  b_int : mg "int" = none
  b_bool : mg "bool" = none
  b_str : mg "str" = none
  b_list : mg "list" = none
  b_tuple : mg "tuple" = none
  b_len : mg "len" = none
  b_abs : mg "abs" = none
  b_range : mg "range" = none
  b_all : mg "all" = none
  b_enumerate : mg "enumerate" = none
  b_repr : mg "repr" = none
  b_ValueError : mg "ValueError" = none
  b_LookupError : mg "LookupError" = none
  b_TypeError : mg "TypeError" = none
  b_ArithmeticError : mg "ArithmeticError" = none
  b_AttributeError : mg "AttributeError" = none
  b_RuntimeError : mg "RuntimeError" = none
  c_LETTERS : ∃ t, mg "LETTERS" = some (.str "abcdefghijklmnopqrstuvwxyz" t)
  c_DIGITS : ∃ t, mg "DIGITS" = some (.str "0123456789" t)
  c_LONGEST_NAME : ∃ t, mg "LONGEST_NAME" = some (.int 12 t)
  i_gcd : mg "gcd" = some (.builtin "math.gcd")
  i_isqrt : mg "isqrt" = some (.builtin "math.isqrt")
  top : topB K = true
  e_BadNumber : ErrC K "BadNumber" ["part"] ["BadNumber", "SignsError"] []
  x_BadNumber : ExcC K (He.ga K "BadNumber")
  ev_BadNumber : EvC K "BadNumber" "BadNumber" ["part"]
  kin_BadNumber : KinC K "BadNumber" (kinOf "BadNumber") ["ValueError"] ["LookupError", "TypeError", "ArithmeticError", "AttributeError", "RuntimeError"]
  ev_BadBound : EvC K "BadBound" "BadBound" ["part"]
  kin_BadBound : KinC K "BadBound" (kinOf "BadBound") ["ValueError"] ["LookupError", "TypeError", "ArithmeticError", "AttributeError", "RuntimeError"]
  ev_BadPoly : EvC K "BadPoly" "BadPoly" ["part"]
  kin_BadPoly : KinC K "BadPoly" (kinOf "BadPoly") ["ValueError"] ["LookupError", "TypeError", "ArithmeticError", "AttributeError", "RuntimeError"]
  ev_BadWeb : EvC K "BadWeb" "BadWeb" ["part"]
  kin_BadWeb : KinC K "BadWeb" (kinOf "BadWeb") ["ValueError"] ["LookupError", "TypeError", "ArithmeticError", "AttributeError", "RuntimeError"]
  ev_BadSigns : EvC K "BadSigns" "BadSigns" ["part"]
  kin_BadSigns : KinC K "BadSigns" (kinOf "BadSigns") ["ValueError"] ["LookupError", "TypeError", "ArithmeticError", "AttributeError", "RuntimeError"]
  ev_BadVectors : EvC K "BadVectors" "BadVectors" ["part"]
  kin_BadVectors : KinC K "BadVectors" (kinOf "BadVectors") ["ValueError"] ["LookupError", "TypeError", "ArithmeticError", "AttributeError", "RuntimeError"]
  ev_BadLots : EvC K "BadLots" "BadLots" ["part"]
  kin_BadLots : KinC K "BadLots" (kinOf "BadLots") ["ValueError"] ["LookupError", "TypeError", "ArithmeticError", "AttributeError", "RuntimeError"]
  ev_BadRound : EvC K "BadRound" "BadRound" ["part"]
  kin_BadRound : KinC K "BadRound" (kinOf "BadRound") ["ValueError"] ["LookupError", "TypeError", "ArithmeticError", "AttributeError", "RuntimeError"]
  ev_BadDesk : EvC K "BadDesk" "BadDesk" ["part"]
  kin_BadDesk : KinC K "BadDesk" (kinOf "BadDesk") ["ValueError"] ["LookupError", "TypeError", "ArithmeticError", "AttributeError", "RuntimeError"]
  ev_Misfit : EvC K "Misfit" "Misfit" ["part"]
  kin_Misfit : KinC K "Misfit" (kinOf "Misfit") ["ValueError"] ["LookupError", "TypeError", "ArithmeticError", "AttributeError", "RuntimeError"]
  ev_NoPlace : EvC K "NoPlace" "Missing" ["value"]
  kin_NoPlace : KinC K "NoPlace" (kinOf "NoPlace") ["ValueError"] ["LookupError", "TypeError", "ArithmeticError", "AttributeError", "RuntimeError"]
  ev_NoTie : EvC K "NoTie" "Missing" ["value"]
  kin_NoTie : KinC K "NoTie" (kinOf "NoTie") ["ValueError"] ["LookupError", "TypeError", "ArithmeticError", "AttributeError", "RuntimeError"]
  ev_NoName : EvC K "NoName" "Missing" ["value"]
  kin_NoName : KinC K "NoName" (kinOf "NoName") ["ValueError"] ["LookupError", "TypeError", "ArithmeticError", "AttributeError", "RuntimeError"]
  ev_Twice : EvC K "Twice" "Twice" ["value"]
  kin_Twice : KinC K "Twice" (kinOf "Twice") ["ValueError"] ["LookupError", "TypeError", "ArithmeticError", "AttributeError", "RuntimeError"]
  ev_Missing : EvC K "Missing" "Missing" ["value"]
  kin_Missing : KinC K "Missing" (kinOf "Missing") ["ValueError"] ["LookupError", "TypeError", "ArithmeticError", "AttributeError", "RuntimeError"]
  ev_TooMany : EvC K "TooMany" "TooMany" ["what", "most"]
  kin_TooMany : KinC K "TooMany" (kinOf "TooMany") ["ValueError"] ["LookupError", "TypeError", "ArithmeticError", "AttributeError", "RuntimeError"]
  ev_Impossible : EvC K "Impossible" "Impossible" ["paper"]
  kin_Impossible : KinC K "Impossible" (kinOf "Impossible") ["ValueError"] ["LookupError", "TypeError", "ArithmeticError", "AttributeError", "RuntimeError"]
  ez_Nothing : EzC K "Nothing"
  kin_Nothing : KinC K "Nothing" (kinOf "Nothing") ["ValueError"] ["LookupError", "TypeError", "ArithmeticError", "AttributeError", "RuntimeError"]
  ev_BadText : EvC K "BadText" "BadText" ["line", "item"]
  kin_BadText : KinC K "BadText" (kinOf "BadText") ["ValueError"] ["LookupError", "TypeError", "ArithmeticError", "AttributeError", "RuntimeError"]
  ev_BadLine : EvC K "BadLine" "BadLine" ["line", "error"]
  kin_BadLine : KinC K "BadLine" (kinOf "BadLine") ["ValueError"] ["LookupError", "TypeError", "ArithmeticError", "AttributeError", "RuntimeError"]
  ki_BadNumber_BadNumber : PySem.W.kitOne K (.ref (He.ga K "BadNumber")) (.ref (He.ga K "BadNumber")) = some true
  d_BadNumber_init : ∃ fd, FunD K "__init__" "BadNumber.__init__" (defArgs s_BadNumber_init) (defBody s_BadNumber_init) (defScope s_BadNumber_init) [] [] (He.ma K (He.ga K "BadNumber") "__init__") fd
  d_BadBound_init : ∃ fd, FunD K "__init__" "BadBound.__init__" (defArgs s_BadBound_init) (defBody s_BadBound_init) (defScope s_BadBound_init) [] [] (He.ma K (He.ga K "BadBound") "__init__") fd
  d_BadPoly_init : ∃ fd, FunD K "__init__" "BadPoly.__init__" (defArgs s_BadPoly_init) (defBody s_BadPoly_init) (defScope s_BadPoly_init) [] [] (He.ma K (He.ga K "BadPoly") "__init__") fd
  d_BadWeb_init : ∃ fd, FunD K "__init__" "BadWeb.__init__" (defArgs s_BadWeb_init) (defBody s_BadWeb_init) (defScope s_BadWeb_init) [] [] (He.ma K (He.ga K "BadWeb") "__init__") fd
  d_BadSigns_init : ∃ fd, FunD K "__init__" "BadSigns.__init__" (defArgs s_BadSigns_init) (defBody s_BadSigns_init) (defScope s_BadSigns_init) [] [] (He.ma K (He.ga K "BadSigns") "__init__") fd
  d_BadVectors_init : ∃ fd, FunD K "__init__" "BadVectors.__init__" (defArgs s_BadVectors_init) (defBody s_BadVectors_init) (defScope s_BadVectors_init) [] [] (He.ma K (He.ga K "BadVectors") "__init__") fd
  d_BadLots_init : ∃ fd, FunD K "__init__" "BadLots.__init__" (defArgs s_BadLots_init) (defBody s_BadLots_init) (defScope s_BadLots_init) [] [] (He.ma K (He.ga K "BadLots") "__init__") fd
  d_BadRound_init : ∃ fd, FunD K "__init__" "BadRound.__init__" (defArgs s_BadRound_init) (defBody s_BadRound_init) (defScope s_BadRound_init) [] [] (He.ma K (He.ga K "BadRound") "__init__") fd
  d_BadDesk_init : ∃ fd, FunD K "__init__" "BadDesk.__init__" (defArgs s_BadDesk_init) (defBody s_BadDesk_init) (defScope s_BadDesk_init) [] [] (He.ma K (He.ga K "BadDesk") "__init__") fd
  d_Misfit_init : ∃ fd, FunD K "__init__" "Misfit.__init__" (defArgs s_Misfit_init) (defBody s_Misfit_init) (defScope s_Misfit_init) [] [] (He.ma K (He.ga K "Misfit") "__init__") fd
  d_Missing_init : ∃ fd, FunD K "__init__" "Missing.__init__" (defArgs s_Missing_init) (defBody s_Missing_init) (defScope s_Missing_init) [] [] (He.ma K (He.ga K "Missing") "__init__") fd
  d_Twice_init : ∃ fd, FunD K "__init__" "Twice.__init__" (defArgs s_Twice_init) (defBody s_Twice_init) (defScope s_Twice_init) [] [] (He.ma K (He.ga K "Twice") "__init__") fd
  d_TooMany_init : ∃ fd, FunD K "__init__" "TooMany.__init__" (defArgs s_TooMany_init) (defBody s_TooMany_init) (defScope s_TooMany_init) [] [] (He.ma K (He.ga K "TooMany") "__init__") fd
  d_Impossible_init : ∃ fd, FunD K "__init__" "Impossible.__init__" (defArgs s_Impossible_init) (defBody s_Impossible_init) (defScope s_Impossible_init) [] [] (He.ma K (He.ga K "Impossible") "__init__") fd
  d_BadText_init : ∃ fd, FunD K "__init__" "BadText.__init__" (defArgs s_BadText_init) (defBody s_BadText_init) (defScope s_BadText_init) [] [] (He.ma K (He.ga K "BadText") "__init__") fd
  d_BadLine_init : ∃ fd, FunD K "__init__" "BadLine.__init__" (defArgs s_BadLine_init) (defBody s_BadLine_init) (defScope s_BadLine_init) [] [] (He.ma K (He.ga K "BadLine") "__init__") fd
  d_is_integer : ∃ fd, FunD K "is_integer" "is_integer" (defArgs s_is_integer) (defBody s_is_integer) (defScope s_is_integer) [] [] (He.ga K "is_integer") fd
  d_is_within : ∃ fd, FunD K "is_within" "is_within" (defArgs s_is_within) (defBody s_is_within) (defScope s_is_within) [] [] (He.ga K "is_within") fd
  d_is_row : ∃ fd, FunD K "is_row" "is_row" (defArgs s_is_row) (defBody s_is_row) (defScope s_is_row) [] [] (He.ga K "is_row") fd
  d_are_integers : ∃ fd, FunD K "are_integers" "are_integers" (defArgs s_are_integers) (defBody s_are_integers) (defScope s_are_integers) [] [] (He.ga K "are_integers") fd
  d_is_name : ∃ fd, FunD K "is_name" "is_name" (defArgs s_is_name) (defBody s_is_name) (defScope s_is_name) [] [] (He.ga K "is_name") fd
  d_need_integer : ∃ fd, FunD K "need_integer" "need_integer" (defArgs s_need_integer) (defBody s_need_integer) (defScope s_need_integer) [] [] (He.ga K "need_integer") fd
  d_need_integers : ∃ fd, FunD K "need_integers" "need_integers" (defArgs s_need_integers) (defBody s_need_integers) (defScope s_need_integers) [] [] (He.ga K "need_integers") fd
  d_common_divisor : ∃ fd, FunD K "common_divisor" "common_divisor" (defArgs s_common_divisor) (defBody s_common_divisor) (defScope s_common_divisor) [] [] (He.ga K "common_divisor") fd
  d_whole_root : ∃ fd, FunD K "whole_root" "whole_root" (defArgs s_whole_root) (defBody s_whole_root) (defScope s_whole_root) [] [] (He.ga K "whole_root") fd
  d__law_ark : ∃ fd, FunD K "_law_ark" "_law_ark" (defArgs s__law_ark) (defBody s__law_ark) (defScope s__law_ark) [] [] (He.ga K "_law_ark") fd
  d__law_haul : ∃ fd, FunD K "_law_haul" "_law_haul" (defArgs s__law_haul) (defBody s__law_haul) (defScope s__law_haul) [] [] (He.ga K "_law_haul") fd
  d__law_fish : ∃ fd, FunD K "_law_fish" "_law_fish" (defArgs s__law_fish) (defBody s__law_fish) (defScope s__law_fish) [] [] (He.ga K "_law_fish") fd
  d__law_any : ∃ fd, FunD K "_law_any" "_law_any" (defArgs s__law_any) (defBody s__law_any) (defScope s__law_any) [] [] (He.ga K "_law_any") fd
  d__law_kin : ∃ fd, FunD K "_law_kin" "_law_kin" (defArgs s__law_kin) (defBody s__law_kin) (defScope s__law_kin) [] [] (He.ga K "_law_kin") fd
  d__law_stands : ∃ fd, FunD K "_law_stands" "_law_stands" (defArgs s__law_stands) (defBody s__law_stands) (defScope s__law_stands) [] [] (He.ga K "_law_stands") fd
  d__law_parts_right : ∃ fd, FunD K "_law_parts_right" "_law_parts_right" (defArgs s__law_parts_right) (defBody s__law_parts_right) (defScope s__law_parts_right) [] [] (He.ga K "_law_parts_right") fd
  d__law_values_right : ∃ fd, FunD K "_law_values_right" "_law_values_right" (defArgs s__law_values_right) (defBody s__law_values_right) (defScope s__law_values_right) [] [] (He.ga K "_law_values_right") fd
  d__law_integers_right : ∃ fd, FunD K "_law_integers_right" "_law_integers_right" (defArgs s__law_integers_right) (defBody s__law_integers_right) (defScope s__law_integers_right) [] [] (He.ga K "_law_integers_right") fd
  d__law_names_right : ∃ fd, FunD K "_law_names_right" "_law_names_right" (defArgs s__law_names_right) (defBody s__law_names_right) (defScope s__law_names_right) [] [] (He.ga K "_law_names_right") fd
  d__law_heard : ∃ fd, FunD K "_law_heard" "_law_heard" (defArgs s__law_heard) (defBody s__law_heard) (defScope s__law_heard) [] [] (He.ga K "_law_heard") fd
  d__law_roots_right : ∃ fd, FunD K "_law_roots_right" "_law_roots_right" (defArgs s__law_roots_right) (defBody s__law_roots_right) (defScope s__law_roots_right) [] [] (He.ga K "_law_roots_right") fd
  d_law : ∃ fd, FunD K "law" "law" (defArgs s_law) (defBody s_law) (defScope s_law) [] [] (He.ga K "law") fd
theorem txt_of {K : PySem.W.Frag} {mg : Str → Option Value} {h : Heap} (X : K.In h) (G : h.Ns mainGlobals mg) (c : SaysM fa_all ex_all fn_all K) : Txt K mg where
  g_is_integer := He.glo_ok X G (c.fact 0)
  g_is_within := He.glo_ok X G (c.fact 1)
  g_is_row := He.glo_ok X G (c.fact 2)
  g_are_integers := He.glo_ok X G (c.fact 3)
  g_is_name := He.glo_ok X G (c.fact 4)
  g_need_integer := He.glo_ok X G (c.fact 5)
  g_need_integers := He.glo_ok X G (c.fact 6)
  g_common_divisor := He.glo_ok X G (c.fact 7)
  g_whole_root := He.glo_ok X G (c.fact 8)
  g__law_ark := He.glo_ok X G (c.fact 9)
  g__law_haul := He.glo_ok X G (c.fact 10)
  g__law_fish := He.glo_ok X G (c.fact 11)
  g__law_any := He.glo_ok X G (c.fact 12)
  g__law_kin := He.glo_ok X G (c.fact 13)
  g__law_stands := He.glo_ok X G (c.fact 14)
  g__law_parts_right := He.glo_ok X G (c.fact 15)
  g__law_values_right := He.glo_ok X G (c.fact 16)
  g__law_integers_right := He.glo_ok X G (c.fact 17)
  g__law_names_right := He.glo_ok X G (c.fact 18)
  g__law_heard := He.glo_ok X G (c.fact 19)
  g__law_roots_right := He.glo_ok X G (c.fact 20)
  g_law := He.glo_ok X G (c.fact 21)
  g_SignsError := He.glo_ok X G (c.fact 22)
  g_BadNumber := He.glo_ok X G (c.fact 23)
  g_BadBound := He.glo_ok X G (c.fact 24)
  g_BadPoly := He.glo_ok X G (c.fact 25)
  g_BadWeb := He.glo_ok X G (c.fact 26)
  g_BadSigns := He.glo_ok X G (c.fact 27)
  g_BadVectors := He.glo_ok X G (c.fact 28)
  g_BadLots := He.glo_ok X G (c.fact 29)
  g_BadRound := He.glo_ok X G (c.fact 30)
  g_BadDesk := He.glo_ok X G (c.fact 31)
  g_Misfit := He.glo_ok X G (c.fact 32)
  g_Missing := He.glo_ok X G (c.fact 33)
  g_NoPlace := He.glo_ok X G (c.fact 34)
  g_NoTie := He.glo_ok X G (c.fact 35)
  g_NoName := He.glo_ok X G (c.fact 36)
  g_Twice := He.glo_ok X G (c.fact 37)
  g_TooMany := He.glo_ok X G (c.fact 38)
  g_Impossible := He.glo_ok X G (c.fact 39)
  g_Nothing := He.glo_ok X G (c.fact 40)
  g_BadText := He.glo_ok X G (c.fact 41)
  g_BadLine := He.glo_ok X G (c.fact 42)
  k_is_integer := He.keep_ok (c.fact 43)
  k_is_within := He.keep_ok (c.fact 44)
  k_is_row := He.keep_ok (c.fact 45)
  k_are_integers := He.keep_ok (c.fact 46)
  k_is_name := He.keep_ok (c.fact 47)
  k_need_integer := He.keep_ok (c.fact 48)
  k_need_integers := He.keep_ok (c.fact 49)
  k_common_divisor := He.keep_ok (c.fact 50)
  k_whole_root := He.keep_ok (c.fact 51)
  k__law_ark := He.keep_ok (c.fact 52)
  k__law_haul := He.keep_ok (c.fact 53)
  k__law_fish := He.keep_ok (c.fact 54)
  k__law_any := He.keep_ok (c.fact 55)
  k__law_kin := He.keep_ok (c.fact 56)
  k__law_stands := He.keep_ok (c.fact 57)
  k__law_parts_right := He.keep_ok (c.fact 58)
  k__law_values_right := He.keep_ok (c.fact 59)
  k__law_integers_right := He.keep_ok (c.fact 60)
  k__law_names_right := He.keep_ok (c.fact 61)
  k__law_heard := He.keep_ok (c.fact 62)
  k__law_roots_right := He.keep_ok (c.fact 63)
  k_law := He.keep_ok (c.fact 64)
  b_isinstance := He.free_ok X G (c.fact 65)
  b_int := He.free_ok X G (c.fact 66)
  b_bool := He.free_ok X G (c.fact 67)
  b_str := He.free_ok X G (c.fact 68)
  b_list := He.free_ok X G (c.fact 69)
  b_tuple := He.free_ok X G (c.fact 70)
  b_len := He.free_ok X G (c.fact 71)
  b_abs := He.free_ok X G (c.fact 72)
  b_range := He.free_ok X G (c.fact 73)
  b_all := He.free_ok X G (c.fact 74)
  b_enumerate := He.free_ok X G (c.fact 75)
  b_repr := He.free_ok X G (c.fact 76)
  b_ValueError := He.free_ok X G (c.fact 77)
  b_LookupError := He.free_ok X G (c.fact 78)
  b_TypeError := He.free_ok X G (c.fact 79)
  b_ArithmeticError := He.free_ok X G (c.fact 80)
  b_AttributeError := He.free_ok X G (c.fact 81)
  b_RuntimeError := He.free_ok X G (c.fact 82)
  c_LETTERS := He.str_ok X G (c.fact 83)
  c_DIGITS := He.str_ok X G (c.fact 84)
  c_LONGEST_NAME := He.int_ok X G (c.fact 85)
  i_gcd := bnB_ok X G (c.chk 0)
  i_isqrt := bnB_ok X G (c.chk 1)
  top := c.chk 2
  e_BadNumber := errB_ok (c.chk 3)
  x_BadNumber := excB_ok (c.chk 2) (errB_ok (c.chk 3)).xf (c.chk 4)
  ev_BadNumber := evB_ok (c.chk 2) (c.chk 5)
  kin_BadNumber := kinB_ok (c.chk 6)
  ev_BadBound := evB_ok (c.chk 2) (c.chk 7)
  kin_BadBound := kinB_ok (c.chk 8)
  ev_BadPoly := evB_ok (c.chk 2) (c.chk 9)
  kin_BadPoly := kinB_ok (c.chk 10)
  ev_BadWeb := evB_ok (c.chk 2) (c.chk 11)
  kin_BadWeb := kinB_ok (c.chk 12)
  ev_BadSigns := evB_ok (c.chk 2) (c.chk 13)
  kin_BadSigns := kinB_ok (c.chk 14)
  ev_BadVectors := evB_ok (c.chk 2) (c.chk 15)
  kin_BadVectors := kinB_ok (c.chk 16)
  ev_BadLots := evB_ok (c.chk 2) (c.chk 17)
  kin_BadLots := kinB_ok (c.chk 18)
  ev_BadRound := evB_ok (c.chk 2) (c.chk 19)
  kin_BadRound := kinB_ok (c.chk 20)
  ev_BadDesk := evB_ok (c.chk 2) (c.chk 21)
  kin_BadDesk := kinB_ok (c.chk 22)
  ev_Misfit := evB_ok (c.chk 2) (c.chk 23)
  kin_Misfit := kinB_ok (c.chk 24)
  ev_NoPlace := evB_ok (c.chk 2) (c.chk 25)
  kin_NoPlace := kinB_ok (c.chk 26)
  ev_NoTie := evB_ok (c.chk 2) (c.chk 27)
  kin_NoTie := kinB_ok (c.chk 28)
  ev_NoName := evB_ok (c.chk 2) (c.chk 29)
  kin_NoName := kinB_ok (c.chk 30)
  ev_Twice := evB_ok (c.chk 2) (c.chk 31)
  kin_Twice := kinB_ok (c.chk 32)
  ev_Missing := evB_ok (c.chk 2) (c.chk 33)
  kin_Missing := kinB_ok (c.chk 34)
  ev_TooMany := evB_ok (c.chk 2) (c.chk 35)
  kin_TooMany := kinB_ok (c.chk 36)
  ev_Impossible := evB_ok (c.chk 2) (c.chk 37)
  kin_Impossible := kinB_ok (c.chk 38)
  ez_Nothing := ezB_ok (c.chk 2) (c.chk 39)
  kin_Nothing := kinB_ok (c.chk 40)
  ev_BadText := evB_ok (c.chk 2) (c.chk 41)
  kin_BadText := kinB_ok (c.chk 42)
  ev_BadLine := evB_ok (c.chk 2) (c.chk 43)
  kin_BadLine := kinB_ok (c.chk 44)
  ki_BadNumber_BadNumber := kiB_ok (c.chk 45)
  d_BadNumber_init := c.def_ 0
  d_BadBound_init := c.def_ 1
  d_BadPoly_init := c.def_ 2
  d_BadWeb_init := c.def_ 3
  d_BadSigns_init := c.def_ 4
  d_BadVectors_init := c.def_ 5
  d_BadLots_init := c.def_ 6
  d_BadRound_init := c.def_ 7
  d_BadDesk_init := c.def_ 8
  d_Misfit_init := c.def_ 9
  d_Missing_init := c.def_ 10
  d_Twice_init := c.def_ 11
  d_TooMany_init := c.def_ 12
  d_Impossible_init := c.def_ 13
  d_BadText_init := c.def_ 14
  d_BadLine_init := c.def_ 15
  d_is_integer := c.def_ 16
  d_is_within := c.def_ 17
  d_is_row := c.def_ 18
  d_are_integers := c.def_ 19
  d_is_name := c.def_ 20
  d_need_integer := c.def_ 21
  d_need_integers := c.def_ 22
  d_common_divisor := c.def_ 23
  d_whole_root := c.def_ 24
  d__law_ark := c.def_ 25
  d__law_haul := c.def_ 26
  d__law_fish := c.def_ 27
  d__law_any := c.def_ 28
  d__law_kin := c.def_ 29
  d__law_stands := c.def_ 30
  d__law_parts_right := c.def_ 31
  d__law_values_right := c.def_ 32
  d__law_integers_right := c.def_ 33
  d__law_names_right := c.def_ 34
  d__law_heard := c.def_ 35
  d__law_roots_right := c.def_ 36
  d_law := c.def_ 37
abbrev lamT (K : PySem.W.Frag) : List (Addr × Str) := [((He.cT K ("_law_roots_right", none)).2, ((("_law_roots_right" : Str) ++ ".<locals>.") ++ "<lambda>"))]
theorem lam_mem__law_roots_right (K : PySem.W.Frag) : ((He.cT K ("_law_roots_right", none)).2, ((("_law_roots_right" : Str) ++ ".<locals>.") ++ "<lambda>")) ∈ lamT K := List.mem_cons_self
theorem lam_uq__law_roots_right {K : PySem.W.Frag} {mg : Str → Option Value} (T : Txt K mg) : ∀ p ∈ lamT K, p.1 = (He.cT K ("_law_roots_right", none)).2 → p.2 = ((("_law_roots_right" : Str) ++ ".<locals>.") ++ "<lambda>") := by
  intro p hp e
  simp only [lamT, List.mem_cons, List.mem_nil_iff, or_false] at hp
  rcases hp with rfl
  · rfl
end K00
set_option maxHeartbeats 0
namespace K00
open PySem PySem.W PySem.Spec PyProof.Rows L2 GS LamX
abbrev R : PySem.W.OpenRow := PySem.W.OpenLaw.row PySem.Challenge.rw_goodsigns_k00_errors_and_checks
abbrev tfs : List He.Defn := [("_law_roots_right", none)]
abbrev hk : PySem.W.Hook := hookL 5 fa_all ex_all fn_all tfs
def ob (s : PySem.W.SharedT) : He.AlD × Bool := obsLG 5 fa_all ex_all fn_all tfs (HandSHeadRun.getT s)
theorem ob_eq (s : PySem.W.SharedT) : ob s = hk.obs s.abs := obsLG_eq (HandSHeadRun.getT_eq s)
def loose : List PySem.Str := (["SignsError", "BadNumber", "BadBound", "BadPoly", "BadWeb", "BadSigns", "BadVectors", "BadLots", "BadRound", "BadDesk"] : List PySem.Str) ++ (["Misfit", "Missing", "NoPlace", "NoTie", "NoName", "Twice", "TooMany", "Impossible", "Nothing", "BadText"] : List PySem.Str) ++ (["BadLine", "LETTERS", "DIGITS", "LONGEST_NAME", "is_integer", "is_within", "is_row", "are_integers", "is_name", "need_integer"] : List PySem.Str) ++ (["need_integers", "common_divisor", "whole_root", "_law_ark", "_law_haul", "_law_fish", "_law_any", "_law_kin", "_law_stands", "_law_parts_right"] : List PySem.Str) ++ (["_law_values_right", "_law_integers_right", "_law_names_right", "_law_heard", "_law_roots_right"] : List PySem.Str)
theorem run (w : World) : HandSHeadRun.RunEqI R (PySem.W.view R.prog [0, 49]) hk ob 12000 loose w := by
  unfold HandSHeadRun.RunEqI
  kernel_rfl
end K00
namespace K00
open PySem PySem.Spec PyProof.Rows L2 GS TL LamX
local macro_rules | `(tactic| walk_at "rd") => `(tactic| (repeat (first
  | with_reducible refine r_next ?_
  | with_reducible refine r_seq ?_
  | with_reducible refine r_ret ?_
  | with_reducible refine r_ifS ?_
  | with_reducible refine r_asg ?_
  | with_reducible refine r_drop ?_
  | with_reducible refine r_op ?_
  | with_reducible refine r_un ?_
  | with_reducible refine r_cbInt ?_
  | with_reducible refine r_cbAbs ?_
  | with_reducible refine r_cbLen ?_
  | with_reducible refine r_cbList ?_
  | with_reducible refine r_cbTup ?_
  | with_reducible refine r_iEnT ?_
  | with_reducible refine r_iEnL ?_
  | with_reducible refine r_zipA ?_
  | with_reducible refine r_zipX ?_
  | with_reducible refine r_augS ?_
  | with_reducible refine r_cb ?_
  | with_reducible refine r_call ?_
  | with_reducible refine r_make ?_
  | with_reducible refine r_callN0 ?_
  | with_reducible refine r_makeK0 ?_
  | with_reducible refine r_makeS ?_
  | with_reducible refine r_callS ?_
  | with_reducible refine r_cons ?_
  | with_reducible refine r_nil ?_
  | with_reducible refine r_test ?_
  | with_reducible refine r_B ?_
  | with_reducible refine r_and ?_
  | with_reducible refine r_or ?_
  | with_reducible refine r_not ?_
  | with_reducible refine r_andV ?_
  | with_reducible refine r_orV ?_
  | with_reducible refine r_notV ?_
  | with_reducible refine r_if ?_
  | with_reducible refine r_tup ?_
  | with_reducible refine r_lst ?_
  | with_reducible refine r_c ?_
  | with_reducible refine r_lc ?_
  | with_reducible refine r_chain ?_
  | with_reducible refine r_iT ?_
  | with_reducible refine r_iL ?_
  | with_reducible refine r_iR1 ?_
  | with_reducible refine r_iR2 ?_
  | with_reducible refine r_iR3 ?_
  | with_reducible refine r_asgG ?_
  | with_reducible refine r_gSub ?_
  | with_reducible refine r_for ?_
  | with_reducible refine r_smeth ?_
  | with_reducible refine r_par ?_
  | with_reducible refine r_parK ?_
  | with_reducible refine r_gCons ?_
  | with_reducible refine r_gNil ?_
  | with_reducible refine r_gName ?_
  | with_reducible refine r_intI ?_
  | with_reducible refine r_intB ?_
  | with_reducible refine r_absI ?_
  | with_reducible refine r_k ?_
  | with_reducible refine r_kV ?_
  | ((with_reducible show tVar _ _ _ _); refine r_var3 ?_ (by rfl))
  | with_reducible refine r_I0 ?_
  | with_reducible refine r_U ?_
  | with_reducible refine r_eqI ?_
  | with_reducible refine r_neI ?_
  | dsimp only)))
local macro_rules | `(tactic| walk_at "rx") => `(tactic| (repeat (first
  | with_reducible refine r_next ?_
  | with_reducible refine r_ret ?_
  | with_reducible refine r_ifS ?_
  | with_reducible refine r_asg ?_
  | with_reducible refine r_drop ?_
  | with_reducible refine r_op ?_
  | with_reducible refine r_un ?_
  | with_reducible refine r_cbInt ?_
  | with_reducible refine r_cbAbs ?_
  | with_reducible refine r_cbLen ?_
  | with_reducible refine r_cbList ?_
  | with_reducible refine r_cbTup ?_
  | with_reducible refine r_iEnT ?_
  | with_reducible refine r_iEnL ?_
  | with_reducible refine r_zipA ?_
  | with_reducible refine r_zipX ?_
  | with_reducible refine r_augS ?_
  | with_reducible refine r_cb ?_
  | with_reducible refine r_call ?_
  | with_reducible refine r_make ?_
  | with_reducible refine r_callN0 ?_
  | with_reducible refine r_makeK0 ?_
  | with_reducible refine r_makeS ?_
  | with_reducible refine r_callS ?_
  | with_reducible refine r_cons ?_
  | with_reducible refine r_nil ?_
  | with_reducible refine r_test ?_
  | with_reducible refine r_B ?_
  | with_reducible refine r_and ?_
  | with_reducible refine r_or ?_
  | with_reducible refine r_not ?_
  | with_reducible refine r_andV ?_
  | with_reducible refine r_orV ?_
  | with_reducible refine r_notV ?_
  | with_reducible refine r_if ?_
  | with_reducible refine r_tup ?_
  | with_reducible refine r_lst ?_
  | with_reducible refine r_c ?_
  | with_reducible refine r_lc ?_
  | with_reducible refine r_chain ?_
  | with_reducible refine r_iT ?_
  | with_reducible refine r_iL ?_
  | with_reducible refine r_iR1 ?_
  | with_reducible refine r_iR2 ?_
  | with_reducible refine r_iR3 ?_
  | with_reducible refine r_asgG ?_
  | with_reducible refine r_gSub ?_
  | with_reducible refine r_for ?_
  | with_reducible refine r_smeth ?_
  | with_reducible refine r_par ?_
  | with_reducible refine r_parK ?_
  | with_reducible refine r_gCons ?_
  | with_reducible refine r_gNil ?_
  | with_reducible refine r_gName ?_
  | with_reducible refine r_intI ?_
  | with_reducible refine r_intB ?_
  | with_reducible refine r_absI ?_
  | with_reducible refine r_k ?_
  | with_reducible refine r_kV ?_
  | ((with_reducible show tVar _ _ _ _); refine r_var3 ?_ (by rfl))
  | with_reducible refine r_I0 ?_
  | with_reducible refine r_U ?_
  | with_reducible refine r_eqI ?_
  | with_reducible refine r_neI ?_
  | dsimp only)))
/-! ### values -/
/-- an instance of a class of the program's -/
abbrev owns : List Str := []
def Own (K : PySem.W.Frag) (H : Hp) (v : V) : Prop := ∃ a C dx fs, v = .ref a ∧ C ∈ owns ∧ H a = some (.ins (He.ga K C) dx fs)
/-- a value whose kind is known -/
def Kn (K : PySem.W.Frag) (H : Hp) (v : V) : Prop := (∃ T ∈ tys, TyOf K H v (.type T)) ∨ Own K H v
theorem TyOf.ex' {K : PySem.W.Frag} {H H' : Hp} {v : V} {T : String} (b : TyOf K H v (.type T)) (e : ∀ a, v = .ref a → ∀ o, H a = some o → H' a = some o) : TyOf K H' v (.type T) := by
  cases b with
  | non => exact .non
  | bl b => exact .bl b
  | int i => exact .int i
  | str i => exact .str i
  | flt i => exact .flt i
  | lst q => exact .lst (e _ rfl _ q)
  | frz q => exact .frz (e _ rfl _ q)
  | tup q => exact .tup (e _ rfl _ q)
  | dK q => exact .dK (e _ rfl _ q)
  | dT q => exact .dT (e _ rfl _ q)
theorem TyOf.there {K : PySem.W.Frag} {H : Hp} {a : Addr} {T : String} (b : TyOf K H (.ref a) (.type T)) : ∃ o, H a = some o ∧ ∀ C dx fs, o ≠ .ins C dx fs := by
  cases b with
  | lst q => exact ⟨_, q, fun _ _ _ z => by cases z⟩
  | frz q => exact ⟨_, q, fun _ _ _ z => by cases z⟩
  | tup q => exact ⟨_, q, fun _ _ _ z => by cases z⟩
  | dK q => exact ⟨_, q, fun _ _ _ z => by cases z⟩
  | dT q => exact ⟨_, q, fun _ _ _ z => by cases z⟩
theorem Kn.ex {K : PySem.W.Frag} {H H' : Hp} {v : V} (h : Kn K H v) (e : Ex H H') : Kn K H' v := by
  rcases h with ⟨T, hT, h⟩ | ⟨a, C, dx, fs, h, hC, b⟩
  · exact .inl ⟨T, hT, TyOf.ex' h fun a _ o q => e a o q⟩
  · exact .inr ⟨a, C, dx, fs, h, hC, e _ _ b⟩
theorem kn_int {K : PySem.W.Frag} {H : Hp} (i : Int) : Kn K H (.int i) := .inl ⟨"int", by decide, .int i⟩
def isI : V → Bool
  | .int _ => true
  | _ => false
/-- an own class, for isinstance -/
theorem own_facts {K : PySem.W.Frag} {mg : Str → Option Value} (T : Txt K mg) {C : Str} (h : C ∈ owns) : Cls K (He.ga K C) ∧ ClsC K C tys := by
  exact absurd h List.not_mem_nil
theorem ty_own {K : PySem.W.Frag} {mg : Str → Option Value} {H : Hp} {a dx : Addr} {C : Str} {fs : List (Str × V)} (T : Txt K mg) (h : C ∈ owns) (e : H a = some (.ins (He.ga K C) dx fs)) : TyX K H (.ref a) (.ref (He.ga K C)) := by
  obtain ⟨h1, h2⟩ := He.ba T.top
  obtain ⟨c1, c2⟩ := own_facts T h
  exact .base (.ins e c1 c2.ha (He.eqO_ok h1) (of_decide_eq_true h2) c2.hm)
def kitR (T1 T0 : String) : Bool := decide (T1 = T0) || (decide (T1 = "bool") && decide (T0 = "int"))
theorem kit_all : ∀ T1 ∈ tys, ∀ T0 ∈ tys, kitB T1 T0 = some (kitR T1 T0) := by decide +kernel
/-- isinstance(v, T0), T0 built-in -/
theorem kn_kit {K : PySem.W.Frag} {mg : Str → Option Value} {H : Hp} {v : V} (T : Txt K mg) (h : Kn K H v) {T0 : String} (h0 : T0 ∈ tys) : ∃ t b, TyX K H v t ∧ PySem.W.kitOne K t (.type T0) = some b ∧ ((∃ T1 ∈ tys, t = .type T1 ∧ kitR T1 T0 = b) ∨ (b = false ∧ (∃ C, t = .ref (He.ga K C)) ∧ ∃ a, v = .ref a)) := by
  rcases h with ⟨T1, hT, h⟩ | ⟨a, C, dx, fs, rfl, hC, b⟩
  · exact ⟨_, _, .base h, kit_ty (kit_all T1 hT T0 h0), .inl ⟨T1, hT, rfl, rfl⟩⟩
  · exact ⟨_, false, ty_own T hC b, ((own_facts T hC).2.ty T0 h0).2.1, .inr ⟨rfl, ⟨C, rfl⟩, a, rfl⟩⟩
/-- the type of an int is int; what has the type int is one -/
theorem ty_int {K : PySem.W.Frag} {H : Hp} {v : V} {T : String} (h : TyX K H v (.type T)) : (T = "int") ↔ isI v = true := by
  cases h with
  | base b => cases b <;> simp [isI]
  | _ => simp [isI]
def isBl : V → Bool
  | .bl _ => true
  | _ => false
theorem ty_bool {K : PySem.W.Frag} {H : Hp} {v : V} {T : String} (h : TyX K H v (.type T)) : (T = "bool") ↔ isBl v = true := by
  cases h with
  | base b => cases b <;> simp [isBl]
  | _ => simp [isBl]
/-! ### errors -/
def spE1 (K : PySem.W.Frag) (f : Str) : Sp := sp2 fun a v H Q _ => ∃ e C, a = .ref e ∧ H e = some (exo e C none) ∧ OexC K C ∧ PySem.W.findIn K (.ref C) f = some none ∧ ∀ dx, H dx = none → dx ≠ e → Q .non (upd (upd H dx (exd dx [(f, v)])) e (exo e C (some dx)))
def spE2 (K : PySem.W.Frag) (f g : Str) : Sp := sp3 fun a v w H Q _ => ∃ e C, a = .ref e ∧ H e = some (exo e C none) ∧ OexC K C ∧ PySem.W.findIn K (.ref C) f = some none ∧ PySem.W.findIn K (.ref C) g = some none ∧ ∀ dx, H dx = none → dx ≠ e → Q .non (upd (upd (upd H dx (exd dx [(f, v)])) e (exo e C (some dx))) dx (exd dx [(g, w), (f, v)]))
/-- an error of the class x with its field -/
def Raised (K : PySem.W.Frag) (x f : Str) (v : V) (H : Hp) (E : XK) : Prop := ∀ d H', Ex H H' → H' d = some (.xd [(f, v)]) → E (.ref (He.ga K x)) (some d) H'
theorem Raised.ex {K : PySem.W.Frag} {x f : Str} {v : V} {H H' : Hp} {E : XK} (h : Raised K x f v H E) (e : Ex H H') : Raised K x f v H' E := fun d H'' e' hd => h d H'' (e.trans e') hd
theorem r_err {K : PySem.W.Frag} {x f : Str} {v : V} {H : Hp} {E : XK} {vs : List V} (o : OexC K (He.ga K x)) (no_ : PySem.W.findIn K (.ref (He.ga K x)) f = some none) (hv : vs = [v]) (q : Raised K x f v H E) : vs.length ≤ 1000 ∧ ∀ a, H a = none → spE1 K f (.ref a :: (vs ++ [])) (upd H a (exo a (He.ga K x) none))
    (fun v H2 => v = .non ∧ ∃ (d : Addr) (fs : List (Str × V)), H2 a = some (exo a (He.ga K x) (some d)) ∧ H2 d = some (exd d fs) ∧ H d = none ∧ E (.ref (He.ga K x)) (some d) (upd (del H2 a) d (.xd fs))) (fun _ _ _ => False) := by
  subst hv
  refine ⟨by simp, fun a ha => ⟨a, _, rfl, upd_same, o, no_, fun dx hd hne => ⟨rfl, dx, [(f, v)], upd_same, ?_, ?_, ?_⟩⟩⟩
  · rw [upd_ne hne, upd_same]
  · rw [upd_ne hne] at hd
    exact hd
  · rw [upd_ne hne] at hd
    refine q dx _ (fun b o hb => ?_) upd_same
    have n1 : b ≠ dx := ne_of_none hb hd
    have n2 : b ≠ a := ne_of_none hb ha
    rw [upd_ne n1, del_ne n2, upd_ne n2, upd_ne n1, upd_ne n2]
    exact hb
/-- an error made as a value, of one field -/
theorem e1_made {K : PySem.W.Frag} {C : Addr} {f : Str} {v : V} {H : Hp} {Q : VK} {vs : List V} {a : Addr} (o : OexC K C) (no_ : PySem.W.findIn K (.ref C) f = some none) (hv : vs = [.ref a, v]) (ha : H a = none) (q : ∀ a H', Ex H H' → ErV H' a C [(f, v)] → Q (.ref a) H') :
    spE1 K f vs (upd H a (exo a C none)) (fun v H2 => v = .non ∧ Q (.ref a) H2) fun _ _ _ => False := by
  subst hv
  refine ⟨a, _, rfl, upd_same, o, no_, fun dx hd hne => ⟨rfl, q a _ (fun b o hb => ?_) (.inl ⟨dx, upd_same, by rw [upd_ne hne, upd_same]⟩)⟩⟩
  rw [upd_ne hne] at hd
  have n1 : b ≠ dx := ne_of_none hb hd
  have n2 : b ≠ a := ne_of_none hb ha
  rw [upd_ne n2, upd_ne n1, upd_ne n2]
  exact hb
theorem r_v1 {K : PySem.W.Frag} {C : Addr} {f : Str} {v : V} {H : Hp} {Q : VK} {vs : List V} (o : OexC K C) (no_ : PySem.W.findIn K (.ref C) f = some none) (hv : vs = [v]) (q : ∀ a H', Ex H H' → ErV H' a C [(f, v)] → Q (.ref a) H') :
    vs.length ≤ 1000 ∧ ∀ a, H a = none → spE1 K f (.ref a :: (vs ++ [])) (upd H a (exo a C none)) (fun v H2 => v = .non ∧ Q (.ref a) H2) fun _ _ _ => False := by
  subst hv
  exact ⟨by simp, fun a ha => e1_made o no_ rfl ha q⟩
theorem r_k1 {K : PySem.W.Frag} {C : Addr} {f : Str} {v : V} {H : Hp} {Q : VK} {zs : List V} (o : OexC K C) (no_ : PySem.W.findIn K (.ref C) f = some none) (hv : zs = [v]) (q : ∀ a H', Ex H H' → ErV H' a C [(f, v)] → Q (.ref a) H') :
    zs.length = 1 ∧ zs.length ≤ 1000 ∧ ∀ a, H a = none → spE1 K f (pm [0, 1] [.ref a] zs) (upd H a (exo a C none)) (fun v H2 => v = .non ∧ Q (.ref a) H2) fun _ _ _ => False := by
  subst hv
  exact ⟨rfl, by simp, fun a ha => e1_made o no_ rfl ha q⟩
/-- of two fields -/
theorem e2_made {K : PySem.W.Frag} {C : Addr} {f g : Str} {v w : V} {H : Hp} {Q : VK} {vs : List V} {a : Addr} (o : OexC K C) (n1 : PySem.W.findIn K (.ref C) f = some none) (n2 : PySem.W.findIn K (.ref C) g = some none) (hv : vs = [.ref a, v, w]) (ha : H a = none)
    (q : ∀ a H', Ex H H' → ErV H' a C [(g, w), (f, v)] → Q (.ref a) H') : spE2 K f g vs (upd H a (exo a C none)) (fun v H2 => v = .non ∧ Q (.ref a) H2) fun _ _ _ => False := by
  subst hv
  refine ⟨a, _, rfl, upd_same, o, n1, n2, fun dx hd hne => ⟨rfl, q a _ (fun b o hb => ?_) (.inl ⟨dx, ?_, upd_same⟩)⟩⟩
  · rw [upd_ne hne] at hd
    have n1 : b ≠ dx := ne_of_none hb hd
    have n2 : b ≠ a := ne_of_none hb ha
    rw [upd_ne n1, upd_ne n2, upd_ne n1, upd_ne n2]
    exact hb
  · rw [upd_ne hne.symm, upd_same]
theorem r_v2 {K : PySem.W.Frag} {C : Addr} {f g : Str} {v w : V} {H : Hp} {Q : VK} {vs : List V} (o : OexC K C) (n1 : PySem.W.findIn K (.ref C) f = some none) (n2 : PySem.W.findIn K (.ref C) g = some none) (hv : vs = [v, w]) (q : ∀ a H', Ex H H' → ErV H' a C [(g, w), (f, v)] → Q (.ref a) H') :
    vs.length ≤ 1000 ∧ ∀ a, H a = none → spE2 K f g (.ref a :: (vs ++ [])) (upd H a (exo a C none)) (fun v H2 => v = .non ∧ Q (.ref a) H2) fun _ _ _ => False := by
  subst hv
  exact ⟨by simp, fun a ha => e2_made o n1 n2 rfl ha q⟩
theorem r_k2 {K : PySem.W.Frag} {C : Addr} {f g : Str} {v w : V} {H : Hp} {Q : VK} {zs : List V} (o : OexC K C) (n1 : PySem.W.findIn K (.ref C) f = some none) (n2 : PySem.W.findIn K (.ref C) g = some none) (hv : zs = [w, v]) (q : ∀ a H', Ex H H' → ErV H' a C [(g, w), (f, v)] → Q (.ref a) H') :
    zs.length = 2 ∧ zs.length ≤ 1000 ∧ ∀ a, H a = none → spE2 K f g (pm [0, 2, 1] [.ref a] zs) (upd H a (exo a C none)) (fun v H2 => v = .non ∧ Q (.ref a) H2) fun _ _ _ => False := by
  subst hv
  exact ⟨rfl, by simp, fun a ha => e2_made o n1 n2 rfl ha q⟩
theorem ok_BadNumber_init {P : Program} {w : World} {K : PySem.W.Frag} {mg : Str → Option Value} {base : Heap} (T : Txt K mg) : ∃ fd, FnOk P w K mg base (L2.CX P w) 1 (He.ma K (He.ga K "BadNumber") "__init__") fd ["self", "part"] (spE1 K "part") ∧ Binds K fd ["self", "part"] [] ∧ KBn K fd ["self", "part"] 1 ["part"] (pm [0, 1]) (pm [0, 1]) := by
  obtain ⟨fd, F⟩ := T.d_BadNumber_init
  refine ⟨fd, F.ok sc_BadNumber_init sp2_len (fun cdv A outer s H vs Q E hr h => ?_), F.bindsN fun _ _ _ _ _ _ us hl => match us, hl with | [_, _], _ => rfl, kb_of F 1 ["part"] [0, 1] (fun _ _ _ _ _ _ us ws h1 h2 => match us, ws, h1, h2 with | [_], [_], _, _ => rfl)⟩
  obtain ⟨a, v, rfl, e, C, rfl, he, o, no_, k⟩ := sp2_is h
  refine ⟨_, (pss_one (ps_ost (pv 0) (pv 1))), ?_⟩
  exact ⟨_, rfl, _, rfl, e, _, rfl, o, no_, .inl ⟨he, fun dx h1 h2 => k dx h1 h2⟩⟩
theorem ok_BadBound_init {P : Program} {w : World} {K : PySem.W.Frag} {mg : Str → Option Value} {base : Heap} (T : Txt K mg) : ∃ fd, FnOk P w K mg base (L2.CX P w) 1 (He.ma K (He.ga K "BadBound") "__init__") fd ["self", "part"] (spE1 K "part") ∧ Binds K fd ["self", "part"] [] ∧ KBn K fd ["self", "part"] 1 ["part"] (pm [0, 1]) (pm [0, 1]) := by
  obtain ⟨fd, F⟩ := T.d_BadBound_init
  refine ⟨fd, F.ok sc_BadBound_init sp2_len (fun cdv A outer s H vs Q E hr h => ?_), F.bindsN fun _ _ _ _ _ _ us hl => match us, hl with | [_, _], _ => rfl, kb_of F 1 ["part"] [0, 1] (fun _ _ _ _ _ _ us ws h1 h2 => match us, ws, h1, h2 with | [_], [_], _, _ => rfl)⟩
  obtain ⟨a, v, rfl, e, C, rfl, he, o, no_, k⟩ := sp2_is h
  refine ⟨_, (pss_one (ps_ost (pv 0) (pv 1))), ?_⟩
  exact ⟨_, rfl, _, rfl, e, _, rfl, o, no_, .inl ⟨he, fun dx h1 h2 => k dx h1 h2⟩⟩
theorem ok_BadPoly_init {P : Program} {w : World} {K : PySem.W.Frag} {mg : Str → Option Value} {base : Heap} (T : Txt K mg) : ∃ fd, FnOk P w K mg base (L2.CX P w) 1 (He.ma K (He.ga K "BadPoly") "__init__") fd ["self", "part"] (spE1 K "part") ∧ Binds K fd ["self", "part"] [] ∧ KBn K fd ["self", "part"] 1 ["part"] (pm [0, 1]) (pm [0, 1]) := by
  obtain ⟨fd, F⟩ := T.d_BadPoly_init
  refine ⟨fd, F.ok sc_BadPoly_init sp2_len (fun cdv A outer s H vs Q E hr h => ?_), F.bindsN fun _ _ _ _ _ _ us hl => match us, hl with | [_, _], _ => rfl, kb_of F 1 ["part"] [0, 1] (fun _ _ _ _ _ _ us ws h1 h2 => match us, ws, h1, h2 with | [_], [_], _, _ => rfl)⟩
  obtain ⟨a, v, rfl, e, C, rfl, he, o, no_, k⟩ := sp2_is h
  refine ⟨_, (pss_one (ps_ost (pv 0) (pv 1))), ?_⟩
  exact ⟨_, rfl, _, rfl, e, _, rfl, o, no_, .inl ⟨he, fun dx h1 h2 => k dx h1 h2⟩⟩
theorem ok_BadWeb_init {P : Program} {w : World} {K : PySem.W.Frag} {mg : Str → Option Value} {base : Heap} (T : Txt K mg) : ∃ fd, FnOk P w K mg base (L2.CX P w) 1 (He.ma K (He.ga K "BadWeb") "__init__") fd ["self", "part"] (spE1 K "part") ∧ Binds K fd ["self", "part"] [] ∧ KBn K fd ["self", "part"] 1 ["part"] (pm [0, 1]) (pm [0, 1]) := by
  obtain ⟨fd, F⟩ := T.d_BadWeb_init
  refine ⟨fd, F.ok sc_BadWeb_init sp2_len (fun cdv A outer s H vs Q E hr h => ?_), F.bindsN fun _ _ _ _ _ _ us hl => match us, hl with | [_, _], _ => rfl, kb_of F 1 ["part"] [0, 1] (fun _ _ _ _ _ _ us ws h1 h2 => match us, ws, h1, h2 with | [_], [_], _, _ => rfl)⟩
  obtain ⟨a, v, rfl, e, C, rfl, he, o, no_, k⟩ := sp2_is h
  refine ⟨_, (pss_one (ps_ost (pv 0) (pv 1))), ?_⟩
  exact ⟨_, rfl, _, rfl, e, _, rfl, o, no_, .inl ⟨he, fun dx h1 h2 => k dx h1 h2⟩⟩
theorem ok_BadSigns_init {P : Program} {w : World} {K : PySem.W.Frag} {mg : Str → Option Value} {base : Heap} (T : Txt K mg) : ∃ fd, FnOk P w K mg base (L2.CX P w) 1 (He.ma K (He.ga K "BadSigns") "__init__") fd ["self", "part"] (spE1 K "part") ∧ Binds K fd ["self", "part"] [] ∧ KBn K fd ["self", "part"] 1 ["part"] (pm [0, 1]) (pm [0, 1]) := by
  obtain ⟨fd, F⟩ := T.d_BadSigns_init
  refine ⟨fd, F.ok sc_BadSigns_init sp2_len (fun cdv A outer s H vs Q E hr h => ?_), F.bindsN fun _ _ _ _ _ _ us hl => match us, hl with | [_, _], _ => rfl, kb_of F 1 ["part"] [0, 1] (fun _ _ _ _ _ _ us ws h1 h2 => match us, ws, h1, h2 with | [_], [_], _, _ => rfl)⟩
  obtain ⟨a, v, rfl, e, C, rfl, he, o, no_, k⟩ := sp2_is h
  refine ⟨_, (pss_one (ps_ost (pv 0) (pv 1))), ?_⟩
  exact ⟨_, rfl, _, rfl, e, _, rfl, o, no_, .inl ⟨he, fun dx h1 h2 => k dx h1 h2⟩⟩
theorem ok_BadVectors_init {P : Program} {w : World} {K : PySem.W.Frag} {mg : Str → Option Value} {base : Heap} (T : Txt K mg) : ∃ fd, FnOk P w K mg base (L2.CX P w) 1 (He.ma K (He.ga K "BadVectors") "__init__") fd ["self", "part"] (spE1 K "part") ∧ Binds K fd ["self", "part"] [] ∧ KBn K fd ["self", "part"] 1 ["part"] (pm [0, 1]) (pm [0, 1]) := by
  obtain ⟨fd, F⟩ := T.d_BadVectors_init
  refine ⟨fd, F.ok sc_BadVectors_init sp2_len (fun cdv A outer s H vs Q E hr h => ?_), F.bindsN fun _ _ _ _ _ _ us hl => match us, hl with | [_, _], _ => rfl, kb_of F 1 ["part"] [0, 1] (fun _ _ _ _ _ _ us ws h1 h2 => match us, ws, h1, h2 with | [_], [_], _, _ => rfl)⟩
  obtain ⟨a, v, rfl, e, C, rfl, he, o, no_, k⟩ := sp2_is h
  refine ⟨_, (pss_one (ps_ost (pv 0) (pv 1))), ?_⟩
  exact ⟨_, rfl, _, rfl, e, _, rfl, o, no_, .inl ⟨he, fun dx h1 h2 => k dx h1 h2⟩⟩
theorem ok_BadLots_init {P : Program} {w : World} {K : PySem.W.Frag} {mg : Str → Option Value} {base : Heap} (T : Txt K mg) : ∃ fd, FnOk P w K mg base (L2.CX P w) 1 (He.ma K (He.ga K "BadLots") "__init__") fd ["self", "part"] (spE1 K "part") ∧ Binds K fd ["self", "part"] [] ∧ KBn K fd ["self", "part"] 1 ["part"] (pm [0, 1]) (pm [0, 1]) := by
  obtain ⟨fd, F⟩ := T.d_BadLots_init
  refine ⟨fd, F.ok sc_BadLots_init sp2_len (fun cdv A outer s H vs Q E hr h => ?_), F.bindsN fun _ _ _ _ _ _ us hl => match us, hl with | [_, _], _ => rfl, kb_of F 1 ["part"] [0, 1] (fun _ _ _ _ _ _ us ws h1 h2 => match us, ws, h1, h2 with | [_], [_], _, _ => rfl)⟩
  obtain ⟨a, v, rfl, e, C, rfl, he, o, no_, k⟩ := sp2_is h
  refine ⟨_, (pss_one (ps_ost (pv 0) (pv 1))), ?_⟩
  exact ⟨_, rfl, _, rfl, e, _, rfl, o, no_, .inl ⟨he, fun dx h1 h2 => k dx h1 h2⟩⟩
theorem ok_BadRound_init {P : Program} {w : World} {K : PySem.W.Frag} {mg : Str → Option Value} {base : Heap} (T : Txt K mg) : ∃ fd, FnOk P w K mg base (L2.CX P w) 1 (He.ma K (He.ga K "BadRound") "__init__") fd ["self", "part"] (spE1 K "part") ∧ Binds K fd ["self", "part"] [] ∧ KBn K fd ["self", "part"] 1 ["part"] (pm [0, 1]) (pm [0, 1]) := by
  obtain ⟨fd, F⟩ := T.d_BadRound_init
  refine ⟨fd, F.ok sc_BadRound_init sp2_len (fun cdv A outer s H vs Q E hr h => ?_), F.bindsN fun _ _ _ _ _ _ us hl => match us, hl with | [_, _], _ => rfl, kb_of F 1 ["part"] [0, 1] (fun _ _ _ _ _ _ us ws h1 h2 => match us, ws, h1, h2 with | [_], [_], _, _ => rfl)⟩
  obtain ⟨a, v, rfl, e, C, rfl, he, o, no_, k⟩ := sp2_is h
  refine ⟨_, (pss_one (ps_ost (pv 0) (pv 1))), ?_⟩
  exact ⟨_, rfl, _, rfl, e, _, rfl, o, no_, .inl ⟨he, fun dx h1 h2 => k dx h1 h2⟩⟩
theorem ok_BadDesk_init {P : Program} {w : World} {K : PySem.W.Frag} {mg : Str → Option Value} {base : Heap} (T : Txt K mg) : ∃ fd, FnOk P w K mg base (L2.CX P w) 1 (He.ma K (He.ga K "BadDesk") "__init__") fd ["self", "part"] (spE1 K "part") ∧ Binds K fd ["self", "part"] [] ∧ KBn K fd ["self", "part"] 1 ["part"] (pm [0, 1]) (pm [0, 1]) := by
  obtain ⟨fd, F⟩ := T.d_BadDesk_init
  refine ⟨fd, F.ok sc_BadDesk_init sp2_len (fun cdv A outer s H vs Q E hr h => ?_), F.bindsN fun _ _ _ _ _ _ us hl => match us, hl with | [_, _], _ => rfl, kb_of F 1 ["part"] [0, 1] (fun _ _ _ _ _ _ us ws h1 h2 => match us, ws, h1, h2 with | [_], [_], _, _ => rfl)⟩
  obtain ⟨a, v, rfl, e, C, rfl, he, o, no_, k⟩ := sp2_is h
  refine ⟨_, (pss_one (ps_ost (pv 0) (pv 1))), ?_⟩
  exact ⟨_, rfl, _, rfl, e, _, rfl, o, no_, .inl ⟨he, fun dx h1 h2 => k dx h1 h2⟩⟩
theorem ok_Misfit_init {P : Program} {w : World} {K : PySem.W.Frag} {mg : Str → Option Value} {base : Heap} (T : Txt K mg) : ∃ fd, FnOk P w K mg base (L2.CX P w) 1 (He.ma K (He.ga K "Misfit") "__init__") fd ["self", "part"] (spE1 K "part") ∧ Binds K fd ["self", "part"] [] ∧ KBn K fd ["self", "part"] 1 ["part"] (pm [0, 1]) (pm [0, 1]) := by
  obtain ⟨fd, F⟩ := T.d_Misfit_init
  refine ⟨fd, F.ok sc_Misfit_init sp2_len (fun cdv A outer s H vs Q E hr h => ?_), F.bindsN fun _ _ _ _ _ _ us hl => match us, hl with | [_, _], _ => rfl, kb_of F 1 ["part"] [0, 1] (fun _ _ _ _ _ _ us ws h1 h2 => match us, ws, h1, h2 with | [_], [_], _, _ => rfl)⟩
  obtain ⟨a, v, rfl, e, C, rfl, he, o, no_, k⟩ := sp2_is h
  refine ⟨_, (pss_one (ps_ost (pv 0) (pv 1))), ?_⟩
  exact ⟨_, rfl, _, rfl, e, _, rfl, o, no_, .inl ⟨he, fun dx h1 h2 => k dx h1 h2⟩⟩
theorem ok_Missing_init {P : Program} {w : World} {K : PySem.W.Frag} {mg : Str → Option Value} {base : Heap} (T : Txt K mg) : ∃ fd, FnOk P w K mg base (L2.CX P w) 1 (He.ma K (He.ga K "Missing") "__init__") fd ["self", "value"] (spE1 K "value") ∧ Binds K fd ["self", "value"] [] ∧ KBn K fd ["self", "value"] 1 ["value"] (pm [0, 1]) (pm [0, 1]) := by
  obtain ⟨fd, F⟩ := T.d_Missing_init
  refine ⟨fd, F.ok sc_Missing_init sp2_len (fun cdv A outer s H vs Q E hr h => ?_), F.bindsN fun _ _ _ _ _ _ us hl => match us, hl with | [_, _], _ => rfl, kb_of F 1 ["value"] [0, 1] (fun _ _ _ _ _ _ us ws h1 h2 => match us, ws, h1, h2 with | [_], [_], _, _ => rfl)⟩
  obtain ⟨a, v, rfl, e, C, rfl, he, o, no_, k⟩ := sp2_is h
  refine ⟨_, (pss_one (ps_ost (pv 0) (pv 1))), ?_⟩
  exact ⟨_, rfl, _, rfl, e, _, rfl, o, no_, .inl ⟨he, fun dx h1 h2 => k dx h1 h2⟩⟩
theorem ok_Twice_init {P : Program} {w : World} {K : PySem.W.Frag} {mg : Str → Option Value} {base : Heap} (T : Txt K mg) : ∃ fd, FnOk P w K mg base (L2.CX P w) 1 (He.ma K (He.ga K "Twice") "__init__") fd ["self", "value"] (spE1 K "value") ∧ Binds K fd ["self", "value"] [] ∧ KBn K fd ["self", "value"] 1 ["value"] (pm [0, 1]) (pm [0, 1]) := by
  obtain ⟨fd, F⟩ := T.d_Twice_init
  refine ⟨fd, F.ok sc_Twice_init sp2_len (fun cdv A outer s H vs Q E hr h => ?_), F.bindsN fun _ _ _ _ _ _ us hl => match us, hl with | [_, _], _ => rfl, kb_of F 1 ["value"] [0, 1] (fun _ _ _ _ _ _ us ws h1 h2 => match us, ws, h1, h2 with | [_], [_], _, _ => rfl)⟩
  obtain ⟨a, v, rfl, e, C, rfl, he, o, no_, k⟩ := sp2_is h
  refine ⟨_, (pss_one (ps_ost (pv 0) (pv 1))), ?_⟩
  exact ⟨_, rfl, _, rfl, e, _, rfl, o, no_, .inl ⟨he, fun dx h1 h2 => k dx h1 h2⟩⟩
theorem ok_Impossible_init {P : Program} {w : World} {K : PySem.W.Frag} {mg : Str → Option Value} {base : Heap} (T : Txt K mg) : ∃ fd, FnOk P w K mg base (L2.CX P w) 1 (He.ma K (He.ga K "Impossible") "__init__") fd ["self", "paper"] (spE1 K "paper") ∧ Binds K fd ["self", "paper"] [] ∧ KBn K fd ["self", "paper"] 1 ["paper"] (pm [0, 1]) (pm [0, 1]) := by
  obtain ⟨fd, F⟩ := T.d_Impossible_init
  refine ⟨fd, F.ok sc_Impossible_init sp2_len (fun cdv A outer s H vs Q E hr h => ?_), F.bindsN fun _ _ _ _ _ _ us hl => match us, hl with | [_, _], _ => rfl, kb_of F 1 ["paper"] [0, 1] (fun _ _ _ _ _ _ us ws h1 h2 => match us, ws, h1, h2 with | [_], [_], _, _ => rfl)⟩
  obtain ⟨a, v, rfl, e, C, rfl, he, o, no_, k⟩ := sp2_is h
  refine ⟨_, (pss_one (ps_ost (pv 0) (pv 1))), ?_⟩
  exact ⟨_, rfl, _, rfl, e, _, rfl, o, no_, .inl ⟨he, fun dx h1 h2 => k dx h1 h2⟩⟩
theorem ok_TooMany_init {P : Program} {w : World} {K : PySem.W.Frag} {mg : Str → Option Value} {base : Heap} (T : Txt K mg) : ∃ fd, FnOk P w K mg base (L2.CX P w) 1 (He.ma K (He.ga K "TooMany") "__init__") fd ["self", "what", "most"] (spE2 K "what" "most") ∧ Binds K fd ["self", "what", "most"] [] ∧ KBn K fd ["self", "what", "most"] 1 ["most", "what"] (pm [0, 2, 1]) (pm [0, 2, 1]) := by
  obtain ⟨fd, F⟩ := T.d_TooMany_init
  refine ⟨fd, F.ok sc_TooMany_init sp3_len (fun cdv A outer s H vs Q E hr h => ?_), F.bindsN fun _ _ _ _ _ _ us hl => match us, hl with | [_, _, _], _ => rfl, kb_of F 1 ["most", "what"] [0, 2, 1] (fun _ _ _ _ _ _ us ws h1 h2 => match us, ws, h1, h2 with | [_], [_, _], _, _ => rfl)⟩
  obtain ⟨a, v, w, rfl, e, C, rfl, he, o, n1, n2, k⟩ := sp3_is h
  refine ⟨_, (pss_cons (ps_ost (pv 0) (pv 1))
      (pss_one (ps_ost (pv 0) (pv 2)))), ?_⟩
  refine ⟨_, rfl, _, rfl, e, _, rfl, o, n1, .inl ⟨he, fun dx h1 h2 => ?_⟩⟩
  exact ⟨_, rfl, _, rfl, e, _, rfl, o, n2, .inr ⟨dx, _, upd_same, by rw [upd_ne h2, upd_same], by simp, k dx h1 h2⟩⟩
theorem ok_BadText_init {P : Program} {w : World} {K : PySem.W.Frag} {mg : Str → Option Value} {base : Heap} (T : Txt K mg) : ∃ fd, FnOk P w K mg base (L2.CX P w) 1 (He.ma K (He.ga K "BadText") "__init__") fd ["self", "line", "item"] (spE2 K "line" "item") ∧ Binds K fd ["self", "line", "item"] [] ∧ KBn K fd ["self", "line", "item"] 1 ["item", "line"] (pm [0, 2, 1]) (pm [0, 2, 1]) := by
  obtain ⟨fd, F⟩ := T.d_BadText_init
  refine ⟨fd, F.ok sc_BadText_init sp3_len (fun cdv A outer s H vs Q E hr h => ?_), F.bindsN fun _ _ _ _ _ _ us hl => match us, hl with | [_, _, _], _ => rfl, kb_of F 1 ["item", "line"] [0, 2, 1] (fun _ _ _ _ _ _ us ws h1 h2 => match us, ws, h1, h2 with | [_], [_, _], _, _ => rfl)⟩
  obtain ⟨a, v, w, rfl, e, C, rfl, he, o, n1, n2, k⟩ := sp3_is h
  refine ⟨_, (pss_cons (ps_ost (pv 0) (pv 1))
      (pss_one (ps_ost (pv 0) (pv 2)))), ?_⟩
  refine ⟨_, rfl, _, rfl, e, _, rfl, o, n1, .inl ⟨he, fun dx h1 h2 => ?_⟩⟩
  exact ⟨_, rfl, _, rfl, e, _, rfl, o, n2, .inr ⟨dx, _, upd_same, by rw [upd_ne h2, upd_same], by simp, k dx h1 h2⟩⟩
theorem ok_BadLine_init {P : Program} {w : World} {K : PySem.W.Frag} {mg : Str → Option Value} {base : Heap} (T : Txt K mg) : ∃ fd, FnOk P w K mg base (L2.CX P w) 1 (He.ma K (He.ga K "BadLine") "__init__") fd ["self", "line", "error"] (spE2 K "line" "error") ∧ Binds K fd ["self", "line", "error"] [] ∧ KBn K fd ["self", "line", "error"] 1 ["error", "line"] (pm [0, 2, 1]) (pm [0, 2, 1]) := by
  obtain ⟨fd, F⟩ := T.d_BadLine_init
  refine ⟨fd, F.ok sc_BadLine_init sp3_len (fun cdv A outer s H vs Q E hr h => ?_), F.bindsN fun _ _ _ _ _ _ us hl => match us, hl with | [_, _, _], _ => rfl, kb_of F 1 ["error", "line"] [0, 2, 1] (fun _ _ _ _ _ _ us ws h1 h2 => match us, ws, h1, h2 with | [_], [_, _], _, _ => rfl)⟩
  obtain ⟨a, v, w, rfl, e, C, rfl, he, o, n1, n2, k⟩ := sp3_is h
  refine ⟨_, (pss_cons (ps_ost (pv 0) (pv 1))
      (pss_one (ps_ost (pv 0) (pv 2)))), ?_⟩
  refine ⟨_, rfl, _, rfl, e, _, rfl, o, n1, .inl ⟨he, fun dx h1 h2 => ?_⟩⟩
  exact ⟨_, rfl, _, rfl, e, _, rfl, o, n2, .inr ⟨dx, _, upd_same, by rw [upd_ne h2, upd_same], by simp, k dx h1 h2⟩⟩
/-! ### checks -/
def spIsInt (K : PySem.W.Frag) : Sp := sp1 fun v H Q _ => Kn K H v ∧ Q (.bl (isI v)) H
theorem ok_is_integer {P : Program} {w : World} {K : PySem.W.Frag} {mg : Str → Option Value} {base : Heap} (T : Txt K mg) : ∃ fd, FnOk P w K mg base (L2.CX P w) 1 (He.ga K "is_integer") fd ["value"] (spIsInt K) ∧ Binds K fd ["value"] [] ∧ KBn K fd ["value"] 0 ["value"] (pm [0]) (pm [0]) := by
  obtain ⟨fd, F⟩ := T.d_is_integer
  refine ⟨fd, F.ok sc_is_integer sp1_len (fun cdv A outer s H vs Q E hr h => ?_), F.bindsN fun _ _ _ _ _ _ us hl => match us, hl with | [_], _ => rfl, kb_of F 0 ["value"] [0] (fun _ _ _ _ _ _ us ws h1 h2 => match us, ws, h1, h2 with | [], [_], _, _ => rfl)⟩
  obtain ⟨v, rfl, kv, q⟩ := sp1_is h
  refine ⟨_, (pss_one (ps_ret (pe_and (pe_callB (cr_isi rfl) (by rfl) T.b_isinstance (by decide +kernel) (pa_cons (pv 0) (pa_cons (pe_bltn (v := .ty "int") (by rfl) T.b_int (by decide +kernel) rfl) pa_nil))) (pe_one (pe_not (pe_callB (cr_isi rfl) (by rfl) T.b_isinstance (by decide +kernel) (pa_cons (pv 0) (pa_cons (pe_bltn (v := .ty "bool") (by rfl) T.b_bool (by decide +kernel) rfl) pa_nil)))))))), ?_⟩
  obtain ⟨t, b, ht, hb, hc⟩ := kn_kit T kv (T0 := "int") (by decide)
  obtain ⟨t', b', ht', hb', hc'⟩ := kn_kit T kv (T0 := "bool") (by decide)
  have e : (b && !b') = isI v := by
    rcases hc with ⟨T1, m1, rfl, rfl⟩ | ⟨rfl, ⟨C, rfl⟩, a, rfl⟩
    · have c1 := ty_int ht
      rcases hc' with ⟨T2, m2, rfl, rfl⟩ | ⟨rfl, ⟨C, rfl⟩, a, rfl⟩
      · have c2 := ty_int ht'
        cases hv : isI v with
        | true =>
          obtain rfl := c1.mpr hv
          obtain rfl := c2.mpr hv
          decide
        | false =>
          have n1 : T1 ≠ "int" := fun z => by have := c1.mp z; rw [hv] at this; cases this
          have n2 : T1 = "bool" → T2 = "bool" := fun z => (ty_bool ht').mpr ((ty_bool ht).mp z)
          by_cases z : T1 = "bool"
          · obtain rfl := n2 z
            subst z
            decide
          · simp [kitR, n1, z]
      · cases hv : isI (V.ref a) with
        | true => cases hv
        | false =>
          have n1 : T1 ≠ "int" := fun z => by have := c1.mp z; rw [hv] at this; cases this
          have n2 : T1 ≠ "bool" := fun z => by have := (ty_bool ht).mp z; cases this
          simp [kitR, n1, n2]
    · simp [isI]
  refine ⟨_, rfl, v, .ty "int", t, _, b, rfl, .ty "int", ht, hb, b, rfl, ?_⟩
  cases b with
  | false =>
    rw [if_neg Bool.false_ne_true]
    rw [← e] at q
    exact q
  | true =>
    rw [if_pos rfl]
    rw [← e] at q
    exact ⟨_, rfl, v, .ty "bool", t', _, b', rfl, .ty "bool", ht', hb', b', rfl, q⟩
/-- least, most: none or a bound -/
def bnd : V → Option (Option Int)
  | .non => some none
  | .int i => some (some i)
  | _ => none
def loB (i : Int) : Option Int → Bool
  | none => true
  | some l => decide (l ≤ i)
def upB (i : Int) : Option Int → Bool
  | none => true
  | some m => decide (i ≤ m)
def inB (v : V) (l m : Option Int) : Bool := match v with
  | .int i => loB i l && upB i m
  | _ => false
def spWithin (K : PySem.W.Frag) : Sp := sp3 fun v l m H Q _ => Kn K H v ∧ ∃ l' m', bnd l = some l' ∧ bnd m = some m' ∧ Q (.bl (inB v l' m')) H
theorem bnd_is {v : V} {l : Option Int} (h : bnd v = some l) : (v = .non ∧ l = none) ∨ ∃ i, v = .int i ∧ l = some i := by
  cases v <;> simp [bnd] at h <;> subst h <;> simp
theorem ok_is_within {P : Program} {w : World} {K : PySem.W.Frag} {mg : Str → Option Value} {base : Heap} (T : Txt K mg) : ∃ fd, FnOk P w K mg base (L2.CX P w) 2 (He.ga K "is_within") fd ["value", "least", "most"] (spWithin K) ∧ Binds K fd ["value", "least", "most"] [] ∧ KBn K fd ["value", "least", "most"] 0 ["value", "least", "most"] (pm [0, 1, 2]) (pm [0, 1, 2]) := by
  obtain ⟨fd, F⟩ := T.d_is_within
  obtain ⟨fd_is_integer, F_is_integer, B_is_integer, kb_is_integer_0⟩ := ok_is_integer (P := P) (w := w) (base := base) T
  refine ⟨fd, F.ok sc_is_within sp3_len (fun cdv A outer s H vs Q E hr h => ?_), F.bindsN fun _ _ _ _ _ _ us hl => match us, hl with | [_, _, _], _ => rfl, kb_of F 0 ["value", "least", "most"] [0, 1, 2] (fun _ _ _ _ _ _ us ws h1 h2 => match us, ws, h1, h2 with | [], [_, _, _], _, _ => rfl)⟩
  have hr_is_integer : Room 1 _ := hr.mono (by decide)
  obtain ⟨v, l, m, rfl, kv, l', m', hl, hm, q⟩ := sp3_is h
  refine ⟨_, (pss_cons (ps_if (PW.pt (pw_or (pt_not (pt_val (pe_call F_is_integer hr_is_integer (by rfl) T.g_is_integer T.k_is_integer B_is_integer .nil passL (pa_cons (pv 0) pa_nil)))) (pw_or1 (PW.pt (pw_and (pt_cmpR op_notN (pv 1) pe_non (nomark _)) (pw_and1 (pt_cmpR op_lt (pv 0) (pv 1) (nomark _)))))))) (pss_one (ps_ret pe_bl)) pss_nil)
      (pss_one (ps_ret (pe_or (pe_cmpR op_isN (pv 2) pe_non (nomark _)) (pe_one (pe_cmpR op_le (pv 0) (pv 2) (nomark _))))))), ?_⟩
  refine ⟨_, rfl, kv, ⟨_, rfl, ?_⟩⟩
  cases hv : isI v with
  | false =>
    have e : inB v l' m' = false := by cases v <;> first | rfl | cases hv
    rw [e] at q
    exact ite_t rfl (ite_t rfl q)
  | true =>
    obtain ⟨i, rfl⟩ : ∃ i, v = .int i := by cases v <;> first | exact ⟨_, rfl⟩ | cases hv
    refine ite_f rfl ?_
    have last : ∀ {Q' : VK}, Q' (.bl (upB i m')) H → (tOrV (tOp (fun x y H Q => y = .non ∧ Q (.bl (decide (x = .non))) H) (tVar 2) (tC .non)) (tOp (rI0 fun i j => .bl (decide (i ≤ j))) (tVar 0) (tVar 2))) [some (.int i), some l, some m] H Q' := fun {Q'} q' => by
      refine ⟨_, rfl, rfl, _, rfl, ?_⟩
      rcases bnd_is hm with ⟨rfl, rfl⟩ | ⟨j, rfl, rfl⟩
      · exact ite_t (by simp) q'
      · exact ite_f (by simp) ⟨_, rfl, _, rfl, i, j, rfl, rfl, q'⟩
    rcases bnd_is hl with ⟨rfl, rfl⟩ | ⟨j, rfl, rfl⟩
    · refine ⟨_, rfl, rfl, _, rfl, ite_f (by simp) (ite_f rfl (last ?_))⟩
      simpa [inB, loB] using q
    · refine ⟨_, rfl, rfl, _, rfl, ite_t (by simp) ⟨_, rfl, _, rfl, i, j, rfl, rfl, _, rfl, ?_⟩⟩
      by_cases c : i < j
      · refine ite_t (by simp [c]) ?_
        have e : inB (.int i) (some j) m' = false := by simp [inB, loB, show ¬ j ≤ i by omega]
        rw [e] at q
        exact q
      · refine ite_f (by simp [c]) (last ?_)
        have e : inB (.int i) (some j) m' = upB i m' := by simp [inB, loB, show j ≤ i by omega]
        rw [← e]
        exact q
def spNeed (K : PySem.W.Frag) : Sp := sp4 fun v z l m H Q E => Kn K H v ∧ ∃ l' m' s, z = .str s ∧ bnd l = some l' ∧ bnd m = some m' ∧ (inB v l' m' = true → Q v H) ∧ (inB v l' m' = false → Raised K "BadNumber" "part" (.str s) H E)
theorem ok_need_integer {P : Program} {w : World} {K : PySem.W.Frag} {mg : Str → Option Value} {base : Heap} (T : Txt K mg) : ∃ fd, FnOk P w K mg base (L2.CX P w) 3 (He.ga K "need_integer") fd ["value", "part", "least", "most"] (spNeed K) ∧ Binds K fd ["value", "part", "least", "most"] [] := by
  obtain ⟨fd, F⟩ := T.d_need_integer
  obtain ⟨fd_is_within, F_is_within, B_is_within, kb_is_within_0⟩ := ok_is_within (P := P) (w := w) (base := base) T
  obtain ⟨fd_BadNumber_init, F_BadNumber_init, B_BadNumber_init, kb_BadNumber_init_0⟩ := ok_BadNumber_init (P := P) (w := w) (base := base) T
  refine ⟨fd, F.ok sc_need_integer sp4_len (fun cdv A outer s H vs Q E hr h => ?_), F.bindsN fun _ _ _ _ _ _ us hl => match us, hl with | [_, _, _, _], _ => rfl⟩
  have hr_is_within : Room 2 _ := hr.mono (by decide)
  have hr_BadNumber_init : Room 2 _ := hr.mono (by decide)
  obtain ⟨v, z, l, m, rfl, kv, l', m', z', rfl, hl, hm, q1, q2⟩ := sp4_is h
  refine ⟨_, (pss_cons (ps_if (pt_not (pt_val (pe_call F_is_within hr_is_within (by rfl) T.g_is_within T.k_is_within B_is_within .nil passL (pa_cons (pv 0) (pa_cons (pv 2) (pa_cons (pv 3) pa_nil)))))) (pss_one (ps_raise rfl (takes_of rfl rfl rfl rfl) (pmk_oex T.e_BadNumber.o T.e_BadNumber.i T.e_BadNumber.t F_BadNumber_init hr_BadNumber_init B_BadNumber_init .nil passL rfl T.g_BadNumber (pa_cons (pv 1) pa_nil)))) pss_nil)
      (pss_one (ps_ret (pv 0)))), ?_⟩
  refine ⟨_, rfl, _, rfl, _, rfl, kv, l', m', hl, hm, _, rfl, ?_⟩
  cases hv : inB v l' m' with
  | true => exact ite_f rfl ⟨_, rfl, q1 hv⟩
  | false => exact ite_t rfl ⟨_, rfl, r_err T.e_BadNumber.o (T.e_BadNumber.no_ _ (by simp)) rfl (q2 hv)⟩

end K00
namespace K00
open PySem PySem.Spec PyProof.Rows L2 GS TL LamX
local macro_rules | `(tactic| walk_at "rd") => `(tactic| (repeat (first
  | with_reducible refine r_next ?_
  | with_reducible refine r_seq ?_
  | with_reducible refine r_ret ?_
  | with_reducible refine r_ifS ?_
  | with_reducible refine r_asg ?_
  | with_reducible refine r_drop ?_
  | with_reducible refine r_op ?_
  | with_reducible refine r_un ?_
  | with_reducible refine r_cbInt ?_
  | with_reducible refine r_cbAbs ?_
  | with_reducible refine r_cbLen ?_
  | with_reducible refine r_cbList ?_
  | with_reducible refine r_cbTup ?_
  | with_reducible refine r_iEnT ?_
  | with_reducible refine r_iEnL ?_
  | with_reducible refine r_zipA ?_
  | with_reducible refine r_zipX ?_
  | with_reducible refine r_augS ?_
  | with_reducible refine r_cb ?_
  | with_reducible refine r_call ?_
  | with_reducible refine r_make ?_
  | with_reducible refine r_callN0 ?_
  | with_reducible refine r_makeK0 ?_
  | with_reducible refine r_makeS ?_
  | with_reducible refine r_callS ?_
  | with_reducible refine r_cons ?_
  | with_reducible refine r_nil ?_
  | with_reducible refine r_test ?_
  | with_reducible refine r_B ?_
  | with_reducible refine r_and ?_
  | with_reducible refine r_or ?_
  | with_reducible refine r_not ?_
  | with_reducible refine r_andV ?_
  | with_reducible refine r_orV ?_
  | with_reducible refine r_notV ?_
  | with_reducible refine r_if ?_
  | with_reducible refine r_tup ?_
  | with_reducible refine r_lst ?_
  | with_reducible refine r_c ?_
  | with_reducible refine r_lc ?_
  | with_reducible refine r_chain ?_
  | with_reducible refine r_iT ?_
  | with_reducible refine r_iL ?_
  | with_reducible refine r_iR1 ?_
  | with_reducible refine r_iR2 ?_
  | with_reducible refine r_iR3 ?_
  | with_reducible refine r_asgG ?_
  | with_reducible refine r_gSub ?_
  | with_reducible refine r_for ?_
  | with_reducible refine r_smeth ?_
  | with_reducible refine r_par ?_
  | with_reducible refine r_parK ?_
  | with_reducible refine r_gCons ?_
  | with_reducible refine r_gNil ?_
  | with_reducible refine r_gName ?_
  | with_reducible refine r_intI ?_
  | with_reducible refine r_intB ?_
  | with_reducible refine r_absI ?_
  | with_reducible refine r_k ?_
  | with_reducible refine r_kV ?_
  | ((with_reducible show tVar _ _ _ _); refine r_var3 ?_ (by rfl))
  | with_reducible refine r_I0 ?_
  | with_reducible refine r_U ?_
  | with_reducible refine r_eqI ?_
  | with_reducible refine r_neI ?_
  | dsimp only)))
local macro_rules | `(tactic| walk_at "rx") => `(tactic| (repeat (first
  | with_reducible refine r_next ?_
  | with_reducible refine r_ret ?_
  | with_reducible refine r_ifS ?_
  | with_reducible refine r_asg ?_
  | with_reducible refine r_drop ?_
  | with_reducible refine r_op ?_
  | with_reducible refine r_un ?_
  | with_reducible refine r_cbInt ?_
  | with_reducible refine r_cbAbs ?_
  | with_reducible refine r_cbLen ?_
  | with_reducible refine r_cbList ?_
  | with_reducible refine r_cbTup ?_
  | with_reducible refine r_iEnT ?_
  | with_reducible refine r_iEnL ?_
  | with_reducible refine r_zipA ?_
  | with_reducible refine r_zipX ?_
  | with_reducible refine r_augS ?_
  | with_reducible refine r_cb ?_
  | with_reducible refine r_call ?_
  | with_reducible refine r_make ?_
  | with_reducible refine r_callN0 ?_
  | with_reducible refine r_makeK0 ?_
  | with_reducible refine r_makeS ?_
  | with_reducible refine r_callS ?_
  | with_reducible refine r_cons ?_
  | with_reducible refine r_nil ?_
  | with_reducible refine r_test ?_
  | with_reducible refine r_B ?_
  | with_reducible refine r_and ?_
  | with_reducible refine r_or ?_
  | with_reducible refine r_not ?_
  | with_reducible refine r_andV ?_
  | with_reducible refine r_orV ?_
  | with_reducible refine r_notV ?_
  | with_reducible refine r_if ?_
  | with_reducible refine r_tup ?_
  | with_reducible refine r_lst ?_
  | with_reducible refine r_c ?_
  | with_reducible refine r_lc ?_
  | with_reducible refine r_chain ?_
  | with_reducible refine r_iT ?_
  | with_reducible refine r_iL ?_
  | with_reducible refine r_iR1 ?_
  | with_reducible refine r_iR2 ?_
  | with_reducible refine r_iR3 ?_
  | with_reducible refine r_asgG ?_
  | with_reducible refine r_gSub ?_
  | with_reducible refine r_for ?_
  | with_reducible refine r_smeth ?_
  | with_reducible refine r_par ?_
  | with_reducible refine r_parK ?_
  | with_reducible refine r_gCons ?_
  | with_reducible refine r_gNil ?_
  | with_reducible refine r_gName ?_
  | with_reducible refine r_intI ?_
  | with_reducible refine r_intB ?_
  | with_reducible refine r_absI ?_
  | with_reducible refine r_k ?_
  | with_reducible refine r_kV ?_
  | ((with_reducible show tVar _ _ _ _); refine r_var3 ?_ (by rfl))
  | with_reducible refine r_I0 ?_
  | with_reducible refine r_U ?_
  | with_reducible refine r_eqI ?_
  | with_reducible refine r_neI ?_
  | dsimp only)))
/-! ### rows of integers -/
/-- the items of a list or a tuple -/
def Sq (H : Hp) (v : V) (xs : List V) : Prop := ∃ a, v = .ref a ∧ (H a = some (.lst xs) ∨ H a = some (.tup xs))
theorem Sq.ex {H H' : Hp} {v : V} {xs : List V} (h : Sq H v xs) (e : Ex H H') : Sq H' v xs := by
  obtain ⟨a, rfl, h | h⟩ := h
  · exact ⟨a, rfl, .inl (e _ _ h)⟩
  · exact ⟨a, rfl, .inr (e _ _ h)⟩
theorem Sq.kn {K : PySem.W.Frag} {H : Hp} {v : V} {xs : List V} (h : Sq H v xs) : Kn K H v := by
  obtain ⟨a, rfl, h | h⟩ := h
  · exact .inl ⟨"list", by decide, .lst h⟩
  · exact .inl ⟨"tuple", by decide, .tup h⟩
theorem Own.ex {K : PySem.W.Frag} {H H' : Hp} {v : V} (h : Own K H v) (e : Ex H H') : Own K H' v := let ⟨a, C, dx, fs, h1, h2, h3⟩ := h; ⟨a, C, dx, fs, h1, h2, e _ _ h3⟩
/-- whether it is a list or a tuple -/
def RowB (K : PySem.W.Frag) (H : Hp) (v : V) (b : Bool) : Prop := (∃ T ∈ tys, TyOf K H v (.type T) ∧ b = (T == "list" || T == "tuple")) ∨ (Own K H v ∧ b = false)
theorem RowB.ex {K : PySem.W.Frag} {H H' : Hp} {v : V} {b : Bool} (h : RowB K H v b) (e : Ex H H') : RowB K H' v b := by
  rcases h with ⟨T, hT, h, hb⟩ | ⟨h, hb⟩
  · exact .inl ⟨T, hT, TyOf.ex' h fun a _ o q => e a o q, hb⟩
  · exact .inr ⟨h.ex e, hb⟩
theorem Kn.row {K : PySem.W.Frag} {H : Hp} {v : V} (h : Kn K H v) : ∃ b, RowB K H v b := by
  rcases h with ⟨T, hT, h⟩ | h
  · exact ⟨_, .inl ⟨T, hT, h, rfl⟩⟩
  · exact ⟨false, .inr ⟨h, rfl⟩⟩
theorem Sq.row {K : PySem.W.Frag} {H : Hp} {v : V} {xs : List V} (h : Sq H v xs) : RowB K H v true := by
  obtain ⟨a, rfl, h | h⟩ := h
  · exact .inl ⟨"list", by decide, .lst h, rfl⟩
  · exact .inl ⟨"tuple", by decide, .tup h, rfl⟩
theorem row_kit : ∀ T ∈ tys, kitR T "list" = (T == "list") ∧ kitR T "tuple" = (T == "tuple") := by decide
def spRow (K : PySem.W.Frag) : Sp := sp1 fun v H Q _ => ∃ b, RowB K H v b ∧ ∀ H', Ex H H' → Q (.bl b) H'
theorem ok_is_row {P : Program} {w : World} {K : PySem.W.Frag} {mg : Str → Option Value} {base : Heap} (T : Txt K mg) : ∃ fd, FnOk P w K mg base (L2.CX P w) 1 (He.ga K "is_row") fd ["value"] (spRow K) ∧ Binds K fd ["value"] [] := by
  obtain ⟨fd, F⟩ := T.d_is_row
  refine ⟨fd, F.ok sc_is_row sp1_len (fun cdv A outer s H vs Q E hr h => ?_), F.bindsN fun _ _ _ _ _ _ us hl => match us, hl with | [_], _ => rfl⟩
  obtain ⟨v, rfl, b, hv, k⟩ := sp1_is h
  refine ⟨_, (pss_one (ps_ret (pe_callB call_isiT (by rfl) T.b_isinstance (by decide +kernel) (pa_cons (pv 0) (pa_cons (pe_tup (pa_cons (pe_bltn (v := .ty "list") (by rfl) T.b_list (by decide +kernel) rfl) (pa_cons (pe_bltn (v := .ty "tuple") (by rfl) T.b_tuple (by decide +kernel) rfl) pa_nil))) pa_nil))))), ?_⟩
  walk_at "rd"
  refine r_newT (sz_le (by simp)) fun t H1 _ e1 h1 => ?_
  have hv1 := hv.ex e1
  have any : ∃ t, TyX K H1 v t ∧ PySem.W.kitAny K t [.type "list", .type "tuple"] = some b := by
    rcases hv1 with ⟨T1, hT, hy, rfl⟩ | ⟨⟨a, C, dx, fs, rfl, hC, ha⟩, rfl⟩
    · refine ⟨_, .base hy, ?_⟩
      have k1 := kit_ty (K := K) (kit_all T1 hT "list" (by decide))
      have k2 := kit_ty (K := K) (kit_all T1 hT "tuple" (by decide))
      obtain ⟨r1, r2⟩ := row_kit T1 hT
      rw [r1] at k1
      rw [r2] at k2
      unfold PySem.W.kitAny
      rw [k1]
      cases T1 == "list" with
      | true => rfl
      | false =>
        show PySem.W.kitAny K _ [_] = _
        unfold PySem.W.kitAny
        rw [k2]
        cases T1 == "tuple" <;> rfl
    · refine ⟨_, ty_own T hC ha, ?_⟩
      have k1 := ((own_facts T hC).2.ty "list" (by decide)).2.1
      have k2 := ((own_facts T hC).2.ty "tuple" (by decide)).2.1
      unfold PySem.W.kitAny
      rw [k1]
      show PySem.W.kitAny K _ [_] = _
      unfold PySem.W.kitAny
      rw [k2]
      rfl
  obtain ⟨t0, ty, ka⟩ := any
  exact ⟨v, t, _, t0, _, b, rfl, h1, .cons (.ty "list") (.cons (.ty "tuple") .nil), ty, ka, k H1 e1⟩
theorem getD_map {α : Type} (xs : List V) (f : V → α) : ((List.range xs.length).map fun j => f (xs.getD j .non)) = xs.map f := by
  refine List.ext_getElem (by simp) fun i h1 h2 => ?_
  simp at h1
  simp [h1]
def spInts (K : PySem.W.Frag) : Sp := sp1 fun v H Q _ => (∃ xs, Sq H v xs ∧ xs.length ≤ 50000 ∧ (∀ x ∈ xs, Kn K H x) ∧ ∀ H', Ex H H' → Q (.bl (xs.all isI)) H') ∨ (RowB K H v false ∧ ∀ H', Ex H H' → Q (.bl false) H')
theorem ok_are_integers {P : Program} {w : World} {K : PySem.W.Frag} {mg : Str → Option Value} {base : Heap} (T : Txt K mg) : ∃ fd, FnOk P w K mg base (L2.CX P w) 2 (He.ga K "are_integers") fd ["value"] (spInts K) ∧ Binds K fd ["value"] [] ∧ KBn K fd ["value"] 0 ["value"] (pm [0]) (pm [0]) := by
  obtain ⟨fd, F⟩ := T.d_are_integers
  obtain ⟨fd_is_integer, F_is_integer, B_is_integer, kb_is_integer_0⟩ := ok_is_integer (P := P) (w := w) (base := base) T
  obtain ⟨fd_is_row, F_is_row, B_is_row⟩ := ok_is_row (P := P) (w := w) (base := base) T
  refine ⟨fd, F.ok sc_are_integers sp1_len (fun cdv A outer s H vs Q E hr h => ?_), F.bindsN fun _ _ _ _ _ _ us hl => match us, hl with | [_], _ => rfl, kb_of F 0 ["value"] [0] (fun _ _ _ _ _ _ us ws h1 h2 => match us, ws, h1, h2 with | [], [_], _, _ => rfl)⟩
  have hr_is_integer : Room 1 _ := hr.mono (by decide)
  have hr_is_row : Room 1 _ := hr.mono (by decide)
  obtain ⟨v, rfl, hh⟩ := sp1_is h
  refine ⟨_, (pss_one (ps_ret (pe_and (pe_call F_is_row hr_is_row (by rfl) T.g_is_row T.k_is_row B_is_row .nil passL (pa_cons (pv 0) pa_nil)) (pe_one (pe_callB (cr_all rfl) (by rfl) T.b_all (by decide +kernel) (pa_cons (pe_lc (own := [("each", 1)]) (g := gName 1) (tt := tYes)  rfl sc_are_integers.nd (pi_seq (pv 0)) (blkOk_by (own := [("each", 1)]) (N := ["value", "each"]) (sc := defScope s_are_integers) (by decide +kernel)) (fun _ _ _ _ _ => (pg_name (i := 1) sc_are_integers.nd rfl (Or.inl rfl))) (fun _ _ _ _ _ => pts_nil) (fun _ _ _ _ _ => (pe_call F_is_integer hr_is_integer (by rfl) T.g_is_integer T.k_is_integer B_is_integer .nil passL (pa_cons (pv 1) pa_nil)))) pa_nil)))))), ?_⟩
  walk_at "rd"
  rcases hh with ⟨xs, hs, hl, hk, k⟩ | ⟨hr, k⟩
  · refine ⟨true, hs.row, fun H1 e1 => ?_⟩
    walk_at "rd"
    refine ite_t rfl ?_
    walk_at "rd"
    have go : ∀ {J : It} {a : Addr} {G : Hp → Prop}, v = .ref a → Walk J xs.length G (YAt xs) → (∀ H', Ex H1 H' → G H') → lcB J (gName 1) tYes (tCall (spIsInt K) [] E0 (tCons (tVar 1) tNil)) [1] [some v, none] (fun x H2 => rAll K [x] H2 Q) H1 := by
      intro J a G ev w hG
      refine r_lcM w (fun j => .bl (isI (xs.getD j .non))) hl hG (fun _ => rfl) ?_ ?_
      · rintro j y H0 H' hj e0 ⟨rfl, hy⟩
        refine ⟨Ex.refl _, fun H3 e3 R r => ?_⟩
        have : y = xs.getD j .non := by
          rw [List.getD_eq_getElem?_getD, hy]
          rfl
        subst this
        walk_at "rd"
        exact ⟨((hk _ (List.mem_of_getElem? hy)).ex (e1.trans (e0.trans e3))), r H3 (Ex.refl _)⟩
      · intro p H' hp e h'
        rw [getD_map xs fun x => V.bl (isI x)] at h'
        refine ⟨p, xs.map isI, rfl, SqL.of (by rw [List.map_map]; exact h'), ?_⟩
        have e : (xs.map isI).all id = xs.all isI := by rw [List.all_map]; rfl
        rw [e]
        exact k H' (e1.trans ‹Ex H1 H'›)
    obtain ⟨a, rfl, ha | ha⟩ := hs.ex e1
    · refine ⟨_, rfl, ?_⟩
      exact ⟨a, rfl, .inl ⟨⟨_, SqL.of ha⟩, go rfl walk_list fun H' e => SqL.of (e _ _ ha)⟩⟩
    · refine ⟨_, rfl, ?_⟩
      exact ⟨a, rfl, .inr ⟨⟨_, SqT.of ha⟩, go rfl walk_tup fun H' e => SqT.of (e _ _ ha)⟩⟩
  · refine ⟨false, hr, fun H1 e1 => ?_⟩
    walk_at "rd"
    exact ite_f rfl (k H1 e1)

theorem ints_kn {K : PySem.W.Frag} {H : Hp} {ns : List Int} : ∀ x ∈ ns.map V.int, Kn K H x := fun x hx => by
  obtain ⟨i, _, rfl⟩ := List.mem_map.mp hx
  exact kn_int i
theorem int_at {ns : List Int} {i : Nat} {x : V} (hx : (ns.map V.int)[i]? = some x) : ∃ n, ns[i]? = some n ∧ x = .int n := by
  rw [List.getElem?_map] at hx
  cases q : ns[i]? with
  | none => rw [q] at hx; cases hx
  | some n => rw [q] at hx; exact ⟨n, rfl, (Option.some.inj hx).symm⟩
theorem ints_all (ns : List Int) : (ns.map V.int).all isI = true := by rw [List.all_map]; exact List.all_eq_true.mpr fun _ _ => rfl
/-- no row of integers -/
def BadRow (K : PySem.W.Frag) (H : Hp) (v : V) : Prop := (∃ xs, Sq H v xs ∧ xs.length ≤ 50000 ∧ (∀ x ∈ xs, Kn K H x) ∧ xs.all isI = false) ∨ RowB K H v false
def spNeedInts (K : PySem.W.Frag) : Sp := sp2 fun v z H Q E => ∃ s, z = .str s ∧ ((∃ ns : List Int, Sq H v (ns.map V.int) ∧ ns.length ≤ 50000 ∧ ∀ a H', Ex H H' → H' a = some (.tup (ns.map V.int)) → Q (.ref a) H') ∨ (BadRow K H v ∧ Raised K "BadNumber" "part" (.str s) H E))
theorem ok_need_integers {P : Program} {w : World} {K : PySem.W.Frag} {mg : Str → Option Value} {base : Heap} (T : Txt K mg) : ∃ fd, FnOk P w K mg base (L2.CX P w) 3 (He.ga K "need_integers") fd ["value", "part"] (spNeedInts K) ∧ Binds K fd ["value", "part"] [] := by
  obtain ⟨fd, F⟩ := T.d_need_integers
  obtain ⟨fd_are_integers, F_are_integers, B_are_integers, kb_are_integers_0⟩ := ok_are_integers (P := P) (w := w) (base := base) T
  obtain ⟨fd_BadNumber_init, F_BadNumber_init, B_BadNumber_init, kb_BadNumber_init_0⟩ := ok_BadNumber_init (P := P) (w := w) (base := base) T
  refine ⟨fd, F.ok sc_need_integers sp2_len (fun cdv A outer s H vs Q E hr h => ?_), F.bindsN fun _ _ _ _ _ _ us hl => match us, hl with | [_, _], _ => rfl⟩
  have hr_are_integers : Room 2 _ := hr.mono (by decide)
  have hr_BadNumber_init : Room 2 _ := hr.mono (by decide)
  obtain ⟨v, z, rfl, s', rfl, hh⟩ := sp2_is h
  refine ⟨_, (pss_cons (ps_if (pt_not (pt_val (pe_call F_are_integers hr_are_integers (by rfl) T.g_are_integers T.k_are_integers B_are_integers .nil passL (pa_cons (pv 0) pa_nil)))) (pss_one (ps_raise rfl (takes_of rfl rfl rfl rfl) (pmk_oex T.e_BadNumber.o T.e_BadNumber.i T.e_BadNumber.t F_BadNumber_init hr_BadNumber_init B_BadNumber_init .nil passL rfl T.g_BadNumber (pa_cons (pv 1) pa_nil)))) pss_nil)
      (pss_one (ps_ret (pe_callTy (kx_tupOf (K := K) rfl) (by rfl) T.b_tuple (by decide +kernel) (pa_cons (pv 0) pa_nil))))), ?_⟩
  walk_at "rd"
  rcases hh with ⟨ns, hs, hl, k⟩ | ⟨hb, k⟩
  · refine .inl ⟨_, hs, by simpa using hl, ints_kn, fun H1 e1 => ?_⟩
    rw [ints_all]
    walk_at "rd"
    refine ite_f rfl ?_
    walk_at "rd"
    obtain ⟨b, rfl, hb⟩ := hs.ex e1
    rcases hb with hb | hb
    · exact ⟨b, _, rfl, .inl ⟨SqL.of hb, fun l hl => k l _ (e1.trans (Ex.new hl)) upd_same⟩⟩
    · exact ⟨b, _, rfl, .inr ⟨SqT.of hb, k b H1 e1 hb⟩⟩
  · rcases hb with ⟨xs, hs, hl, hk, hf⟩ | hr
    · refine .inl ⟨_, hs, hl, hk, fun H1 e1 => ?_⟩
      rw [hf]
      walk_at "rd"
      refine ite_t rfl ?_
      exact ⟨_, rfl, r_err T.e_BadNumber.o (T.e_BadNumber.no_ _ (by simp)) rfl (k.ex e1)⟩
    · refine .inr ⟨hr, fun H1 e1 => ?_⟩
      walk_at "rd"
      refine ite_t rfl ?_
      exact ⟨_, rfl, r_err T.e_BadNumber.o (T.e_BadNumber.no_ _ (by simp)) rfl (k.ex e1)⟩
def gcdL (ns : List Int) : Int := ns.foldl (fun d v => ((Nat.gcd d.natAbs v.natAbs : Nat) : Int)) 0
theorem foldl_take {α β : Type} (f : β → α → β) (b : β) (l : List α) {i : Nat} {a : α} (h : l[i]? = some a) : (l.take (i + 1)).foldl f b = f ((l.take i).foldl f b) a := by
  rw [List.take_add_one, h, List.foldl_append]
  rfl
def spCommon (K : PySem.W.Frag) : Sp := sp1 fun v H Q E => (∃ ns : List Int, Sq H v (ns.map V.int) ∧ ns.length ≤ 50000 ∧ ∀ H', Ex H H' → Q (.int (gcdL ns)) H') ∨ (BadRow K H v ∧ Raised K "BadNumber" "part" (.str "values") H E)
theorem ok_common_divisor {P : Program} {w : World} {K : PySem.W.Frag} {mg : Str → Option Value} {base : Heap} (T : Txt K mg) : ∃ fd, FnOk P w K mg base (L2.CX P w) 4 (He.ga K "common_divisor") fd ["values"] (spCommon K) ∧ Binds K fd ["values"] [] ∧ KBn K fd ["values"] 0 ["values"] (pm [0]) (pm [0]) := by
  obtain ⟨fd, F⟩ := T.d_common_divisor
  obtain ⟨fd_need_integers, F_need_integers, B_need_integers⟩ := ok_need_integers (P := P) (w := w) (base := base) T
  refine ⟨fd, F.ok sc_common_divisor sp1_len (fun cdv A outer s H vs Q E hr h => ?_), F.bindsN fun _ _ _ _ _ _ us hl => match us, hl with | [_], _ => rfl, kb_of F 0 ["values"] [0] (fun _ _ _ _ _ _ us ws h1 h2 => match us, ws, h1, h2 with | [], [_], _, _ => rfl)⟩
  have hr_need_integers : Room 3 _ := hr.mono (by decide)
  obtain ⟨v, rfl, hh⟩ := sp1_is h
  refine ⟨_, (pss_cons (ps_set (i := 1) sc_common_divisor.nd rfl (Or.inl rfl) pe_int)
      (pss_cons (ps_for (passes_of rfl) rfl (pi_tup (pe_call F_need_integers hr_need_integers (by rfl) T.g_need_integers T.k_need_integers B_need_integers .nil (passes_call (takes_of rfl rfl rfl rfl) (fun _ _ _ _ h => h)) (pa_cons (pv 0) (pa_cons pe_str pa_nil)))) (pg_name (i := 2) sc_common_divisor.nd rfl (Or.inl rfl)) (pss_one (ps_set (i := 1) sc_common_divisor.nd rfl (Or.inl rfl) (pe_callBfun cr_gcd (by rfl) T.i_gcd (pa_cons (pv 1) (pa_cons (pv 2) pa_nil))))))
      (pss_one (ps_ret (pv 1))))), ?_⟩
  walk_at "rd"
  refine ⟨_, rfl, ?_⟩
  rcases hh with ⟨ns, hs, hl, k⟩ | ⟨hb, k⟩
  · refine .inl ⟨ns, hs, hl, fun a H1 e1 ha1 => ?_⟩
    refine ⟨a, rfl, ⟨_, SqT.of ha1⟩, ?_⟩
    refine for_of (walk_tup (xs := ns.map V.int)) (fun i σ H => H = H1 ∧ ∃ x, σ = [some v, some (.int ((ns.take i).foldl (fun d v => ((Nat.gcd d.natAbs v.natAbs : Nat) : Int)) 0)), x]) ⟨rfl, none, rfl⟩ (fun i σ H _ p => by rw [p.1]; exact SqT.of ha1) ?_ ?_
    · rintro i x σ H2 H' hi ⟨rfl, y, rfl⟩ ⟨rfl, hx⟩
      obtain ⟨n, hn, rfl⟩ := int_at hx
      walk_at "rd"
      refine ⟨_, _, rfl, ?_⟩
      refine ⟨rfl, some (.int n), ?_⟩
      rw [foldl_take _ _ _ hn]
      rfl
    · rintro σ H2 ⟨rfl, y, rfl⟩
      walk_at "rd"
      rw [List.length_map, List.take_length]
      exact k _ e1
  · exact .inr ⟨hb, k⟩
def spRoot (K : PySem.W.Frag) : Sp := sp1 fun v H Q E => Kn K H v ∧ ((∃ n r : Nat, v = .int n ∧ n.log2 < 13000 ∧ r * r ≤ n ∧ n < (r + 1) * (r + 1) ∧ Q (.int r) H) ∨ (inB v (some 0) none = false ∧ Raised K "BadNumber" "part" (.str "number") H E))
theorem ok_whole_root {P : Program} {w : World} {K : PySem.W.Frag} {mg : Str → Option Value} {base : Heap} (T : Txt K mg) : ∃ fd, FnOk P w K mg base (L2.CX P w) 4 (He.ga K "whole_root") fd ["number"] (spRoot K) ∧ Binds K fd ["number"] [] ∧ KBn K fd ["number"] 0 ["number"] (pm [0]) (pm [0]) := by
  obtain ⟨fd, F⟩ := T.d_whole_root
  obtain ⟨fd_need_integer, F_need_integer, B_need_integer⟩ := ok_need_integer (P := P) (w := w) (base := base) T
  refine ⟨fd, F.ok sc_whole_root sp1_len (fun cdv A outer s H vs Q E hr h => ?_), F.bindsN fun _ _ _ _ _ _ us hl => match us, hl with | [_], _ => rfl, kb_of F 0 ["number"] [0] (fun _ _ _ _ _ _ us ws h1 h2 => match us, ws, h1, h2 with | [], [_], _, _ => rfl)⟩
  have hr_need_integer : Room 3 _ := hr.mono (by decide)
  obtain ⟨v, rfl, kv, hh⟩ := sp1_is h
  refine ⟨_, (pss_one (ps_ret (pe_callBfun cr_root (by rfl) T.i_isqrt (pa_cons (pe_call F_need_integer hr_need_integer (by rfl) T.g_need_integer T.k_need_integer B_need_integer .nil (passes_call (takes_of rfl rfl rfl rfl) (fun _ _ _ _ h => h)) (pa_cons (pv 0) (pa_cons pe_str (pa_cons pe_int (pa_cons pe_non pa_nil))))) pa_nil)))), ?_⟩
  walk_at "rd"
  refine ⟨kv, some 0, none, _, rfl, rfl, rfl, ?_, ?_⟩
  · intro hv
    rcases hh with ⟨n, r, rfl, hn, h1, h2, q⟩ | ⟨hf, _⟩
    · exact ⟨_, rfl, by omega, by simpa using hn, fun r' h3 h4 => by
        have : r' = r := by
          have a1 : r' ≤ r := by
            rcases Nat.lt_or_ge r r' with z | z
            · have : (r + 1) * (r + 1) ≤ r' * r' := Nat.mul_le_mul z z
              simp at h3
              omega
            · exact z
          have a2 : r ≤ r' := by
            rcases Nat.lt_or_ge r' r with z | z
            · have : (r' + 1) * (r' + 1) ≤ r * r := Nat.mul_le_mul z z
              simp at h4
              omega
            · exact z
          omega
        subst this
        exact q⟩
    · rw [hf] at hv; cases hv
  · intro hv
    rcases hh with ⟨n, r, rfl, hn, h1, h2, q⟩ | ⟨hf, k⟩
    · simp [inB, loB, upB] at hv
    · exact k

end K00
namespace K00
open PySem PySem.Spec PyProof.Rows L2 GS TL LamX
local macro_rules | `(tactic| walk_at "rd") => `(tactic| (repeat (first
  | with_reducible refine r_next ?_
  | with_reducible refine r_seq ?_
  | with_reducible refine r_ret ?_
  | with_reducible refine r_ifS ?_
  | with_reducible refine r_asg ?_
  | with_reducible refine r_drop ?_
  | with_reducible refine r_op ?_
  | with_reducible refine r_un ?_
  | with_reducible refine r_cbInt ?_
  | with_reducible refine r_cbAbs ?_
  | with_reducible refine r_cbLen ?_
  | with_reducible refine r_cbList ?_
  | with_reducible refine r_cbTup ?_
  | with_reducible refine r_iEnT ?_
  | with_reducible refine r_iEnL ?_
  | with_reducible refine r_zipA ?_
  | with_reducible refine r_zipX ?_
  | with_reducible refine r_augS ?_
  | with_reducible refine r_cb ?_
  | with_reducible refine r_call ?_
  | with_reducible refine r_make ?_
  | with_reducible refine r_callN0 ?_
  | with_reducible refine r_makeK0 ?_
  | with_reducible refine r_makeS ?_
  | with_reducible refine r_callS ?_
  | with_reducible refine r_cons ?_
  | with_reducible refine r_nil ?_
  | with_reducible refine r_test ?_
  | with_reducible refine r_B ?_
  | with_reducible refine r_and ?_
  | with_reducible refine r_or ?_
  | with_reducible refine r_not ?_
  | with_reducible refine r_andV ?_
  | with_reducible refine r_orV ?_
  | with_reducible refine r_notV ?_
  | with_reducible refine r_if ?_
  | with_reducible refine r_tup ?_
  | with_reducible refine r_lst ?_
  | with_reducible refine r_c ?_
  | with_reducible refine r_lc ?_
  | with_reducible refine r_chain ?_
  | with_reducible refine r_iT ?_
  | with_reducible refine r_iL ?_
  | with_reducible refine r_iR1 ?_
  | with_reducible refine r_iR2 ?_
  | with_reducible refine r_iR3 ?_
  | with_reducible refine r_asgG ?_
  | with_reducible refine r_gSub ?_
  | with_reducible refine r_for ?_
  | with_reducible refine r_smeth ?_
  | with_reducible refine r_par ?_
  | with_reducible refine r_parK ?_
  | with_reducible refine r_gCons ?_
  | with_reducible refine r_gNil ?_
  | with_reducible refine r_gName ?_
  | with_reducible refine r_intI ?_
  | with_reducible refine r_intB ?_
  | with_reducible refine r_absI ?_
  | with_reducible refine r_k ?_
  | with_reducible refine r_kV ?_
  | ((with_reducible show tVar _ _ _ _); refine r_var3 ?_ (by rfl))
  | with_reducible refine r_I0 ?_
  | with_reducible refine r_U ?_
  | with_reducible refine r_eqI ?_
  | with_reducible refine r_neI ?_
  | with_reducible refine r_F ?_
  | dsimp only)))
local macro_rules | `(tactic| walk_at "rx") => `(tactic| (repeat (first
  | with_reducible refine r_next ?_
  | with_reducible refine r_ret ?_
  | with_reducible refine r_ifS ?_
  | with_reducible refine r_asg ?_
  | with_reducible refine r_drop ?_
  | with_reducible refine r_op ?_
  | with_reducible refine r_un ?_
  | with_reducible refine r_cbInt ?_
  | with_reducible refine r_cbAbs ?_
  | with_reducible refine r_cbLen ?_
  | with_reducible refine r_cbList ?_
  | with_reducible refine r_cbTup ?_
  | with_reducible refine r_iEnT ?_
  | with_reducible refine r_iEnL ?_
  | with_reducible refine r_zipA ?_
  | with_reducible refine r_zipX ?_
  | with_reducible refine r_augS ?_
  | with_reducible refine r_cb ?_
  | with_reducible refine r_call ?_
  | with_reducible refine r_make ?_
  | with_reducible refine r_callN0 ?_
  | with_reducible refine r_makeK0 ?_
  | with_reducible refine r_makeS ?_
  | with_reducible refine r_callS ?_
  | with_reducible refine r_cons ?_
  | with_reducible refine r_nil ?_
  | with_reducible refine r_test ?_
  | with_reducible refine r_B ?_
  | with_reducible refine r_and ?_
  | with_reducible refine r_or ?_
  | with_reducible refine r_not ?_
  | with_reducible refine r_andV ?_
  | with_reducible refine r_orV ?_
  | with_reducible refine r_notV ?_
  | with_reducible refine r_if ?_
  | with_reducible refine r_tup ?_
  | with_reducible refine r_lst ?_
  | with_reducible refine r_c ?_
  | with_reducible refine r_lc ?_
  | with_reducible refine r_chain ?_
  | with_reducible refine r_iT ?_
  | with_reducible refine r_iL ?_
  | with_reducible refine r_iR1 ?_
  | with_reducible refine r_iR2 ?_
  | with_reducible refine r_iR3 ?_
  | with_reducible refine r_asgG ?_
  | with_reducible refine r_gSub ?_
  | with_reducible refine r_for ?_
  | with_reducible refine r_smeth ?_
  | with_reducible refine r_par ?_
  | with_reducible refine r_parK ?_
  | with_reducible refine r_gCons ?_
  | with_reducible refine r_gNil ?_
  | with_reducible refine r_gName ?_
  | with_reducible refine r_intI ?_
  | with_reducible refine r_intB ?_
  | with_reducible refine r_absI ?_
  | with_reducible refine r_k ?_
  | with_reducible refine r_kV ?_
  | ((with_reducible show tVar _ _ _ _); refine r_var3 ?_ (by rfl))
  | with_reducible refine r_I0 ?_
  | with_reducible refine r_U ?_
  | with_reducible refine r_eqI ?_
  | with_reducible refine r_neI ?_
  | with_reducible refine r_F ?_
  | dsimp only)))
theorem Z.small {i : Int} (h : i.natAbs < 10000000000) : Z 34 i := Nat.lt_trans h (by decide)
theorem pow1018 : (10 : Int) ^ (18 : Int).toNat = 1000000000000000000 := rfl
theorem p10 (k : Nat) (h : k ≤ 100000) : CPowW 10 (k : Int) := cpow_of (n := 4) (k := k) (by decide) (by omega)
/-! ### the bag -/
def spBag (K : PySem.W.Frag) : Sp := sp1 fun v H Q _ => ∃ (L : Addr) (xs : List Int), v = .ref L ∧ SqL K H L (xs.map V.int) ∧ (∀ x ∈ xs, Z 2000000 x) ∧ ∀ b H', Ex H H' → H b = none → Bag H' b 0 → Q (.ref b) H'
theorem cut_map (xs : List Int) (n : Nat) : cutV (xs.map V.int) none (some (n : Int)) = (xs.take n).map V.int := by
  unfold cutV
  rw [HT.sIx_none, HT.sIx_nat, List.drop_zero, List.length_map, Nat.sub_zero, List.map_take]
  by_cases c : n ≤ xs.length
  · rw [Nat.min_eq_left c]
  · rw [Nat.min_eq_right (by omega), List.take_of_length_le (by simp), List.take_of_length_le (by simp; omega)]
theorem range_map (xs : List Int) : ((List.range xs.length).map fun j => V.int (xs.getD j 0)) = xs.map V.int := by
  refine List.ext_getElem (by simp) fun i h1 h2 => ?_
  simp at h1
  simp [h1]
theorem ok__law_ark {P : Program} {w : World} {K : PySem.W.Frag} {mg : Str → Option Value} {base : Heap} (T : Txt K mg) : ∃ fd, FnOk P w K mg base (L2.CX P w) 1 (He.ga K "_law_ark") fd ["script"] (spBag K) ∧ Binds K fd ["script"] [] := by
  obtain ⟨fd, F⟩ := T.d__law_ark
  refine ⟨fd, F.ok sc__law_ark sp1_len (fun cdv A outer s H vs Q E hr h => ?_), F.bindsN fun _ _ _ _ _ _ us hl => match us, hl with | [_], _ => rfl⟩
  obtain ⟨v, rfl, L, xs, rfl, hL, hz, k⟩ := sp1_is h
  refine ⟨_, (pss_one (ps_ret (pe_lst (pa_cons (pe_lc (own := [("cell", 1)]) (g := gName 1) (tt := tYes)  rfl sc__law_ark.nd (pi_list (pe_slice sl_list (pv 0) po_none (po_some pe_int))) (blkOk_by (own := [("cell", 1)]) (N := ["script", "cell"]) (sc := defScope s__law_ark) (by decide +kernel)) (fun _ _ _ _ _ => (pg_name (i := 1) sc__law_ark.nd rfl (Or.inl rfl))) (fun _ _ _ _ _ => pts_nil) (fun _ _ _ _ _ => (pe_callTy call_int1 (by rfl) T.b_int (by decide +kernel) (pa_cons (pv 1) pa_nil)))) (pa_cons pe_int (pa_cons pe_int pa_nil)))))), ?_⟩
  walk_at "rd"
  refine ⟨V.ref L, rfl, 60, rfl, L, _, rfl, hL, fun p hp => ⟨p, rfl, ⟨_, SqL.of upd_same⟩, ?_⟩⟩
  rw [show (60 : Int) = ((60 : Nat) : Int) from rfl, cut_map]
  have hn : (xs.take 60).length ≤ 60 := by rw [List.length_take]; omega
  have e0 : Ex H (upd H p (.lst ((xs.take 60).map V.int))) := Ex.new hp
  have h0 : (upd H p (.lst ((xs.take 60).map V.int))) p = some (.lst ((xs.take 60).map V.int)) := upd_same
  generalize upd H p (.lst ((xs.take 60).map V.int)) = H0 at e0 h0 ⊢
  generalize hy : xs.take 60 = ys at hn h0
  refine r_lcM (n := ys.length) (k := 1) (by simpa using walk_list (xs := ys.map V.int)) (fun j => .int (ys.getD j 0)) (by omega) (fun H' e => SqL.of (e _ _ h0)) (fun _ => rfl) ?_ ?_
  · rintro j y H1 H' hj e1 ⟨rfl, hy⟩
    refine ⟨Ex.refl _, fun H3 e3 R r => ?_⟩
    have : y = .int (ys.getD j 0) := by
      have := hy
      rw [List.getElem?_map] at this
      rw [List.getD_eq_getElem?_getD]
      cases q : ys[j]? with
      | none => rw [q] at this; cases this
      | some a => rw [q] at this; exact (Option.some.inj this).symm
    subst this
    walk_at "rd"
    exact r H3 (Ex.refl _)
  · intro q H2 hq e2 hl
    rw [range_map] at hl
    walk_at "rd"
    refine r_newL (sz_le (by simp)) fun b H3 hb e3 h3 => ?_
    have hbH : H b = none := (e0.trans e2).free hb
    refine k b H3 ((e0.trans e2).trans e3) hbH ⟨q, ys, 0, 0, h3, e3 _ _ hl, ?_, Int.le_refl _, Int.le_refl _, Int.le_refl _, (by omega), fun x hx => hz x ?_⟩
    · exact ne_of_none hl hb
    · rw [← hy] at hx
      exact List.mem_of_mem_take hx
theorem ok__law_haul {P : Program} {w : World} {K : PySem.W.Frag} {mg : Str → Option Value} {base : Heap} (T : Txt K mg) : ∃ fd, FnOk P w K mg base (L2.CX P w) 1 (He.ga K "_law_haul") fd ["ark", "many"] (spDrawG) ∧ Binds K fd ["ark", "many"] [] := by
  obtain ⟨fd, F⟩ := T.d__law_haul
  refine ⟨fd, F.ok sc__law_haul sp2_len (fun cdv A outer s H vs Q E hr h => ?_), F.bindsN fun _ _ _ _ _ _ us hl => match us, hl with | [_, _], _ => rfl⟩
  obtain ⟨b0, m0, rfl, b, m, n, rfl, rfl, m1, mz, hn, hbag, k⟩ := sp2_is h
  refine ⟨_, (pss_cons (ps_if (pt_cmpR op_gt (pe_ix (kx_ixl rfl) (pv 0) pe_int (fun _ _ => rfl)) pe_int (nomark _)) (pss_cons (ps_set (i := 2) sc__law_haul.nd rfl (Or.inl rfl) (pe_callTy call_int1 (by rfl) T.b_int (by decide +kernel) (pa_cons (pe_ix (kx_ixl rfl) (pv 0) pe_int (fun _ _ => rfl)) pa_nil)))
      (pss_cons (ps_asg (pe_op op_fdivW (pv 2) (pv 1)) (pg_sub (pv 0) pe_int set_list))
      (pss_one (ps_ret (pe_op op_mod (pe_callTy call_int1 (by rfl) T.b_int (by decide +kernel) (pa_cons (pv 2) pa_nil)) (pv 1)))))) pss_nil)
      (pss_cons (ps_set (i := 3) sc__law_haul.nd rfl (Or.inl rfl) (pe_ix (kx_ixl rfl) (pv 0) pe_int (fun _ _ => rfl)))
      (pss_cons (ps_asg (pe_op op_add (pv 3) pe_int) (pg_sub (pv 0) pe_int set_list))
      (pss_cons (ps_set (i := 4) sc__law_haul.nd rfl (Or.inl rfl) (pe_op op_add (pe_op op_mulB pe_int (pv 3)) pe_int))
      (pss_cons (ps_if (pt_cmpR (op_neD hr.units) (pe_ix (kx_ixl rfl) (pv 0) pe_int (fun _ _ => rfl)) (pe_lst pa_nil) (nomark _)) (pss_one (ps_set (i := 4) sc__law_haul.nd rfl (Or.inl rfl) (pe_ix (kx_ixl rfl) (pe_ix (kx_ixl rfl) (pv 0) pe_int (fun _ _ => rfl)) (pe_op op_mod (pe_callTy call_int1 (by rfl) T.b_int (by decide +kernel) (pa_cons (pv 3) pa_nil)) (pe_callB (kx_lens rfl) (by rfl) T.b_len PySem.boot_len (pa_cons (pe_ix (kx_ixl rfl) (pv 0) pe_int (fun _ _ => rfl)) pa_nil))) (fun _ _ => rfl)))) pss_nil)
      (pss_cons (ps_if (PW.pt (pw_and (pt_cmpR op_lt (pv 3) (pe_callB (kx_lens rfl) (by rfl) T.b_len PySem.boot_len (pa_cons (pe_ix (kx_ixl rfl) (pv 0) pe_int (fun _ _ => rfl)) pa_nil)) (nomark _)) (pw_and1 (pt_cmpR op_ge (pe_callB call_abs (by rfl) T.b_abs (by decide +kernel) (pa_cons (pv 4) pa_nil)) (pe_op op_powW pe_int pe_int) (nomark _))))) (pss_cons (ps_set (i := 2) sc__law_haul.nd rfl (Or.inl rfl) (pe_op op_add (pe_op op_mulB pe_int (pe_op op_sub (pe_callB call_abs (by rfl) T.b_abs (by decide +kernel) (pa_cons (pe_callTy call_int1 (by rfl) T.b_int (by decide +kernel) (pa_cons (pv 4) pa_nil)) pa_nil)) (pe_op op_powW pe_int pe_int))) (pe_callTy call_int1 (by rfl) T.b_int (by decide +kernel) (pa_cons (pe_cmpR op_lt (pv 4) pe_int (nomark _)) pa_nil))))
      (pss_cons (ps_asg (pe_op op_fdivW (pv 2) (pv 1)) (pg_sub (pv 0) pe_int set_list))
      (pss_one (ps_ret (pe_op op_mod (pe_callTy call_int1 (by rfl) T.b_int (by decide +kernel) (pa_cons (pv 2) pa_nil)) (pv 1)))))) pss_nil)
      (pss_cons (ps_set (i := 5) sc__law_haul.nd rfl (Or.inl rfl) (pe_op op_mod (pe_callTy call_int1 (by rfl) T.b_int (by decide +kernel) (pa_cons (pe_op op_powW (pe_op op_add (pe_op op_add (pe_op op_mod (pe_callTy call_int1 (by rfl) T.b_int (by decide +kernel) (pa_cons (pv 4) pa_nil)) pe_int) (pe_op op_mulB pe_int (pv 3))) pe_int) pe_int) pa_nil)) pe_int))
      (pss_cons (ps_set (i := 5) sc__law_haul.nd rfl (Or.inl rfl) (pe_op op_mod (pe_callTy call_int1 (by rfl) T.b_int (by decide +kernel) (pa_cons (pe_op op_powW (pe_op op_add (pe_op op_add (pe_op op_mulB (pv 5) (pe_op op_add (pe_op op_mulB pe_int (pv 3)) pe_int)) (pe_op op_mulB (pe_op op_mulB pe_int (pv 3)) (pv 3))) pe_int) pe_int) pa_nil)) pe_int))
      (pss_one (ps_ret (pe_op op_mod (pe_callTy call_int1 (by rfl) T.b_int (by decide +kernel) (pa_cons (pe_op op_fdivW (pv 5) pe_int) pa_nil)) (pv 1)))))))))))), ?_⟩
  obtain ⟨L, xs, a, l, hb, hL, hne, ha, han, hl, hx, hz⟩ := hbag.is
  have cd : ∀ i : Int, CDivW i m := fun i => wide_div m1 mz (by decide) (by decide)
  have fin : ∀ (H' : Hp) (x y r : Int), Bu b H H' → H' b = some (.lst [.ref L, .int y, .int x]) → 0 ≤ y → y ≤ n + 1 → 0 ≤ x → 0 ≤ r → r < m → Q (.int r) H' := fun H' x y r hbu hat y0 y1 x0 r0 r1 =>
    k r H' r0 r1 ⟨hbu, fun L' _ _ h => by rw [hb] at h; cases h; exact ⟨_, _, hat⟩⟩ ⟨L, xs, y, x, hat, hbu _ _ hne hL, hne, y0, y1, x0, hx, hz⟩
  have mn : ∀ i : Int, 0 ≤ i % m := fun i => Int.emod_nonneg _ (by omega)
  have ml : ∀ i : Int, i % m < m := fun i => Int.emod_lt_of_pos _ m1
  have dn : ∀ i : Int, 0 ≤ i → 0 ≤ i / m := fun i hi => Int.ediv_nonneg hi (by omega)
  walk_at "rd"
  refine r_ixL hb (v := .int l) rfl ?_
  walk_at "rd"
  by_cases c : 0 < l
  · refine ite_t (decide_eq_true c) ?_
    walk_at "rd"
    refine r_ixL hb (v := .int l) rfl ?_
    walk_at "rd"
    refine r_I (cd l) ?_
    walk_at "rd"
    refine r_setL hb (n := 2) rfl ?_
    walk_at "rd"
    refine r_I m1 ?_
    exact fin _ (l / m) a _ Bu.upd upd_same ha (by omega) (dn l hl) (mn l) (ml l)
  · refine ite_f (decide_eq_false c) ?_
    walk_at "rd"
    refine r_ixL hb (v := .int a) rfl ?_
    walk_at "rd"
    refine r_setL hb (n := 1) rfl ?_
    have za : Z 34 a := Z.small (by omega)
    have hL1 : ∀ o, (upd H b o) L = some (.lst (xs.map V.int)) := fun o => by rw [upd_ne hne]; exact hL
    have hB1 : Bu b H (upd H b (.lst ([V.ref L, .int a, .int l].set 1 (.int (a + 1))))) := Bu.upd
    have hb1 : (upd H b (.lst ([V.ref L, .int a, .int l].set 1 (.int (a + 1))))) b = some (.lst [.ref L, .int (a + 1), .int l]) := upd_same
    have hL1 := hB1 _ _ hne hL
    generalize upd H b _ = H1 at hB1 hb1 hL1 ⊢
    walk_at "rd"
    refine r_I (mulB_of (a := 34) (b := 34) (by decide) za (by decide) (by decide) (by decide)) ?_
    walk_at "rx"
    have z0 : Z 60 (74017 * a + 4111) := by
      unfold Z
      have : (2 : Nat) ^ 60 = 1152921504606846976 := rfl
      omega
    refine r_seqJ (fun σ' H' => ∃ cell, Z 2000000 cell ∧ Ex H1 H' ∧ σ' = [some (.ref b), some (.int m), none, some (.int a), some (.int cell), none]) (fun N hN => ?_) ?_
    · walk_at "rd"
      refine r_ixL hb1 (v := .ref L) rfl ?_
      walk_at "rd"
      refine r_newL (sz_le (by simp)) fun q H2 hq e2 h2 => ?_
      refine r_neInts (xs := xs) (ys := []) (e2 _ _ hL1) h2 ?_
      walk_at "rd"
      by_cases cx : xs = []
      · refine ite_f (by simp [cx]) ?_
        exact hN _ _ ⟨_, z0.mono (by decide), e2, rfl⟩
      · refine ite_t (by simp [cx]) ?_
        walk_at "rd"
        refine r_ixL (e2 _ _ hb1) (v := .ref L) rfl ?_
        walk_at "rd"
        refine r_ixL (e2 _ _ hb1) (v := .ref L) rfl ?_
        walk_at "rd"
        refine r_lenL (e2 _ _ hL1) ?_
        have hpos : 0 < xs.length := List.length_pos_iff.mpr cx
        rw [List.length_map]
        refine r_I (by omega) ?_
        obtain ⟨j, hj⟩ : ∃ j : Nat, a % (xs.length : Int) = (j : Int) := ⟨(a % (xs.length : Int)).toNat, by have := Int.emod_nonneg a (show (xs.length : Int) ≠ 0 by omega); omega⟩
        have hjl : j < xs.length := by have := Int.emod_lt_of_pos a (show (0 : Int) < xs.length by omega); omega
        rw [hj]
        refine r_ixL (e2 _ _ hL1) (v := .int xs[j]) (atI_nat (by rw [List.getElem?_map]; simp [hjl])) ?_
        walk_at "rd"
        exact hN _ _ ⟨xs[j], hz _ (List.getElem_mem hjl), e2, rfl⟩
    · rintro σ' H2 ⟨cell, zc, e2, rfl⟩
      have hb2 := e2 _ _ hb1
      have hL2 := e2 _ _ hL1
      have hB2 : Bu b H H2 := hB1.trans (Bu.of e2)
      refine r_seqJ (fun σ' H' => H' = H2 ∧ σ' = [some (.ref b), some (.int m), none, some (.int a), some (.int cell), none]) (fun N hN => ?_) ?_
      · walk_at "rd"
        refine r_ixL hb2 (v := .ref L) rfl ?_
        walk_at "rd"
        refine r_lenL hL2 ?_
        walk_at "rd"
        refine ite_b (fun _ => ?_) fun _ => ?_
        · walk_at "rd"
          refine r_pow (p10 18 (by decide)) pow1018 ?_
          walk_at "rd"
          refine ite_b (fun c2 => ?_) fun _ => ?_
          · have c3 : (1000000000000000000 : Int) ≤ (if cell < 0 then -cell else cell) := of_decide_eq_true c2
            have zd : Z 2000001 ((if cell < 0 then -cell else cell) - 1000000000000000000) := by
              refine Z.sub ?_ (Z.mono (n := 64) (by unfold Z; decide) (by decide))
              unfold Z at *
              split <;> omega
            walk_at "rd"
            refine r_pow (p10 18 (by decide)) pow1018 ?_
            walk_at "rd"
            refine r_I (mulB_of (i := 2) (a := 2) (by decide) zd (by decide) (by decide) (by decide)) ?_
            walk_at "rd"
            have hl2 : 0 ≤ 2 * ((if cell < 0 then -cell else cell) - 1000000000000000000) + (if decide (cell < 0) = true then 1 else 0) := by split <;> omega
            generalize 2 * ((if cell < 0 then -cell else cell) - 1000000000000000000) + (if decide (cell < 0) = true then 1 else 0) = t at hl2 ⊢
            refine r_I (cd t) ?_
            walk_at "rd"
            refine r_setL hb2 (n := 2) rfl ?_
            walk_at "rd"
            refine r_I m1 ?_
            exact fin _ (t / m) (a + 1) _ (hB2.trans Bu.upd) upd_same (by omega) (by omega) (dn t hl2) (mn t) (ml t)
          · exact hN _ _ ⟨rfl, rfl⟩
        · exact hN _ _ ⟨rfl, rfl⟩
      · rintro σ' H3 ⟨rfl, rfl⟩
        have pm : ∀ (i M : Int), 0 < M → M < 2147483648 → Z 34 (i % M) := fun i M h1 h2 => Z.small (by have := Int.emod_nonneg i (show M ≠ 0 by omega); have := Int.emod_lt_of_pos i h1; omega)
        walk_at "rd"
        refine r_I (by decide) ?_
        walk_at "rd"
        refine r_I (mulB_of (a := 34) (b := 34) (by decide) za (by decide) (by decide) (by decide)) ?_
        walk_at "rd"
        have z1 : Z 70 (cell % 2147483587 + 81017 * a + 4111) := by
          have := pm cell 2147483587 (by decide) (by decide)
          unfold Z at *
          have e1 : (2 : Nat) ^ 70 = 1180591620717411303424 := rfl
          have e2 : (2 : Nat) ^ 34 = 17179869184 := rfl
          omega
        refine r_I (cpow_of (n := 70) (k := 5) z1 (by decide)) ?_
        walk_at "rd"
        refine r_I (by decide) ?_
        walk_at "rd"
        refine r_I (mulB_of (a := 34) (b := 34) (by decide) za (by decide) (by decide) (by decide)) ?_
        walk_at "rd"
        generalize hx1 : (cell % 2147483587 + 81017 * a + 4111) ^ ((5 : Nat) : Int).toNat % 2147483563 = x1
        have zx1 : Z 34 x1 := by rw [← hx1]; exact pm _ _ (by decide) (by decide)
        have z2 : Z 40 (2 * a + 4817) := by
          unfold Z
          have e1 : (2 : Nat) ^ 40 = 1099511627776 := rfl
          omega
        refine r_I (mulB_of zx1 z2 (by decide) (by decide) (by decide)) ?_
        walk_at "rd"
        refine r_I (mulB_of (a := 34) (b := 34) (by decide) za (by decide) (by decide) (by decide)) ?_
        walk_at "rd"
        have z3 : Z 60 (74017 * a) := by
          unfold Z
          have : (2 : Nat) ^ 60 = 1152921504606846976 := rfl
          omega
        refine r_I (mulB_of z3 za (by decide) (by decide) (by decide)) ?_
        walk_at "rd"
        have z4 : Z 120 (x1 * (2 * a + 4817) + 74017 * a * a + 81017) := by
          refine (((zx1.mul z2).mono (m := 100) (by decide)).add ((z3.mul za).mono (m := 100) (by decide))).mono (m := 110) (by decide) |>.add (Z.mono (n := 34) (by unfold Z; decide) (by decide)) |>.mono (by decide)
        refine r_I (cpow_of (n := 120) (k := 3) z4 (by decide)) ?_
        walk_at "rd"
        refine r_I (by decide) ?_
        walk_at "rd"
        refine r_I (wide_div (b := 10) (by decide) (by decide) (by decide) (by decide)) ?_
        walk_at "rd"
        refine r_I m1 ?_
        exact fin _ l (a + 1) _ hB2 hb2 (by omega) (by omega) hl (mn _) (ml _)
/-! ### what is drawn -/
def spPick : Sp := sp2 fun b l H Q _ => ∃ (p : Addr) (n : Int), b = .ref p ∧ n ≤ 100000 ∧ Bag H p n ∧ ((∃ (L : Addr) (xs : List V), l = .ref L ∧ H L = some (.lst xs) ∧ L ≠ p ∧ xs ≠ [] ∧ xs.length ≤ 1000 ∧ ∀ v H', v ∈ xs → Bg p H H' → Bag H' p (n + 1) → Q v H') ∨
  (∃ z : Str, l = .str z ∧ 1 ≤ z.length ∧ z.length ≤ 1000 ∧ ∀ c H', c ∈ z.cps.toList → Bg p H H' → Bag H' p (n + 1) → Q (.str ⟨#[c]⟩) H'))
theorem ok__law_fish {P : Program} {w : World} {K : PySem.W.Frag} {mg : Str → Option Value} {base : Heap} (T : Txt K mg) : ∃ fd, FnOk P w K mg base (L2.CX P w) 2 (He.ga K "_law_fish") fd ["ark", "some"] (spPick) ∧ Binds K fd ["ark", "some"] [] := by
  obtain ⟨fd, F⟩ := T.d__law_fish
  obtain ⟨fd__law_haul, F__law_haul, B__law_haul⟩ := ok__law_haul (P := P) (w := w) (base := base) T
  refine ⟨fd, F.ok sc__law_fish sp2_len (fun cdv A outer s H vs Q E hr h => ?_), F.bindsN fun _ _ _ _ _ _ us hl => match us, hl with | [_, _], _ => rfl⟩
  have hr__law_haul : Room 1 _ := hr.mono (by decide)
  obtain ⟨b0, l0, rfl, p, n, rfl, hn, hb, hh⟩ := sp2_is h
  refine ⟨_, (pss_one (ps_ret (pe_two (pe_ix (kx_ixl rfl) (pv 1) (pe_call F__law_haul hr__law_haul (by rfl) T.g__law_haul T.k__law_haul B__law_haul .nil passL (pa_cons (pv 0) (pa_cons (pe_callB (kx_lens rfl) (by rfl) T.b_len PySem.boot_len (pa_cons (pv 1) pa_nil)) pa_nil))) (fun _ _ => rfl)) (pe_ix ix_str (pv 1) (pe_call F__law_haul hr__law_haul (by rfl) T.g__law_haul T.k__law_haul B__law_haul .nil passL (pa_cons (pv 0) (pa_cons (pe_callB call_len_str (by rfl) T.b_len PySem.boot_len (pa_cons (pv 1) pa_nil)) pa_nil))) (fun _ _ => rfl))))), ?_⟩
  walk_at "rd"
  rcases hh with ⟨L, xs, rfl, hL, hne, hx, hl, k⟩ | ⟨z, rfl, h1, hl, k⟩
  · refine .inl ?_
    walk_at "rd"
    refine r_lenL hL ?_
    walk_at "rd"
    have h0 : 0 < xs.length := List.length_pos_iff.mpr hx
    refine r_DrawG hb hn (by omega) (Z.mono (n := 34) (Z.small (by omega)) (by decide)) fun r H' r0 r1 bu hb' => ?_
    walk_at "rd"
    have hj : r.toNat < xs.length := by omega
    have er : r = (r.toNat : Int) := by omega
    rw [er]
    refine r_ixL (bu.at_ hne hL) (v := xs[r.toNat]) (atI_nat (by simp [hj])) ?_
    exact k _ H' (List.getElem_mem hj) bu hb'
  · refine .inr ?_
    walk_at "rd"
    refine ⟨_, rfl, by rw [sizeLine_eq]; omega, ?_⟩
    walk_at "rd"
    refine r_DrawG hb hn (by omega) (Z.mono (n := 34) (Z.small (by omega)) (by decide)) fun r H' r0 r1 bu hb' => ?_
    walk_at "rd"
    have hj : r.toNat < z.cps.toList.length := by
      have : z.length = z.cps.toList.length := by simp [Str.length]
      omega
    have er : r = (r.toNat : Int) := by omega
    rw [er]
    refine ⟨z, _, z.cps.toList[r.toNat], rfl, rfl, by rw [sizeLine_eq]; omega, atI_nat (List.getElem?_eq_getElem hj), ?_⟩
    exact k _ H' (List.getElem_mem hj) bu hb'
/-- one of a list that was just laid -/
theorem r_One {H H0 : Hp} {Q : VK} {E : XK} {p L : Addr} {n : Int} {xs : List V} (hb : Bag H p n) (hL : H L = some (.lst xs)) (no : ∀ l x y, HO.lst xs ≠ .lst [.ref l, .int x, .int y]) (hx : xs ≠ []) (hl : xs.length ≤ 1000) (hn : n ≤ 100000) (k : ∀ v H', v ∈ xs → Bg p H H' → Bag H' p (n + 1) → Q v H') : spPick ([.ref p, .ref L] ++ []) H Q E :=
  ⟨p, n, rfl, hn, hb, .inl ⟨L, xs, rfl, hL, hb.ne hL no, hx, hl, k⟩⟩
theorem zsm {i : Int} (h : i.natAbs < 10000000000) : Z 1000 i := Z.mono (n := 34) (Z.small h) (by decide)
theorem Bg.free {p D : Addr} {H H' : Hp} {n : Int} (g : Bg p H H') (hb : Bag H p n) (hD : H' D = none) : H D = none := by
  cases e : H D with
  | none => rfl
  | some o =>
    have np : D ≠ p := by
      rintro rfl
      obtain ⟨L, xs, x, y, h1, _⟩ := hb.is
      obtain ⟨x', y', h'⟩ := g.2 L _ _ h1
      rw [hD] at h'
      cases h'
    rw [g.at_ np e] at hD
    cases hD

end K00
namespace K00
open PySem PySem.Spec PyProof.Rows L2 GS TL LamX
local macro_rules | `(tactic| walk_at "rd") => `(tactic| (repeat (first
  | with_reducible refine r_next ?_
  | with_reducible refine r_seq ?_
  | with_reducible refine r_ret ?_
  | with_reducible refine r_ifS ?_
  | with_reducible refine r_asg ?_
  | with_reducible refine r_drop ?_
  | with_reducible refine r_op ?_
  | with_reducible refine r_un ?_
  | with_reducible refine r_cbInt ?_
  | with_reducible refine r_cbAbs ?_
  | with_reducible refine r_cbLen ?_
  | with_reducible refine r_cbList ?_
  | with_reducible refine r_cbTup ?_
  | with_reducible refine r_iEnT ?_
  | with_reducible refine r_iEnL ?_
  | with_reducible refine r_zipA ?_
  | with_reducible refine r_zipX ?_
  | with_reducible refine r_augS ?_
  | with_reducible refine r_cb ?_
  | with_reducible refine r_call ?_
  | with_reducible refine r_make ?_
  | with_reducible refine r_callN0 ?_
  | with_reducible refine r_makeK0 ?_
  | with_reducible refine r_makeS ?_
  | with_reducible refine r_callS ?_
  | with_reducible refine r_cons ?_
  | with_reducible refine r_nil ?_
  | with_reducible refine r_test ?_
  | with_reducible refine r_B ?_
  | with_reducible refine r_and ?_
  | with_reducible refine r_or ?_
  | with_reducible refine r_not ?_
  | with_reducible refine r_andV ?_
  | with_reducible refine r_orV ?_
  | with_reducible refine r_notV ?_
  | with_reducible refine r_if ?_
  | with_reducible refine r_tup ?_
  | with_reducible refine r_lst ?_
  | with_reducible refine r_c ?_
  | with_reducible refine r_lc ?_
  | with_reducible refine r_chain ?_
  | with_reducible refine r_iT ?_
  | with_reducible refine r_iL ?_
  | with_reducible refine r_iR1 ?_
  | with_reducible refine r_iR2 ?_
  | with_reducible refine r_iR3 ?_
  | with_reducible refine r_asgG ?_
  | with_reducible refine r_gSub ?_
  | with_reducible refine r_for ?_
  | with_reducible refine r_smeth ?_
  | with_reducible refine r_par ?_
  | with_reducible refine r_parK ?_
  | with_reducible refine r_gCons ?_
  | with_reducible refine r_gNil ?_
  | with_reducible refine r_gName ?_
  | with_reducible refine r_intI ?_
  | with_reducible refine r_intB ?_
  | with_reducible refine r_absI ?_
  | with_reducible refine r_k ?_
  | with_reducible refine r_kV ?_
  | ((with_reducible show tVar _ _ _ _); refine r_var3 ?_ (by rfl))
  | with_reducible refine r_I0 ?_
  | with_reducible refine r_U ?_
  | with_reducible refine r_eqI ?_
  | with_reducible refine r_neI ?_
  | dsimp only)))
local macro_rules | `(tactic| walk_at "rx") => `(tactic| (repeat (first
  | with_reducible refine r_next ?_
  | with_reducible refine r_ret ?_
  | with_reducible refine r_ifS ?_
  | with_reducible refine r_asg ?_
  | with_reducible refine r_drop ?_
  | with_reducible refine r_op ?_
  | with_reducible refine r_un ?_
  | with_reducible refine r_cbInt ?_
  | with_reducible refine r_cbAbs ?_
  | with_reducible refine r_cbLen ?_
  | with_reducible refine r_cbList ?_
  | with_reducible refine r_cbTup ?_
  | with_reducible refine r_iEnT ?_
  | with_reducible refine r_iEnL ?_
  | with_reducible refine r_zipA ?_
  | with_reducible refine r_zipX ?_
  | with_reducible refine r_augS ?_
  | with_reducible refine r_cb ?_
  | with_reducible refine r_call ?_
  | with_reducible refine r_make ?_
  | with_reducible refine r_callN0 ?_
  | with_reducible refine r_makeK0 ?_
  | with_reducible refine r_makeS ?_
  | with_reducible refine r_callS ?_
  | with_reducible refine r_cons ?_
  | with_reducible refine r_nil ?_
  | with_reducible refine r_test ?_
  | with_reducible refine r_B ?_
  | with_reducible refine r_and ?_
  | with_reducible refine r_or ?_
  | with_reducible refine r_not ?_
  | with_reducible refine r_andV ?_
  | with_reducible refine r_orV ?_
  | with_reducible refine r_notV ?_
  | with_reducible refine r_if ?_
  | with_reducible refine r_tup ?_
  | with_reducible refine r_lst ?_
  | with_reducible refine r_c ?_
  | with_reducible refine r_lc ?_
  | with_reducible refine r_chain ?_
  | with_reducible refine r_iT ?_
  | with_reducible refine r_iL ?_
  | with_reducible refine r_iR1 ?_
  | with_reducible refine r_iR2 ?_
  | with_reducible refine r_iR3 ?_
  | with_reducible refine r_asgG ?_
  | with_reducible refine r_gSub ?_
  | with_reducible refine r_for ?_
  | with_reducible refine r_smeth ?_
  | with_reducible refine r_par ?_
  | with_reducible refine r_parK ?_
  | with_reducible refine r_gCons ?_
  | with_reducible refine r_gNil ?_
  | with_reducible refine r_gName ?_
  | with_reducible refine r_intI ?_
  | with_reducible refine r_intB ?_
  | with_reducible refine r_absI ?_
  | with_reducible refine r_k ?_
  | with_reducible refine r_kV ?_
  | ((with_reducible show tVar _ _ _ _); refine r_var3 ?_ (by rfl))
  | with_reducible refine r_I0 ?_
  | with_reducible refine r_U ?_
  | with_reducible refine r_eqI ?_
  | with_reducible refine r_neI ?_
  | dsimp only)))
theorem r_cat {H : Hp} {Q : VK} {l b : Addr} {xs zs : List V} (h1 : H l = some (.lst xs)) (h2 : H b = some (.lst zs)) (hz : xs.length + zs.length ≤ 50000) (q : ∀ p H', H p = none → Ex H H' → H' p = some (.lst (xs ++ zs)) → Q (.ref p) H') : rCat (.ref l) (.ref b) H Q :=
  ⟨l, b, xs, zs, rfl, rfl, h1, h2, sz_le (by omega), fun p hp => q p _ hp (Ex.new hp) upd_same⟩
/-! ### errors as values -/
def N20 : List Str := N19 ++ (["Missing"] : List Str)
theorem n20_cases {P : Str → Prop} (h : ∀ x ∈ N20, P x) : True := trivial
def NO : List String := ["LookupError", "TypeError", "ArithmeticError", "AttributeError", "RuntimeError"]
theorem kin_of {K : PySem.W.Frag} {mg : Str → Option Value} (T : Txt K mg) : ∀ x ∈ N20, KinC K x (kinOf x) ["ValueError"] NO ∧ ExcC K (He.ga K x) := by
  intro x hx
  simp only [N20, N19, List.cons_append, List.nil_append, List.mem_cons, List.mem_nil_iff, or_false] at hx
  rcases hx with rfl | rfl | rfl | rfl | rfl | rfl | rfl | rfl | rfl | rfl | rfl | rfl | rfl | rfl | rfl | rfl | rfl | rfl | rfl | rfl
  · exact ⟨T.kin_BadNumber, T.ev_BadNumber.ex⟩
  · exact ⟨T.kin_BadBound, T.ev_BadBound.ex⟩
  · exact ⟨T.kin_BadPoly, T.ev_BadPoly.ex⟩
  · exact ⟨T.kin_BadWeb, T.ev_BadWeb.ex⟩
  · exact ⟨T.kin_BadSigns, T.ev_BadSigns.ex⟩
  · exact ⟨T.kin_BadVectors, T.ev_BadVectors.ex⟩
  · exact ⟨T.kin_BadLots, T.ev_BadLots.ex⟩
  · exact ⟨T.kin_BadRound, T.ev_BadRound.ex⟩
  · exact ⟨T.kin_BadDesk, T.ev_BadDesk.ex⟩
  · exact ⟨T.kin_Misfit, T.ev_Misfit.ex⟩
  · exact ⟨T.kin_NoPlace, T.ev_NoPlace.ex⟩
  · exact ⟨T.kin_NoTie, T.ev_NoTie.ex⟩
  · exact ⟨T.kin_NoName, T.ev_NoName.ex⟩
  · exact ⟨T.kin_Twice, T.ev_Twice.ex⟩
  · exact ⟨T.kin_TooMany, T.ev_TooMany.ex⟩
  · exact ⟨T.kin_Impossible, T.ev_Impossible.ex⟩
  · exact ⟨T.kin_Nothing, T.ez_Nothing.ex⟩
  · exact ⟨T.kin_BadText, T.ev_BadText.ex⟩
  · exact ⟨T.kin_BadLine, T.ev_BadLine.ex⟩
  · exact ⟨T.kin_Missing, T.ev_Missing.ex⟩
/-- the answers for an error of class x -/
def told (x : Str) : List Bool := N19.map fun y => y == x
theorem _root_.GS.ErV.ex {H H' : Hp} {a C : Addr} {fs : List (Str × V)} (h : ErV H a C fs) (e : Ex H H') : ErV H' a C fs := by
  rcases h with ⟨dx, h1, h2⟩ | ⟨h1, h2⟩
  · exact .inl ⟨dx, e _ _ h1, e _ _ h2⟩
  · exact .inr ⟨e _ _ h1, h2⟩
theorem r_is {K : PySem.W.Frag} {H : Hp} {Q : VK} {a : Addr} {x y : Str} {fs : List (Str × V)} {yes no : List String} (kn : KinC K x (kinOf x) yes no) (ec : ExcC K (He.ga K x)) (he : ErV H a (He.ga K x) fs) (hy : y ∈ N19) (q : Q (.bl (y == x)) H) : rIsV K [.ref a, .ref (He.ga K y)] H Q :=
  ⟨a, _, _, _, _, fs, rfl, fun u r => r, he, ec, kn.own (y, y == x) (List.mem_append_left _ (List.mem_map_of_mem hy)), q⟩
def spKin (K : PySem.W.Frag) : Sp := sp1 fun e H Q _ => ∃ a x fs, e = .ref a ∧ x ∈ N20 ∧ ErV H a (He.ga K x) fs ∧ ∀ p H', Ex H H' → H p = none → H' p = some (.lst ((told x).map V.bl)) → Q (.ref p) H'
theorem ok__law_kin {P : Program} {w : World} {K : PySem.W.Frag} {mg : Str → Option Value} {base : Heap} (T : Txt K mg) : ∃ fd, FnOk P w K mg base (L2.CX P w) 1 (He.ga K "_law_kin") fd ["error"] (spKin K) ∧ Binds K fd ["error"] [] := by
  obtain ⟨fd, F⟩ := T.d__law_kin
  refine ⟨fd, F.ok sc__law_kin sp1_len (fun cdv A outer s H vs Q E hr h => ?_), F.bindsN fun _ _ _ _ _ _ us hl => match us, hl with | [_], _ => rfl⟩
  obtain ⟨e, rfl, a, x, fs, rfl, hx, he, k⟩ := sp1_is h
  refine ⟨_, (pss_cons (ps_set (i := 1) sc__law_kin.nd rfl (Or.inl rfl) (pe_lst (pa_cons (pe_callB (cr_isV (K := K) rfl) (by rfl) T.b_isinstance (by decide +kernel) (pa_cons (pv 0) (pa_cons (pe_glob (v := .ref (He.ga K "BadNumber")) rfl T.g_BadNumber rfl) pa_nil))) (pa_cons (pe_callB (cr_isV (K := K) rfl) (by rfl) T.b_isinstance (by decide +kernel) (pa_cons (pv 0) (pa_cons (pe_glob (v := .ref (He.ga K "BadBound")) rfl T.g_BadBound rfl) pa_nil))) (pa_cons (pe_callB (cr_isV (K := K) rfl) (by rfl) T.b_isinstance (by decide +kernel) (pa_cons (pv 0) (pa_cons (pe_glob (v := .ref (He.ga K "BadPoly")) rfl T.g_BadPoly rfl) pa_nil))) (pa_cons (pe_callB (cr_isV (K := K) rfl) (by rfl) T.b_isinstance (by decide +kernel) (pa_cons (pv 0) (pa_cons (pe_glob (v := .ref (He.ga K "BadWeb")) rfl T.g_BadWeb rfl) pa_nil))) pa_nil))))))
      (pss_cons (ps_set (i := 1) sc__law_kin.nd rfl (Or.inl rfl) (pe_op op_cat (pv 1) (pe_lst (pa_cons (pe_callB (cr_isV (K := K) rfl) (by rfl) T.b_isinstance (by decide +kernel) (pa_cons (pv 0) (pa_cons (pe_glob (v := .ref (He.ga K "BadSigns")) rfl T.g_BadSigns rfl) pa_nil))) (pa_cons (pe_callB (cr_isV (K := K) rfl) (by rfl) T.b_isinstance (by decide +kernel) (pa_cons (pv 0) (pa_cons (pe_glob (v := .ref (He.ga K "BadVectors")) rfl T.g_BadVectors rfl) pa_nil))) (pa_cons (pe_callB (cr_isV (K := K) rfl) (by rfl) T.b_isinstance (by decide +kernel) (pa_cons (pv 0) (pa_cons (pe_glob (v := .ref (He.ga K "BadLots")) rfl T.g_BadLots rfl) pa_nil))) pa_nil))))))
      (pss_cons (ps_set (i := 1) sc__law_kin.nd rfl (Or.inl rfl) (pe_op op_cat (pv 1) (pe_lst (pa_cons (pe_callB (cr_isV (K := K) rfl) (by rfl) T.b_isinstance (by decide +kernel) (pa_cons (pv 0) (pa_cons (pe_glob (v := .ref (He.ga K "BadRound")) rfl T.g_BadRound rfl) pa_nil))) (pa_cons (pe_callB (cr_isV (K := K) rfl) (by rfl) T.b_isinstance (by decide +kernel) (pa_cons (pv 0) (pa_cons (pe_glob (v := .ref (He.ga K "BadDesk")) rfl T.g_BadDesk rfl) pa_nil))) (pa_cons (pe_callB (cr_isV (K := K) rfl) (by rfl) T.b_isinstance (by decide +kernel) (pa_cons (pv 0) (pa_cons (pe_glob (v := .ref (He.ga K "Misfit")) rfl T.g_Misfit rfl) pa_nil))) (pa_cons (pe_callB (cr_isV (K := K) rfl) (by rfl) T.b_isinstance (by decide +kernel) (pa_cons (pv 0) (pa_cons (pe_glob (v := .ref (He.ga K "NoPlace")) rfl T.g_NoPlace rfl) pa_nil))) pa_nil)))))))
      (pss_cons (ps_set (i := 1) sc__law_kin.nd rfl (Or.inl rfl) (pe_op op_cat (pv 1) (pe_lst (pa_cons (pe_callB (cr_isV (K := K) rfl) (by rfl) T.b_isinstance (by decide +kernel) (pa_cons (pv 0) (pa_cons (pe_glob (v := .ref (He.ga K "NoTie")) rfl T.g_NoTie rfl) pa_nil))) (pa_cons (pe_callB (cr_isV (K := K) rfl) (by rfl) T.b_isinstance (by decide +kernel) (pa_cons (pv 0) (pa_cons (pe_glob (v := .ref (He.ga K "NoName")) rfl T.g_NoName rfl) pa_nil))) (pa_cons (pe_callB (cr_isV (K := K) rfl) (by rfl) T.b_isinstance (by decide +kernel) (pa_cons (pv 0) (pa_cons (pe_glob (v := .ref (He.ga K "Twice")) rfl T.g_Twice rfl) pa_nil))) (pa_cons (pe_callB (cr_isV (K := K) rfl) (by rfl) T.b_isinstance (by decide +kernel) (pa_cons (pv 0) (pa_cons (pe_glob (v := .ref (He.ga K "TooMany")) rfl T.g_TooMany rfl) pa_nil))) pa_nil)))))))
      (pss_one (ps_ret (pe_op op_cat (pv 1) (pe_lst (pa_cons (pe_callB (cr_isV (K := K) rfl) (by rfl) T.b_isinstance (by decide +kernel) (pa_cons (pv 0) (pa_cons (pe_glob (v := .ref (He.ga K "Impossible")) rfl T.g_Impossible rfl) pa_nil))) (pa_cons (pe_callB (cr_isV (K := K) rfl) (by rfl) T.b_isinstance (by decide +kernel) (pa_cons (pv 0) (pa_cons (pe_glob (v := .ref (He.ga K "Nothing")) rfl T.g_Nothing rfl) pa_nil))) (pa_cons (pe_callB (cr_isV (K := K) rfl) (by rfl) T.b_isinstance (by decide +kernel) (pa_cons (pv 0) (pa_cons (pe_glob (v := .ref (He.ga K "BadText")) rfl T.g_BadText rfl) pa_nil))) (pa_cons (pe_callB (cr_isV (K := K) rfl) (by rfl) T.b_isinstance (by decide +kernel) (pa_cons (pv 0) (pa_cons (pe_glob (v := .ref (He.ga K "BadLine")) rfl T.g_BadLine rfl) pa_nil))) pa_nil)))))))))))), ?_⟩
  obtain ⟨kn, ec⟩ := kin_of T x hx
  walk_at "rd"
  iterate 4 (refine r_is kn ec he (by decide) ?_; walk_at "rd")
  refine r_newL (sz_le (by simp)) fun p1 H1 n1 e1 h1 => ?_
  have he1 := he.ex e1
  walk_at "rd"
  iterate 3 (refine r_is kn ec he1 (by decide) ?_; walk_at "rd")
  refine r_newL (sz_le (by simp)) fun q1 H2 _ e2 h2 => ?_
  refine r_cat (e2 _ _ h1) h2 (by simp) fun p2 H3 n2 e3 h3 => ?_
  have he3 := he1.ex (e2.trans e3)
  walk_at "rd"
  iterate 4 (refine r_is kn ec he3 (by decide) ?_; walk_at "rd")
  refine r_newL (sz_le (by simp)) fun q2 H4 _ e4 h4 => ?_
  refine r_cat (e4 _ _ h3) h4 (by simp) fun p3 H5 n3 e5 h5 => ?_
  have he5 := he3.ex (e4.trans e5)
  walk_at "rd"
  iterate 4 (refine r_is kn ec he5 (by decide) ?_; walk_at "rd")
  refine r_newL (sz_le (by simp)) fun q3 H6 _ e6 h6 => ?_
  refine r_cat (e6 _ _ h5) h6 (by simp) fun p4 H7 n4 e7 h7 => ?_
  have he7 := he5.ex (e6.trans e7)
  walk_at "rd"
  iterate 4 (refine r_is kn ec he7 (by decide) ?_; walk_at "rd")
  refine r_newL (sz_le (by simp)) fun q4 H8 _ e8 h8 => ?_
  refine r_cat (e8 _ _ h7) h8 (by simp) fun p5 H9 n5 e9 h9 => ?_
  have up : Ex H H8 := ((((((e1.trans e2).trans e3).trans e4).trans e5).trans e6).trans e7).trans e8
  exact k p5 H9 (up.trans e9) (up.free n5) h9
theorem dp_bls {K : PySem.W.Frag} {H : Hp} : ∀ xs : List Bool, DpAll K H (xs.map V.bl) (xs.map PyData.bool)
  | [] => .nil
  | x :: xs => .cons (.bl x) (dp_bls xs)
theorem can_bls : ∀ xs : List Bool, PyData.canLayAll0 (xs.map PyData.bool) = true ∧ PyData.depthAll (xs.map PyData.bool) = 0
  | [] => ⟨rfl, rfl⟩
  | x :: xs => by
    rw [List.map_cons]
    obtain ⟨h1, h2⟩ := can_bls xs
    refine ⟨?_, ?_⟩
    · show (PyData.canLay0 (.bool x) && PyData.canLayAll0 (xs.map PyData.bool)) = true
      rw [h1]
      rfl
    · show max (PyData.depth (.bool x)) (PyData.depthAll (xs.map PyData.bool)) = 0
      rw [h2]
      rfl
theorem shaped_bls (xs : List Bool) : SeqAt.shaped (.list (xs.map PyData.bool)) = true := by
  show (PyData.canLayAll0 (xs.map PyData.bool) && decide (PyData.depthAll (xs.map PyData.bool) + 1 ≤ 64)) = true
  rw [(can_bls xs).1, (can_bls xs).2]
  rfl
theorem eqv_bls : ∀ xs ys : List Bool, PyData.eqvAll (xs.map PyData.bool) (ys.map PyData.bool) = decide (xs = ys)
  | [], [] => rfl
  | [], y :: ys => rfl
  | x :: xs, [] => rfl
  | x :: xs, y :: ys => by
    rw [List.map_cons, List.map_cons]
    show ((x == y) && PyData.eqvAll (xs.map PyData.bool) (ys.map PyData.bool)) = _
    rw [eqv_bls xs ys]
    by_cases c : x = y <;> simp [c]
theorem r_eqBls {K : PySem.W.Frag} {H : Hp} {Q : VK} {p q : Addr} {xs ys : List Bool} (h1 : H p = some (.lst (xs.map V.bl))) (h2 : H q = some (.lst (ys.map V.bl))) (k : Q (.bl (decide (xs = ys))) H) : rEqD K (.ref p) (.ref q) H Q := by
  refine ⟨_, _, .lst (SqL.of h1) (dp_bls xs), .lst (SqL.of h2) (dp_bls ys), shaped_bls xs, shaped_bls ys, ?_⟩
  show Q (.bl (PyData.eqvAll (xs.map PyData.bool) (ys.map PyData.bool))) H
  rw [eqv_bls]
  exact k
theorem r_neBls {K : PySem.W.Frag} {H : Hp} {Q : VK} {p q : Addr} {xs ys : List Bool} (h1 : H p = some (.lst (xs.map V.bl))) (h2 : H q = some (.lst (ys.map V.bl))) (k : Q (.bl (!decide (xs = ys))) H) : rNeD K (.ref p) (.ref q) H Q := by
  refine ⟨_, _, .lst (SqL.of h1) (dp_bls xs), .lst (SqL.of h2) (dp_bls ys), shaped_bls xs, shaped_bls ys, ?_⟩
  show Q (.bl (!PyData.eqvAll (xs.map PyData.bool) (ys.map PyData.bool))) H
  rw [eqv_bls]
  exact k
/-- where an error is told of, by places -/
theorem told_at : ∀ i : Nat, i < 19 → ∀ x, N19[i]? = some x → told x = (List.range 19).map (fun j => decide (j = i)) ∧ isMiss x = inV (.int (i : Int)) [.int 10, .int 11, .int 12] := by
  have key : ∀ i : Fin 19, told (N19.getD i.val (Str.ofString "")) = (List.range 19).map (fun j => decide (j = i.val)) ∧ isMiss (N19.getD i.val (Str.ofString "")) = inV (.int (i.val : Int)) [.int 10, .int 11, .int 12] := by decide +kernel
  intro i hi x hx
  have e : N19.getD i (Str.ofString "") = x := by rw [List.getD_eq_getElem?_getD, hx]; rfl
  have := key ⟨i, hi⟩
  simp only [e] at this
  exact this
def spStands (K : PySem.W.Frag) : Sp := sp2 fun e v H Q _ => ∃ a x fs, ∃ i : Nat, e = .ref a ∧ v = .int i ∧ N19[i]? = some x ∧ ErV H a (He.ga K x) fs ∧ ∀ H', Ex H H' → Q (.bl true) H'
theorem ok__law_stands {P : Program} {w : World} {K : PySem.W.Frag} {mg : Str → Option Value} {base : Heap} (T : Txt K mg) : ∃ fd, FnOk P w K mg base (L2.CX P w) 2 (He.ga K "_law_stands") fd ["error", "at"] (spStands K) ∧ Binds K fd ["error", "at"] [] := by
  obtain ⟨fd, F⟩ := T.d__law_stands
  obtain ⟨fd__law_kin, F__law_kin, B__law_kin⟩ := ok__law_kin (P := P) (w := w) (base := base) T
  refine ⟨fd, F.ok sc__law_stands sp2_len (fun cdv A outer s H vs Q E hr h => ?_), F.bindsN fun _ _ _ _ _ _ us hl => match us, hl with | [_, _], _ => rfl⟩
  have hr__law_kin : Room 1 _ := hr.mono (by decide)
  obtain ⟨e, v, rfl, a, x, fs, i, rfl, rfl, hi, he, k⟩ := sp2_is h
  refine ⟨_, (pss_cons (ps_if (PW.pt (pw_or (pt_not (pt_val (pe_callB (cr_isV (K := K) rfl) (by rfl) T.b_isinstance (by decide +kernel) (pa_cons (pv 0) (pa_cons (pe_glob (v := .ref (He.ga K "SignsError")) rfl T.g_SignsError rfl) pa_nil))))) (pw_or (pt_not (pt_val (pe_callB (cr_isV (K := K) rfl) (by rfl) T.b_isinstance (by decide +kernel) (pa_cons (pv 0) (pa_cons (pe_bltn (v := .ty "ValueError") (by rfl) T.b_ValueError (by decide +kernel) rfl) pa_nil))))) (pw_or1 (pt_cmpR op_ne (pe_callB (cr_isV (K := K) rfl) (by rfl) T.b_isinstance (by decide +kernel) (pa_cons (pv 0) (pa_cons (pe_glob (v := .ref (He.ga K "Missing")) rfl T.g_Missing rfl) pa_nil))) (pe_cmpR op_in_seq (pv 1) (pe_tup (pa_cons pe_int (pa_cons pe_int (pa_cons pe_int pa_nil)))) rfl) (nomark _)))))) (pss_one (ps_ret pe_bl)) pss_nil)
      (pss_cons (ps_if (pt_val (pe_callB (cr_isVT (K := K) rfl) (by rfl) T.b_isinstance (by decide +kernel) (pa_cons (pv 0) (pa_cons (pe_tup (pa_cons (pe_bltn (v := .ty "LookupError") (by rfl) T.b_LookupError (by decide +kernel) rfl) (pa_cons (pe_bltn (v := .ty "TypeError") (by rfl) T.b_TypeError (by decide +kernel) rfl) (pa_cons (pe_bltn (v := .ty "ArithmeticError") (by rfl) T.b_ArithmeticError (by decide +kernel) rfl) (pa_cons (pe_bltn (v := .ty "AttributeError") (by rfl) T.b_AttributeError (by decide +kernel) rfl) (pa_cons (pe_bltn (v := .ty "RuntimeError") (by rfl) T.b_RuntimeError (by decide +kernel) rfl) pa_nil)))))) pa_nil)))) (pss_one (ps_ret pe_bl)) pss_nil)
      (pss_one (ps_ret (pe_cmpR (op_eqD hr.units) (pe_call F__law_kin hr__law_kin (by rfl) T.g__law_kin T.k__law_kin B__law_kin .nil passL (pa_cons (pv 0) pa_nil)) (pe_lc (own := [("spot", 2)]) (g := gName 2) (tt := tYes)  rfl sc__law_stands.nd (pi_range1 (by rfl) T.b_range (pa_cons pe_int pa_nil)) (blkOk_by (own := [("spot", 2)]) (N := ["error", "at", "spot"]) (sc := defScope s__law_stands) (by decide +kernel)) (fun _ _ _ _ _ => (pg_name (i := 2) sc__law_stands.nd rfl (Or.inl rfl))) (fun _ _ _ _ _ => pts_nil) (fun _ _ _ _ _ => (pe_cmpR op_eq (pv 2) (pv 1) (nomark _)))) (nomark _)))))), ?_⟩
  have hx : x ∈ N20 := List.mem_append_left _ (List.mem_of_getElem? hi)
  obtain ⟨kn, ec⟩ := kin_of T x hx
  have m1 : (("SignsError" : Str), true) ∈ kinOf x := List.mem_append_right _ List.mem_cons_self
  have m2 : (("Missing" : Str), isMiss x) ∈ kinOf x := List.mem_append_right _ (List.mem_cons_of_mem _ List.mem_cons_self)
  walk_at "rd"
  refine ⟨a, _, _, _, _, fs, rfl, fun u r => r, he, ec, kn.own _ m1, ?_⟩
  refine ⟨_, rfl, ite_f rfl ?_⟩
  walk_at "rd"
  refine ⟨a, _, _, _, _, fs, rfl, fun u r => r, he, ec, kn.yes "ValueError" (by simp), ?_⟩
  refine ⟨_, rfl, ite_f rfl ?_⟩
  walk_at "rd"
  refine ⟨a, _, _, _, _, fs, rfl, fun u r => r, he, ec, kn.own _ m2, ?_⟩
  walk_at "rd"
  refine r_newT (sz_le (by simp)) fun t H1 _ e1 h1 => ?_
  have hi19 : i < 19 := by
    have := (List.getElem?_eq_some_iff.mp hi).1
    simpa [N19] using this
  obtain ⟨ta, tm⟩ := told_at i hi19 x hi
  refine ⟨t, _, rfl, .inr (SqT.of h1), rfl, rfl, ?_⟩
  rw [tm]
  refine ⟨rfl, _, rfl, ite_f (by simp) ?_⟩
  walk_at "rd"
  refine r_newT (sz_le (by simp)) fun t2 H2 _ e2 h2 => ?_
  have he2 := he.ex (e1.trans e2)
  refine ⟨a, t2, _, NO.map Value.type, _, _, fs, rfl, h2, .cons (.ty _) (.cons (.ty _) (.cons (.ty _) (.cons (.ty _) (.cons (.ty _) .nil)))), he2, ec, kn.no, ?_⟩
  walk_at "rd"
  refine ite_f rfl ?_
  walk_at "rd"
  refine ⟨a, x, fs, rfl, hx, he2, fun p H3 e3 n3 h3 => ?_⟩
  walk_at "rd"

  refine ⟨19, rfl, by decide, by decide, ?_⟩
  have up : Ex H H3 := (e1.trans e2).trans e3
  refine r_lcM (n := 19) (k := 2) (walk_range (lo := 0) (n := 19)) (fun j => .bl (decide (j = i))) (by omega) (fun _ _ => trivial) (fun _ => rfl) ?_ ?_
  · rintro j y H0 H' hj e0 ⟨rfl, rfl⟩
    refine ⟨Ex.refl _, fun H4 e4 R r => ?_⟩
    walk_at "rd"
    have e : decide ((0 : Int) + (j : Int) = (i : Int)) = decide (j = i) := by
      by_cases c : j = i
      · subst c; simp
      · have : ¬ ((j : Int) = (i : Int)) := by omega
        simp [c, this]
    rw [e]
    exact r H4 (Ex.refl _)
  · intro q H4 hq e4 h4
    have h4' : H4 q = some (.lst (((List.range 19).map (fun j => decide (j = i))).map V.bl)) := by rw [List.map_map]; exact h4
    refine r_eqBls (e4 _ _ h3) h4' ?_
    rw [decide_eq_true ta]
    exact k _ (up.trans e4)

end K00
namespace K00
open PySem PySem.Spec PyProof.Rows L2 GS TL LamX
local macro_rules | `(tactic| walk_at "rd") => `(tactic| (repeat (first
  | with_reducible refine r_next ?_
  | with_reducible refine r_seq ?_
  | with_reducible refine r_ret ?_
  | with_reducible refine r_ifS ?_
  | with_reducible refine r_asg ?_
  | with_reducible refine r_drop ?_
  | with_reducible refine r_op ?_
  | with_reducible refine r_un ?_
  | with_reducible refine r_cbInt ?_
  | with_reducible refine r_cbAbs ?_
  | with_reducible refine r_cbLen ?_
  | with_reducible refine r_cbList ?_
  | with_reducible refine r_cbTup ?_
  | with_reducible refine r_iEnT ?_
  | with_reducible refine r_iEnL ?_
  | with_reducible refine r_zipA ?_
  | with_reducible refine r_zipX ?_
  | with_reducible refine r_augS ?_
  | with_reducible refine r_cb ?_
  | with_reducible refine r_call ?_
  | with_reducible refine r_make ?_
  | with_reducible refine r_callN0 ?_
  | with_reducible refine r_makeK0 ?_
  | with_reducible refine r_makeS ?_
  | with_reducible refine r_callS ?_
  | with_reducible refine r_cons ?_
  | with_reducible refine r_nil ?_
  | with_reducible refine r_test ?_
  | with_reducible refine r_B ?_
  | with_reducible refine r_and ?_
  | with_reducible refine r_or ?_
  | with_reducible refine r_not ?_
  | with_reducible refine r_andV ?_
  | with_reducible refine r_orV ?_
  | with_reducible refine r_notV ?_
  | with_reducible refine r_if ?_
  | with_reducible refine r_tup ?_
  | with_reducible refine r_lst ?_
  | with_reducible refine r_c ?_
  | with_reducible refine r_lc ?_
  | with_reducible refine r_chain ?_
  | with_reducible refine r_iT ?_
  | with_reducible refine r_iL ?_
  | with_reducible refine r_iR1 ?_
  | with_reducible refine r_iR2 ?_
  | with_reducible refine r_iR3 ?_
  | with_reducible refine r_asgG ?_
  | with_reducible refine r_gSub ?_
  | with_reducible refine r_for ?_
  | with_reducible refine r_smeth ?_
  | with_reducible refine r_par ?_
  | with_reducible refine r_parK ?_
  | with_reducible refine r_gCons ?_
  | with_reducible refine r_gNil ?_
  | with_reducible refine r_gName ?_
  | with_reducible refine r_intI ?_
  | with_reducible refine r_intB ?_
  | with_reducible refine r_absI ?_
  | with_reducible refine r_k ?_
  | with_reducible refine r_kV ?_
  | ((with_reducible show tVar _ _ _ _); refine r_var3 ?_ (by rfl))
  | with_reducible refine r_I0 ?_
  | with_reducible refine r_U ?_
  | with_reducible refine r_eqI ?_
  | with_reducible refine r_neI ?_
  | dsimp only)))
local macro_rules | `(tactic| walk_at "rx") => `(tactic| (repeat (first
  | with_reducible refine r_next ?_
  | with_reducible refine r_ret ?_
  | with_reducible refine r_ifS ?_
  | with_reducible refine r_asg ?_
  | with_reducible refine r_drop ?_
  | with_reducible refine r_op ?_
  | with_reducible refine r_un ?_
  | with_reducible refine r_cbInt ?_
  | with_reducible refine r_cbAbs ?_
  | with_reducible refine r_cbLen ?_
  | with_reducible refine r_cbList ?_
  | with_reducible refine r_cbTup ?_
  | with_reducible refine r_iEnT ?_
  | with_reducible refine r_iEnL ?_
  | with_reducible refine r_zipA ?_
  | with_reducible refine r_zipX ?_
  | with_reducible refine r_augS ?_
  | with_reducible refine r_cb ?_
  | with_reducible refine r_call ?_
  | with_reducible refine r_make ?_
  | with_reducible refine r_callN0 ?_
  | with_reducible refine r_makeK0 ?_
  | with_reducible refine r_makeS ?_
  | with_reducible refine r_callS ?_
  | with_reducible refine r_cons ?_
  | with_reducible refine r_nil ?_
  | with_reducible refine r_test ?_
  | with_reducible refine r_B ?_
  | with_reducible refine r_and ?_
  | with_reducible refine r_or ?_
  | with_reducible refine r_not ?_
  | with_reducible refine r_andV ?_
  | with_reducible refine r_orV ?_
  | with_reducible refine r_notV ?_
  | with_reducible refine r_if ?_
  | with_reducible refine r_tup ?_
  | with_reducible refine r_lst ?_
  | with_reducible refine r_c ?_
  | with_reducible refine r_lc ?_
  | with_reducible refine r_chain ?_
  | with_reducible refine r_iT ?_
  | with_reducible refine r_iL ?_
  | with_reducible refine r_iR1 ?_
  | with_reducible refine r_iR2 ?_
  | with_reducible refine r_iR3 ?_
  | with_reducible refine r_asgG ?_
  | with_reducible refine r_gSub ?_
  | with_reducible refine r_for ?_
  | with_reducible refine r_smeth ?_
  | with_reducible refine r_par ?_
  | with_reducible refine r_parK ?_
  | with_reducible refine r_gCons ?_
  | with_reducible refine r_gNil ?_
  | with_reducible refine r_gName ?_
  | with_reducible refine r_intI ?_
  | with_reducible refine r_intB ?_
  | with_reducible refine r_absI ?_
  | with_reducible refine r_k ?_
  | with_reducible refine r_kV ?_
  | ((with_reducible show tVar _ _ _ _); refine r_var3 ?_ (by rfl))
  | with_reducible refine r_I0 ?_
  | with_reducible refine r_U ?_
  | with_reducible refine r_eqI ?_
  | with_reducible refine r_neI ?_
  | dsimp only)))
/-! ### the values that errors hold -/
def OneV (H : Hp) (v : V) : Prop := scal v v = true ∨ (∃ a xs, v = .ref a ∧ H a = some (.lst xs) ∧ ∀ z ∈ xs, Same1 z) ∨ (∃ a xs, v = .ref a ∧ H a = some (.tup xs) ∧ ∀ z ∈ xs, Same1 z) ∨ (∃ a ks, v = .ref a ∧ H a = some (.dK ks) ∧ ∀ p ∈ ks, valV ks p.1 = some p.2 ∧ flatB p.2 = true)
theorem OneV.ex {H H' : Hp} {v : V} (h : OneV H v) (e : Ex H H') : OneV H' v := by
  rcases h with h | ⟨a, xs, rfl, h, k⟩ | ⟨a, xs, rfl, h, k⟩ | ⟨a, ks, rfl, h, k⟩
  · exact .inl h
  · exact .inr (.inl ⟨a, xs, rfl, e _ _ h, k⟩)
  · exact .inr (.inr (.inl ⟨a, xs, rfl, e _ _ h, k⟩))
  · exact .inr (.inr (.inr ⟨a, ks, rfl, e _ _ h, k⟩))
theorem OneV.same {H : Hp} {v : V} (h : OneV H v) : Same1 v := by
  rcases h with h | ⟨a, xs, rfl, h, k⟩ | ⟨a, xs, rfl, h, k⟩ | ⟨a, ks, rfl, h, k⟩
  · left
    cases v <;> first | rfl | cases h
  · exact .inr ⟨a, rfl⟩
  · exact .inr ⟨a, rfl⟩
  · exact .inr ⟨a, rfl⟩
theorem r_neS {K : PySem.W.Frag} {H : Hp} {Q : VK} {v : V} (h : OneV H v) (q : Q (.bl false) H) : rNeS K v v H Q := by
  rcases h with h | ⟨a, xs, rfl, h, k⟩ | ⟨a, xs, rfl, h, k⟩ | ⟨a, ks, rfl, h, k⟩
  · exact .inl ⟨h, by simpa using q⟩
  · exact .inr (.inl ⟨a, a, xs, rfl, rfl, SqL.of h, SqL.of h, k, q⟩)
  · exact .inr (.inr (.inl ⟨a, a, xs, rfl, rfl, SqT.of h, SqT.of h, k, q⟩))
  · exact .inr (.inr (.inr ⟨a, a, ks, ks, rfl, rfl, h, h, rfl, k, q⟩))
theorem r_neL2 {K : PySem.W.Frag} {H : Hp} {Q : VK} {a b : Addr} {x y : V} (hx : Same1 x) (hy : Same1 y) (h1 : H a = some (.lst [x, y])) (h2 : H b = some (.lst [x, y])) (q : Q (.bl false) H) : rNeS K (.ref a) (.ref b) H Q :=
  .inr (.inl ⟨a, b, [x, y], rfl, rfl, SqL.of h1, SqL.of h2, fun z hz => by
    simp only [List.mem_cons, List.mem_nil_iff, or_false] at hz
    rcases hz with rfl | rfl
    · exact hx
    · exact hy, q⟩)
/-- error.field -/
def XVq (K : PySem.W.Frag) (n : Str) (x : V) (Q : VK) (H : Hp) : Prop := ∃ (a C dx : Addr) (fs : List (Str × V)) (v : V), x = .ref a ∧ H a = some (exo a C (some dx)) ∧ H dx = some (exd dx fs) ∧ XfC K C ∧ PySem.W.findIn K (.ref C) n = some none ∧ fs.lookup n = some v ∧ Q v H
theorem r_xV {K : PySem.W.Frag} {H : Hp} {Q : VK} {a C : Addr} {fs : List (Str × V)} {n : Str} {v : V} (he : ErV H a C fs) (xf : XfC K C) (no_ : PySem.W.findIn K (.ref C) n = some none) (l : fs.lookup n = some v) (q : Q v H) : XVq K n (.ref a) Q H := by
  rcases he with ⟨dx, h1, h2⟩ | ⟨h1, h2⟩
  · exact ⟨a, C, dx, fs, v, rfl, h1, h2, xf, no_, l, q⟩
  · rw [h2] at l
    cases l
theorem r_tXV {K : PySem.W.Frag} {n : Str} {te : TE} {σ : L2.St} {H : Hp} {Q : VK} (h : te σ H fun x H1 => XVq K n x Q H1) : tXV K n te σ H Q := h
def parts : List Str := ["BadNumber", "BadBound", "BadPoly", "BadWeb", "BadSigns", "BadVectors", "BadLots", "BadRound", "BadDesk", "Misfit"]
theorem ev_parts {K : PySem.W.Frag} {mg : Str → Option Value} (T : Txt K mg) : ∀ x ∈ parts, EvC K x x ["part"] := by
  intro x hx
  simp only [parts, List.mem_cons, List.mem_nil_iff, or_false] at hx
  rcases hx with rfl | rfl | rfl | rfl | rfl | rfl | rfl | rfl | rfl | rfl
  · exact T.ev_BadNumber
  · exact T.ev_BadBound
  · exact T.ev_BadPoly
  · exact T.ev_BadWeb
  · exact T.ev_BadSigns
  · exact T.ev_BadVectors
  · exact T.ev_BadLots
  · exact T.ev_BadRound
  · exact T.ev_BadDesk
  · exact T.ev_Misfit
/-- errors that hold v -/
def Es (K : PySem.W.Frag) (H : Hp) (f : Str) (v : V) : List Addr → List Str → Prop
  | [], [] => True
  | a :: as, x :: xs => ErV H a (He.ga K x) [(f, v)] ∧ Es K H f v as xs
  | _, _ => False
theorem Es.ex {K : PySem.W.Frag} {H H' : Hp} {f : Str} {v : V} : ∀ {as : List Addr} {xs : List Str}, Es K H f v as xs → Ex H H' → Es K H' f v as xs
  | [], [], _, _ => trivial
  | _ :: _, _ :: _, h, e => ⟨h.1.ex e, h.2.ex e⟩
theorem Es.snoc {K : PySem.W.Frag} {H : Hp} {f : Str} {v : V} {a : Addr} {x : Str} : ∀ {as : List Addr} {xs : List Str}, Es K H f v as xs → ErV H a (He.ga K x) [(f, v)] → Es K H f v (as ++ [a]) (xs ++ [x])
  | [], [], _, h => ⟨h, trivial⟩
  | _ :: _, _ :: _, h, h' => ⟨h.1, h.2.snoc h'⟩
theorem Es.get {K : PySem.W.Frag} {H : Hp} {f : Str} {v : V} : ∀ {as : List Addr} {xs : List Str}, Es K H f v as xs → ∀ {i : Nat} {x : Str}, xs[i]? = some x → ∃ a, as[i]? = some a ∧ ErV H a (He.ga K x) [(f, v)]
  | [], [], _, _, _, e => by simp at e
  | a :: _, _ :: _, h, 0, _, e => by
    simp at e
    subst e
    exact ⟨a, rfl, h.1⟩
  | _ :: _, _ :: _, h, i + 1, _, e => by
    simp at e
    obtain ⟨a, h1, h2⟩ := h.2.get e
    exact ⟨a, by simpa using h1, h2⟩
theorem r_V1 {K : PySem.W.Frag} {σ : L2.St} {H : Hp} {Q : VK} {n : Nat} {x d f : Str} {v : V} (ev : EvC K x d [f]) (hs : σ[n]? = some (some v)) (q : ∀ a H', Ex H H' → ErV H' a (He.ga K x) [(f, v)] → Q (.ref a) H') : tMkV (He.ga K x) (spE1 K f) [] (tCons (tVar n) tNil) σ H Q := ⟨_, hs, r_v1 ev.o (ev.no_ f List.mem_cons_self) rfl q⟩
theorem r_K1 {K : PySem.W.Frag} {σ : L2.St} {H : Hp} {Q : VK} {n : Nat} {x d f : Str} {v : V} (ev : EvC K x d [f]) (hs : σ[n]? = some (some v)) (q : ∀ a H', Ex H H' → ErV H' a (He.ga K x) [(f, v)] → Q (.ref a) H') : tMkVK (He.ga K x) 1 (spE1 K f) (pm [0, 1]) (tCons (tVar n) tNil) σ H Q := ⟨_, hs, r_k1 ev.o (ev.no_ f List.mem_cons_self) rfl q⟩
def spParts (K : PySem.W.Frag) : Sp := sp1 fun v H Q _ => OneV H v ∧ ∀ H', Ex H H' → Q (.bl true) H'
theorem ok__law_parts_right {P : Program} {w : World} {K : PySem.W.Frag} {mg : Str → Option Value} {base : Heap} (T : Txt K mg) : ∃ fd, FnOk P w K mg base (L2.CX P w) 3 (He.ga K "_law_parts_right") fd ["one"] (spParts K) ∧ Binds K fd ["one"] [] := by
  obtain ⟨fd, F⟩ := T.d__law_parts_right
  obtain ⟨fd__law_stands, F__law_stands, B__law_stands⟩ := ok__law_stands (P := P) (w := w) (base := base) T
  obtain ⟨fd_Misfit_init, F_Misfit_init, B_Misfit_init, kb_Misfit_init_0⟩ := ok_Misfit_init (P := P) (w := w) (base := base) T
  obtain ⟨fd_BadDesk_init, F_BadDesk_init, B_BadDesk_init, kb_BadDesk_init_0⟩ := ok_BadDesk_init (P := P) (w := w) (base := base) T
  obtain ⟨fd_BadRound_init, F_BadRound_init, B_BadRound_init, kb_BadRound_init_0⟩ := ok_BadRound_init (P := P) (w := w) (base := base) T
  obtain ⟨fd_BadLots_init, F_BadLots_init, B_BadLots_init, kb_BadLots_init_0⟩ := ok_BadLots_init (P := P) (w := w) (base := base) T
  obtain ⟨fd_BadVectors_init, F_BadVectors_init, B_BadVectors_init, kb_BadVectors_init_0⟩ := ok_BadVectors_init (P := P) (w := w) (base := base) T
  obtain ⟨fd_BadSigns_init, F_BadSigns_init, B_BadSigns_init, kb_BadSigns_init_0⟩ := ok_BadSigns_init (P := P) (w := w) (base := base) T
  obtain ⟨fd_BadWeb_init, F_BadWeb_init, B_BadWeb_init, kb_BadWeb_init_0⟩ := ok_BadWeb_init (P := P) (w := w) (base := base) T
  obtain ⟨fd_BadPoly_init, F_BadPoly_init, B_BadPoly_init, kb_BadPoly_init_0⟩ := ok_BadPoly_init (P := P) (w := w) (base := base) T
  obtain ⟨fd_BadBound_init, F_BadBound_init, B_BadBound_init, kb_BadBound_init_0⟩ := ok_BadBound_init (P := P) (w := w) (base := base) T
  obtain ⟨fd_BadNumber_init, F_BadNumber_init, B_BadNumber_init, kb_BadNumber_init_0⟩ := ok_BadNumber_init (P := P) (w := w) (base := base) T
  refine ⟨fd, F.ok sc__law_parts_right sp1_len (fun cdv A outer s H vs Q E hr h => ?_), F.bindsN fun _ _ _ _ _ _ us hl => match us, hl with | [_], _ => rfl⟩
  have hr__law_stands : Room 2 _ := hr.mono (by decide)
  have hr_Misfit_init : Room 2 _ := hr.mono (by decide)
  have hr_BadDesk_init : Room 2 _ := hr.mono (by decide)
  have hr_BadRound_init : Room 2 _ := hr.mono (by decide)
  have hr_BadLots_init : Room 2 _ := hr.mono (by decide)
  have hr_BadVectors_init : Room 2 _ := hr.mono (by decide)
  have hr_BadSigns_init : Room 2 _ := hr.mono (by decide)
  have hr_BadWeb_init : Room 2 _ := hr.mono (by decide)
  have hr_BadPoly_init : Room 2 _ := hr.mono (by decide)
  have hr_BadBound_init : Room 2 _ := hr.mono (by decide)
  have hr_BadNumber_init : Room 2 _ := hr.mono (by decide)
  obtain ⟨v, rfl, ov, k⟩ := sp1_is h
  refine ⟨_, (pss_cons (ps_set (i := 1) sc__law_parts_right.nd rfl (Or.inl rfl) (pe_lst (pa_cons (pe_oexV T.ev_BadNumber.o T.ev_BadNumber.i T.ev_BadNumber.t F_BadNumber_init hr_BadNumber_init B_BadNumber_init .nil passL rfl T.g_BadNumber (pa_cons (pv 0) pa_nil)) (pa_cons (pe_oexV T.ev_BadBound.o T.ev_BadBound.i T.ev_BadBound.t F_BadBound_init hr_BadBound_init B_BadBound_init .nil passL rfl T.g_BadBound (pa_cons (pv 0) pa_nil)) (pa_cons (pe_oexV T.ev_BadPoly.o T.ev_BadPoly.i T.ev_BadPoly.t F_BadPoly_init hr_BadPoly_init B_BadPoly_init .nil passL rfl T.g_BadPoly (pa_cons (pv 0) pa_nil)) (pa_cons (pe_oexV T.ev_BadWeb.o T.ev_BadWeb.i T.ev_BadWeb.t F_BadWeb_init hr_BadWeb_init B_BadWeb_init .nil passL rfl T.g_BadWeb (pa_cons (pv 0) pa_nil)) (pa_cons (pe_oexV T.ev_BadSigns.o T.ev_BadSigns.i T.ev_BadSigns.t F_BadSigns_init hr_BadSigns_init B_BadSigns_init .nil passL rfl T.g_BadSigns (pa_cons (pv 0) pa_nil)) (pa_cons (pe_oexV T.ev_BadVectors.o T.ev_BadVectors.i T.ev_BadVectors.t F_BadVectors_init hr_BadVectors_init B_BadVectors_init .nil passL rfl T.g_BadVectors (pa_cons (pv 0) pa_nil)) (pa_cons (pe_oexV T.ev_BadLots.o T.ev_BadLots.i T.ev_BadLots.t F_BadLots_init hr_BadLots_init B_BadLots_init .nil passL rfl T.g_BadLots (pa_cons (pv 0) pa_nil)) pa_nil)))))))))
      (pss_cons (ps_set (i := 1) sc__law_parts_right.nd rfl (Or.inl rfl) (pe_op op_cat (pv 1) (pe_lst (pa_cons (pe_oexV T.ev_BadRound.o T.ev_BadRound.i T.ev_BadRound.t F_BadRound_init hr_BadRound_init B_BadRound_init .nil passL rfl T.g_BadRound (pa_cons (pv 0) pa_nil)) (pa_cons (pe_oexV T.ev_BadDesk.o T.ev_BadDesk.i T.ev_BadDesk.t F_BadDesk_init hr_BadDesk_init B_BadDesk_init .nil passL rfl T.g_BadDesk (pa_cons (pv 0) pa_nil)) (pa_cons (pe_oexV T.ev_Misfit.o T.ev_Misfit.i T.ev_Misfit.t F_Misfit_init hr_Misfit_init B_Misfit_init .nil passL rfl T.g_Misfit (pa_cons (pv 0) pa_nil)) pa_nil))))))
      (pss_cons (ps_set (i := 2) sc__law_parts_right.nd rfl (Or.inl rfl) (pe_lst (pa_cons (pe_oexK T.ev_BadNumber.o T.ev_BadNumber.i T.ev_BadNumber.t F_BadNumber_init hr_BadNumber_init kb_BadNumber_init_0 passL rfl T.g_BadNumber (pk_cons (pv 0) pk_nil)) (pa_cons (pe_oexK T.ev_BadBound.o T.ev_BadBound.i T.ev_BadBound.t F_BadBound_init hr_BadBound_init kb_BadBound_init_0 passL rfl T.g_BadBound (pk_cons (pv 0) pk_nil)) (pa_cons (pe_oexK T.ev_BadPoly.o T.ev_BadPoly.i T.ev_BadPoly.t F_BadPoly_init hr_BadPoly_init kb_BadPoly_init_0 passL rfl T.g_BadPoly (pk_cons (pv 0) pk_nil)) (pa_cons (pe_oexK T.ev_BadWeb.o T.ev_BadWeb.i T.ev_BadWeb.t F_BadWeb_init hr_BadWeb_init kb_BadWeb_init_0 passL rfl T.g_BadWeb (pk_cons (pv 0) pk_nil)) (pa_cons (pe_oexK T.ev_BadSigns.o T.ev_BadSigns.i T.ev_BadSigns.t F_BadSigns_init hr_BadSigns_init kb_BadSigns_init_0 passL rfl T.g_BadSigns (pk_cons (pv 0) pk_nil)) pa_nil)))))))
      (pss_cons (ps_set (i := 2) sc__law_parts_right.nd rfl (Or.inl rfl) (pe_op op_cat (pv 2) (pe_lst (pa_cons (pe_oexK T.ev_BadVectors.o T.ev_BadVectors.i T.ev_BadVectors.t F_BadVectors_init hr_BadVectors_init kb_BadVectors_init_0 passL rfl T.g_BadVectors (pk_cons (pv 0) pk_nil)) (pa_cons (pe_oexK T.ev_BadLots.o T.ev_BadLots.i T.ev_BadLots.t F_BadLots_init hr_BadLots_init kb_BadLots_init_0 passL rfl T.g_BadLots (pk_cons (pv 0) pk_nil)) (pa_cons (pe_oexK T.ev_BadRound.o T.ev_BadRound.i T.ev_BadRound.t F_BadRound_init hr_BadRound_init kb_BadRound_init_0 passL rfl T.g_BadRound (pk_cons (pv 0) pk_nil)) (pa_cons (pe_oexK T.ev_BadDesk.o T.ev_BadDesk.i T.ev_BadDesk.t F_BadDesk_init hr_BadDesk_init kb_BadDesk_init_0 passL rfl T.g_BadDesk (pk_cons (pv 0) pk_nil)) (pa_cons (pe_oexK T.ev_Misfit.o T.ev_Misfit.i T.ev_Misfit.t F_Misfit_init hr_Misfit_init kb_Misfit_init_0 passL rfl T.g_Misfit (pk_cons (pv 0) pk_nil)) pa_nil))))))))
      (pss_cons (ps_for (passes_of rfl) rfl (pi_range1 (by rfl) T.b_range (pa_cons pe_int pa_nil)) (pg_name (i := 3) sc__law_parts_right.nd rfl (Or.inl rfl)) (pss_one (ps_if (PW.pt (pw_or (pt_cmpR (op_neS (Nat.lt_of_le_of_lt (Nat.le_add_right _ _) hr.units)) (pe_lst (pa_cons (pe_xV (K := K) rfl (pe_ix (kx_ixl rfl) (pv 1) (pv 3) (fun _ _ => rfl))) (pa_cons (pe_xV (K := K) rfl (pe_ix (kx_ixl rfl) (pv 2) (pv 3) (fun _ _ => rfl))) pa_nil))) (pe_lst (pa_cons (pv 0) (pa_cons (pv 0) pa_nil))) (nomark _)) (pw_or (pt_not (pt_val (pe_call F__law_stands hr__law_stands (by rfl) T.g__law_stands T.k__law_stands B__law_stands .nil passL (pa_cons (pe_ix (kx_ixl rfl) (pv 1) (pv 3) (fun _ _ => rfl)) (pa_cons (pv 3) pa_nil))))) (pw_or1 (pt_not (pt_val (pe_call F__law_stands hr__law_stands (by rfl) T.g__law_stands T.k__law_stands B__law_stands .nil passL (pa_cons (pe_ix (kx_ixl rfl) (pv 2) (pv 3) (fun _ _ => rfl)) (pa_cons (pv 3) pa_nil))))))))) (pss_one (ps_ret pe_bl)) pss_nil)))
      (pss_one (ps_ret pe_bl))))))), ?_⟩
  have u : Ex H H := Ex.refl _
  have s0 : Es K H "part" v [] [] := trivial
  walk_at "rd"
  refine r_V1 T.ev_BadNumber rfl fun a1 H1 e1 h1 => ?_
  replace s0 := s0.ex e1
  replace s0 := s0.snoc h1
  replace u := u.trans e1
  walk_at "rd"
  refine r_V1 T.ev_BadBound rfl fun a2 H2 e2 h2 => ?_
  replace s0 := s0.ex e2
  replace s0 := s0.snoc h2
  replace u := u.trans e2
  walk_at "rd"
  refine r_V1 T.ev_BadPoly rfl fun a3 H3 e3 h3 => ?_
  replace s0 := s0.ex e3
  replace s0 := s0.snoc h3
  replace u := u.trans e3
  walk_at "rd"
  refine r_V1 T.ev_BadWeb rfl fun a4 H4 e4 h4 => ?_
  replace s0 := s0.ex e4
  replace s0 := s0.snoc h4
  replace u := u.trans e4
  walk_at "rd"
  refine r_V1 T.ev_BadSigns rfl fun a5 H5 e5 h5 => ?_
  replace s0 := s0.ex e5
  replace s0 := s0.snoc h5
  replace u := u.trans e5
  walk_at "rd"
  refine r_V1 T.ev_BadVectors rfl fun a6 H6 e6 h6 => ?_
  replace s0 := s0.ex e6
  replace s0 := s0.snoc h6
  replace u := u.trans e6
  walk_at "rd"
  refine r_V1 T.ev_BadLots rfl fun a7 H7 e7 h7 => ?_
  replace s0 := s0.ex e7
  replace s0 := s0.snoc h7
  replace u := u.trans e7
  walk_at "rd"
  refine r_newL (sz_le (by simp)) fun p8 H8 _ e8 l8 => ?_
  replace u := u.trans e8
  replace s0 := s0.ex e8
  walk_at "rd"
  refine r_V1 T.ev_BadRound rfl fun a9 H9 e9 h9 => ?_
  replace s0 := s0.ex e9
  replace s0 := s0.snoc h9
  replace u := u.trans e9
  walk_at "rd"
  replace l8 := e9 _ _ l8
  refine r_V1 T.ev_BadDesk rfl fun a10 H10 e10 h10 => ?_
  replace s0 := s0.ex e10
  replace s0 := s0.snoc h10
  replace u := u.trans e10
  walk_at "rd"
  replace l8 := e10 _ _ l8
  refine r_V1 T.ev_Misfit rfl fun a11 H11 e11 h11 => ?_
  replace s0 := s0.ex e11
  replace s0 := s0.snoc h11
  replace u := u.trans e11
  walk_at "rd"
  replace l8 := e11 _ _ l8
  refine r_newL (sz_le (by simp)) fun p12 H12 _ e12 l12 => ?_
  replace u := u.trans e12
  replace s0 := s0.ex e12
  replace l8 := e12 _ _ l8
  refine r_cat l8 l12 (by simp) fun p13 H13 _ e13 l13 => ?_
  replace u := u.trans e13
  replace s0 := s0.ex e13
  have t0 : Es K H13 "part" v [] [] := trivial
  walk_at "rd"
  refine r_K1 T.ev_BadNumber rfl fun b14 H14 e14 h14 => ?_
  replace t0 := t0.ex e14
  replace s0 := s0.ex e14
  replace t0 := t0.snoc h14
  replace u := u.trans e14
  walk_at "rd"
  replace l13 := e14 _ _ l13
  refine r_K1 T.ev_BadBound rfl fun b15 H15 e15 h15 => ?_
  replace t0 := t0.ex e15
  replace s0 := s0.ex e15
  replace t0 := t0.snoc h15
  replace u := u.trans e15
  walk_at "rd"
  replace l13 := e15 _ _ l13
  refine r_K1 T.ev_BadPoly rfl fun b16 H16 e16 h16 => ?_
  replace t0 := t0.ex e16
  replace s0 := s0.ex e16
  replace t0 := t0.snoc h16
  replace u := u.trans e16
  walk_at "rd"
  replace l13 := e16 _ _ l13
  refine r_K1 T.ev_BadWeb rfl fun b17 H17 e17 h17 => ?_
  replace t0 := t0.ex e17
  replace s0 := s0.ex e17
  replace t0 := t0.snoc h17
  replace u := u.trans e17
  walk_at "rd"
  replace l13 := e17 _ _ l13
  refine r_K1 T.ev_BadSigns rfl fun b18 H18 e18 h18 => ?_
  replace t0 := t0.ex e18
  replace s0 := s0.ex e18
  replace t0 := t0.snoc h18
  replace u := u.trans e18
  walk_at "rd"
  replace l13 := e18 _ _ l13
  refine r_newL (sz_le (by simp)) fun p19 H19 _ e19 l19 => ?_
  replace u := u.trans e19
  replace t0 := t0.ex e19
  replace s0 := s0.ex e19
  replace l13 := e19 _ _ l13
  walk_at "rd"
  refine r_K1 T.ev_BadVectors rfl fun b20 H20 e20 h20 => ?_
  replace t0 := t0.ex e20
  replace s0 := s0.ex e20
  replace t0 := t0.snoc h20
  replace u := u.trans e20
  walk_at "rd"
  replace l13 := e20 _ _ l13
  replace l19 := e20 _ _ l19
  refine r_K1 T.ev_BadLots rfl fun b21 H21 e21 h21 => ?_
  replace t0 := t0.ex e21
  replace s0 := s0.ex e21
  replace t0 := t0.snoc h21
  replace u := u.trans e21
  walk_at "rd"
  replace l13 := e21 _ _ l13
  replace l19 := e21 _ _ l19
  refine r_K1 T.ev_BadRound rfl fun b22 H22 e22 h22 => ?_
  replace t0 := t0.ex e22
  replace s0 := s0.ex e22
  replace t0 := t0.snoc h22
  replace u := u.trans e22
  walk_at "rd"
  replace l13 := e22 _ _ l13
  replace l19 := e22 _ _ l19
  refine r_K1 T.ev_BadDesk rfl fun b23 H23 e23 h23 => ?_
  replace t0 := t0.ex e23
  replace s0 := s0.ex e23
  replace t0 := t0.snoc h23
  replace u := u.trans e23
  walk_at "rd"
  replace l13 := e23 _ _ l13
  replace l19 := e23 _ _ l19
  refine r_K1 T.ev_Misfit rfl fun b24 H24 e24 h24 => ?_
  replace t0 := t0.ex e24
  replace s0 := s0.ex e24
  replace t0 := t0.snoc h24
  replace u := u.trans e24
  walk_at "rd"
  replace l13 := e24 _ _ l13
  replace l19 := e24 _ _ l19
  refine r_newL (sz_le (by simp)) fun p25 H25 _ e25 l25 => ?_
  replace u := u.trans e25
  replace t0 := t0.ex e25
  replace s0 := s0.ex e25
  replace l13 := e25 _ _ l13
  replace l19 := e25 _ _ l19
  refine r_cat l19 l25 (by simp) fun p26 H26 _ e26 l26 => ?_
  replace u := u.trans e26
  replace t0 := t0.ex e26
  replace s0 := s0.ex e26
  replace l13 := e26 _ _ l13
  walk_at "rd"
  obtain ⟨as, mA, sA⟩ : ∃ as : List Addr, H26 p13 = some (.lst (as.map V.ref)) ∧ Es K H26 "part" v as parts := ⟨[a1, a2, a3, a4, a5, a6, a7, a9, a10, a11], l13, s0⟩
  obtain ⟨bs, mB, sB⟩ : ∃ bs : List Addr, H26 p26 = some (.lst (bs.map V.ref)) ∧ Es K H26 "part" v bs parts := ⟨[b14, b15, b16, b17, b18, b20, b21, b22, b23, b24], l26, t0⟩
  clear s0 t0 l13 l26
  refine ⟨10, rfl, by decide, by decide, ?_⟩
  refine for_of (walk_range (lo := 0) (n := 10)) (fun i σ H' => Ex H26 H' ∧ ∃ s3, σ = [some v, some (.ref p13), some (.ref p26), s3]) ⟨Ex.refl _, none, rfl⟩ (fun _ _ _ _ _ => trivial) ?_ ?_
  · rintro i x σ H2 H' hi ⟨g, s3, rfl⟩ ⟨rfl, rfl⟩
    obtain ⟨x, hx⟩ : ∃ x, parts[i]? = some x := ⟨_, List.getElem?_eq_getElem (by simpa [parts] using hi)⟩
    have hn : N19[i]? = some x := by
      have : N19 = parts ++ N19.drop 10 := rfl
      rw [this, List.getElem?_append_left (List.getElem?_eq_some_iff.mp hx).1]
      exact hx
    have ev := ev_parts T x (List.mem_of_getElem? hx)
    obtain ⟨a, ha, ea⟩ := sA.get hx
    obtain ⟨b, hb, eb⟩ := sB.get hx
    have ia : atI (as.map V.ref) (0 + (i : Int)) = some (.ref a) := by rw [Int.zero_add]; exact atI_nat (by rw [List.getElem?_map, ha]; rfl)
    have ib : atI (bs.map V.ref) (0 + (i : Int)) = some (.ref b) := by rw [Int.zero_add]; exact atI_nat (by rw [List.getElem?_map, hb]; rfl)
    have no_ := ev.no_ "part" List.mem_cons_self
    walk_at "rd"
    refine r_tXV ?_
    walk_at "rd"
    refine r_ixL (g _ _ mA) ia ?_
    refine r_xV (ea.ex g) ev.xf no_ rfl ?_
    walk_at "rd"
    refine r_tXV ?_
    walk_at "rd"
    refine r_ixL (g _ _ mB) ib ?_
    refine r_xV (eb.ex g) ev.xf no_ rfl ?_
    walk_at "rd"
    refine r_newL (sz_le (by simp)) fun q1 G1 _ f1 k1 => ?_
    walk_at "rd"
    refine r_newL (sz_le (by simp)) fun q2 G2 _ f2 k2 => ?_
    refine r_neL2 ov.same ov.same (f2 _ _ k1) k2 ?_
    have g2 := g.trans (f1.trans f2)
    walk_at "rd"
    refine ite_f rfl ?_
    walk_at "rd"
    refine r_ixL (g2 _ _ mA) ia ?_
    walk_at "rd"
    refine ⟨a, x, _, i, rfl, congrArg V.int (Int.zero_add _), hn, ea.ex g2, fun G3 f3 => ?_⟩
    refine ⟨_, rfl, ite_f rfl ?_⟩
    have g3 := g2.trans f3
    walk_at "rd"
    refine r_ixL (g3 _ _ mB) ib ?_
    walk_at "rd"
    refine ⟨b, x, _, i, rfl, congrArg V.int (Int.zero_add _), hn, eb.ex g3, fun G4 f4 => ?_⟩
    refine ⟨_, rfl, ite_f rfl ?_⟩
    walk_at "rd"
    exact ⟨g3.trans f4, _, rfl⟩
  · rintro σ H2 ⟨g, s3, rfl⟩
    walk_at "rd"
    exact k _ (u.trans g)

end K00
namespace K00
open PySem PySem.Spec PyProof.Rows L2 GS TL LamX
local macro_rules | `(tactic| walk_at "rd") => `(tactic| (repeat (first
  | with_reducible refine r_next ?_
  | with_reducible refine r_seq ?_
  | with_reducible refine r_ret ?_
  | with_reducible refine r_ifS ?_
  | with_reducible refine r_asg ?_
  | with_reducible refine r_drop ?_
  | with_reducible refine r_op ?_
  | with_reducible refine r_un ?_
  | with_reducible refine r_cbInt ?_
  | with_reducible refine r_cbAbs ?_
  | with_reducible refine r_cbLen ?_
  | with_reducible refine r_cbList ?_
  | with_reducible refine r_cbTup ?_
  | with_reducible refine r_iEnT ?_
  | with_reducible refine r_iEnL ?_
  | with_reducible refine r_zipA ?_
  | with_reducible refine r_zipX ?_
  | with_reducible refine r_augS ?_
  | with_reducible refine r_cb ?_
  | with_reducible refine r_call ?_
  | with_reducible refine r_make ?_
  | with_reducible refine r_callN0 ?_
  | with_reducible refine r_makeK0 ?_
  | with_reducible refine r_makeS ?_
  | with_reducible refine r_callS ?_
  | with_reducible refine r_cons ?_
  | with_reducible refine r_nil ?_
  | with_reducible refine r_test ?_
  | with_reducible refine r_B ?_
  | with_reducible refine r_and ?_
  | with_reducible refine r_or ?_
  | with_reducible refine r_not ?_
  | with_reducible refine r_andV ?_
  | with_reducible refine r_orV ?_
  | with_reducible refine r_notV ?_
  | with_reducible refine r_if ?_
  | with_reducible refine r_tup ?_
  | with_reducible refine r_lst ?_
  | with_reducible refine r_c ?_
  | with_reducible refine r_lc ?_
  | with_reducible refine r_chain ?_
  | with_reducible refine r_iT ?_
  | with_reducible refine r_iL ?_
  | with_reducible refine r_iR1 ?_
  | with_reducible refine r_iR2 ?_
  | with_reducible refine r_iR3 ?_
  | with_reducible refine r_asgG ?_
  | with_reducible refine r_gSub ?_
  | with_reducible refine r_for ?_
  | with_reducible refine r_smeth ?_
  | with_reducible refine r_par ?_
  | with_reducible refine r_parK ?_
  | with_reducible refine r_gCons ?_
  | with_reducible refine r_gNil ?_
  | with_reducible refine r_gName ?_
  | with_reducible refine r_intI ?_
  | with_reducible refine r_intB ?_
  | with_reducible refine r_absI ?_
  | with_reducible refine r_k ?_
  | with_reducible refine r_kV ?_
  | ((with_reducible show tVar _ _ _ _); refine r_var3 ?_ (by rfl))
  | with_reducible refine r_I0 ?_
  | with_reducible refine r_U ?_
  | with_reducible refine r_eqI ?_
  | with_reducible refine r_neI ?_
  | dsimp only)))
local macro_rules | `(tactic| walk_at "rx") => `(tactic| (repeat (first
  | with_reducible refine r_next ?_
  | with_reducible refine r_ret ?_
  | with_reducible refine r_ifS ?_
  | with_reducible refine r_asg ?_
  | with_reducible refine r_drop ?_
  | with_reducible refine r_op ?_
  | with_reducible refine r_un ?_
  | with_reducible refine r_cbInt ?_
  | with_reducible refine r_cbAbs ?_
  | with_reducible refine r_cbLen ?_
  | with_reducible refine r_cbList ?_
  | with_reducible refine r_cbTup ?_
  | with_reducible refine r_iEnT ?_
  | with_reducible refine r_iEnL ?_
  | with_reducible refine r_zipA ?_
  | with_reducible refine r_zipX ?_
  | with_reducible refine r_augS ?_
  | with_reducible refine r_cb ?_
  | with_reducible refine r_call ?_
  | with_reducible refine r_make ?_
  | with_reducible refine r_callN0 ?_
  | with_reducible refine r_makeK0 ?_
  | with_reducible refine r_makeS ?_
  | with_reducible refine r_callS ?_
  | with_reducible refine r_cons ?_
  | with_reducible refine r_nil ?_
  | with_reducible refine r_test ?_
  | with_reducible refine r_B ?_
  | with_reducible refine r_and ?_
  | with_reducible refine r_or ?_
  | with_reducible refine r_not ?_
  | with_reducible refine r_andV ?_
  | with_reducible refine r_orV ?_
  | with_reducible refine r_notV ?_
  | with_reducible refine r_if ?_
  | with_reducible refine r_tup ?_
  | with_reducible refine r_lst ?_
  | with_reducible refine r_c ?_
  | with_reducible refine r_lc ?_
  | with_reducible refine r_chain ?_
  | with_reducible refine r_iT ?_
  | with_reducible refine r_iL ?_
  | with_reducible refine r_iR1 ?_
  | with_reducible refine r_iR2 ?_
  | with_reducible refine r_iR3 ?_
  | with_reducible refine r_asgG ?_
  | with_reducible refine r_gSub ?_
  | with_reducible refine r_for ?_
  | with_reducible refine r_smeth ?_
  | with_reducible refine r_par ?_
  | with_reducible refine r_parK ?_
  | with_reducible refine r_gCons ?_
  | with_reducible refine r_gNil ?_
  | with_reducible refine r_gName ?_
  | with_reducible refine r_intI ?_
  | with_reducible refine r_intB ?_
  | with_reducible refine r_absI ?_
  | with_reducible refine r_k ?_
  | with_reducible refine r_kV ?_
  | ((with_reducible show tVar _ _ _ _); refine r_var3 ?_ (by rfl))
  | with_reducible refine r_I0 ?_
  | with_reducible refine r_U ?_
  | with_reducible refine r_eqI ?_
  | with_reducible refine r_neI ?_
  | dsimp only)))
theorem r_iEnL {K : PySem.W.Frag} {σ : L2.St} {H : Hp} {ta : TA} {R : It → Hp → Prop} (q : ta σ H fun vs H1 => ∃ a xs, vs = [.ref a] ∧ SqL K H1 a xs ∧ R (Ite K a) H1) : iEnum K ta σ H R := q
theorem r_rep19 {H : Hp} {Q : VK} {q : Addr} (h : H q = some (.lst [.bl false])) (g : ∀ p H', H p = none → Ex H H' → H' p = some (.lst ((List.replicate 19 false).map V.bl)) → Q (.ref p) H') : rRep (.ref q) (.int 19) H Q :=
  ⟨q, 19, [.bl false], rfl, rfl, h, by decide, by decide, sz_le (by decide), fun p hp => g p _ hp (Ex.new hp) upd_same⟩
theorem r_V2 {K : PySem.W.Frag} {σ : L2.St} {H : Hp} {Q : VK} {n m : Nat} {x d f g : Str} {v w : V} (ev : EvC K x d [f, g]) (hs : σ[n]? = some (some v)) (ht : σ[m]? = some (some w)) (q : ∀ a H', Ex H H' → ErV H' a (He.ga K x) [(g, w), (f, v)] → Q (.ref a) H') : tMkV (He.ga K x) (spE2 K f g) [] (tCons (tVar n) (tCons (tVar m) tNil)) σ H Q :=
  ⟨_, hs, _, ht, r_v2 ev.o (ev.no_ f (by simp)) (ev.no_ g (by simp)) rfl q⟩
theorem r_K2 {K : PySem.W.Frag} {σ : L2.St} {H : Hp} {Q : VK} {n m : Nat} {x d f g : Str} {v w : V} (ev : EvC K x d [f, g]) (hs : σ[n]? = some (some v)) (ht : σ[m]? = some (some w)) (q : ∀ a H', Ex H H' → ErV H' a (He.ga K x) [(g, w), (f, v)] → Q (.ref a) H') : tMkVK (He.ga K x) 2 (spE2 K f g) (pm [0, 2, 1]) (tCons (tVar m) (tCons (tVar n) tNil)) σ H Q :=
  ⟨_, ht, _, hs, r_k2 ev.o (ev.no_ f (by simp)) (ev.no_ g (by simp)) rfl q⟩
def valN : List Str := ["NoPlace", "NoTie", "NoName", "Twice", "NoPlace", "NoTie", "NoName", "Twice"]
theorem ev_vals {K : PySem.W.Frag} {mg : Str → Option Value} (T : Txt K mg) : ∀ x ∈ valN, XfC K (He.ga K x) ∧ PySem.W.findIn K (.ref (He.ga K x)) "value" = some none := by
  intro x hx
  simp only [valN, List.mem_cons, List.mem_nil_iff, or_false] at hx
  rcases hx with rfl | rfl | rfl | rfl | rfl | rfl | rfl | rfl
  · exact ⟨T.ev_NoPlace.xf, T.ev_NoPlace.no_ _ (by simp)⟩
  · exact ⟨T.ev_NoTie.xf, T.ev_NoTie.no_ _ (by simp)⟩
  · exact ⟨T.ev_NoName.xf, T.ev_NoName.no_ _ (by simp)⟩
  · exact ⟨T.ev_Twice.xf, T.ev_Twice.no_ _ (by simp)⟩
  · exact ⟨T.ev_NoPlace.xf, T.ev_NoPlace.no_ _ (by simp)⟩
  · exact ⟨T.ev_NoTie.xf, T.ev_NoTie.no_ _ (by simp)⟩
  · exact ⟨T.ev_NoName.xf, T.ev_NoName.no_ _ (by simp)⟩
  · exact ⟨T.ev_Twice.xf, T.ev_Twice.no_ _ (by simp)⟩
theorem val_at : ∀ i : Nat, i < 8 → ∃ x, valN[i]? = some x ∧ N19[10 + i % 4]? = some x := by
  have key : ∀ i : Fin 8, valN[i.val]? = N19[10 + i.val % 4]? ∧ (valN[i.val]?).isSome = true := by decide +kernel
  intro i hi
  obtain ⟨h1, h2⟩ := key ⟨i, hi⟩
  obtain ⟨x, hx⟩ := Option.isSome_iff_exists.mp h2
  exact ⟨x, hx, h1 ▸ hx⟩
def spValues (K : PySem.W.Frag) : Sp := sp2 fun v w H Q _ => OneV H v ∧ OneV H w ∧ ∀ H', Ex H H' → Q (.bl true) H'
theorem ok__law_values_right {P : Program} {w : World} {K : PySem.W.Frag} {mg : Str → Option Value} {base : Heap} (T : Txt K mg) : ∃ fd, FnOk P w K mg base (L2.CX P w) 3 (He.ga K "_law_values_right") fd ["one", "other"] (spValues K) ∧ Binds K fd ["one", "other"] [] := by
  obtain ⟨fd, F⟩ := T.d__law_values_right
  obtain ⟨fd__law_stands, F__law_stands, B__law_stands⟩ := ok__law_stands (P := P) (w := w) (base := base) T
  obtain ⟨fd_BadLine_init, F_BadLine_init, B_BadLine_init, kb_BadLine_init_0⟩ := ok_BadLine_init (P := P) (w := w) (base := base) T
  obtain ⟨fd_BadText_init, F_BadText_init, B_BadText_init, kb_BadText_init_0⟩ := ok_BadText_init (P := P) (w := w) (base := base) T
  obtain ⟨fd_Impossible_init, F_Impossible_init, B_Impossible_init, kb_Impossible_init_0⟩ := ok_Impossible_init (P := P) (w := w) (base := base) T
  obtain ⟨fd_TooMany_init, F_TooMany_init, B_TooMany_init, kb_TooMany_init_0⟩ := ok_TooMany_init (P := P) (w := w) (base := base) T
  obtain ⟨fd__law_kin, F__law_kin, B__law_kin⟩ := ok__law_kin (P := P) (w := w) (base := base) T
  obtain ⟨fd_Missing_init, F_Missing_init, B_Missing_init, kb_Missing_init_0⟩ := ok_Missing_init (P := P) (w := w) (base := base) T
  obtain ⟨fd_Twice_init, F_Twice_init, B_Twice_init, kb_Twice_init_0⟩ := ok_Twice_init (P := P) (w := w) (base := base) T
  refine ⟨fd, F.ok sc__law_values_right sp2_len (fun cdv A outer s H vs Q E hr h => ?_), F.bindsN fun _ _ _ _ _ _ us hl => match us, hl with | [_, _], _ => rfl⟩
  have hr__law_stands : Room 2 _ := hr.mono (by decide)
  have hr_BadLine_init : Room 2 _ := hr.mono (by decide)
  have hr_BadText_init : Room 2 _ := hr.mono (by decide)
  have hr_Impossible_init : Room 2 _ := hr.mono (by decide)
  have hr_TooMany_init : Room 2 _ := hr.mono (by decide)
  have hr__law_kin : Room 1 _ := hr.mono (by decide)
  have hr_Missing_init : Room 2 _ := hr.mono (by decide)
  have hr_Twice_init : Room 2 _ := hr.mono (by decide)
  obtain ⟨v, w', rfl, ov, ow, k⟩ := sp2_is h
  refine ⟨_, (pss_cons (ps_set (i := 2) sc__law_values_right.nd rfl (Or.inl rfl) (pe_lst (pa_cons (pe_oexV T.ev_NoPlace.o T.ev_NoPlace.i T.ev_NoPlace.t F_Missing_init hr_Missing_init B_Missing_init .nil passL rfl T.g_NoPlace (pa_cons (pv 0) pa_nil)) (pa_cons (pe_oexV T.ev_NoTie.o T.ev_NoTie.i T.ev_NoTie.t F_Missing_init hr_Missing_init B_Missing_init .nil passL rfl T.g_NoTie (pa_cons (pv 0) pa_nil)) (pa_cons (pe_oexV T.ev_NoName.o T.ev_NoName.i T.ev_NoName.t F_Missing_init hr_Missing_init B_Missing_init .nil passL rfl T.g_NoName (pa_cons (pv 0) pa_nil)) (pa_cons (pe_oexV T.ev_Twice.o T.ev_Twice.i T.ev_Twice.t F_Twice_init hr_Twice_init B_Twice_init .nil passL rfl T.g_Twice (pa_cons (pv 0) pa_nil)) (pa_cons (pe_oexK T.ev_NoPlace.o T.ev_NoPlace.i T.ev_NoPlace.t F_Missing_init hr_Missing_init kb_Missing_init_0 passL rfl T.g_NoPlace (pk_cons (pv 0) pk_nil)) (pa_cons (pe_oexK T.ev_NoTie.o T.ev_NoTie.i T.ev_NoTie.t F_Missing_init hr_Missing_init kb_Missing_init_0 passL rfl T.g_NoTie (pk_cons (pv 0) pk_nil)) (pa_cons (pe_oexK T.ev_NoName.o T.ev_NoName.i T.ev_NoName.t F_Missing_init hr_Missing_init kb_Missing_init_0 passL rfl T.g_NoName (pk_cons (pv 0) pk_nil)) (pa_cons (pe_oexK T.ev_Twice.o T.ev_Twice.i T.ev_Twice.t F_Twice_init hr_Twice_init kb_Twice_init_0 passL rfl T.g_Twice (pk_cons (pv 0) pk_nil)) pa_nil))))))))))
      (pss_cons (ps_for (passes_of rfl) rfl (pi_enum (by rfl) T.b_enumerate (pa_cons (pv 2) pa_nil)) (pg_tup rfl (pgs_cons (pg_name (i := 3) sc__law_values_right.nd rfl (Or.inl rfl)) (pgs_cons (pg_name (i := 4) sc__law_values_right.nd rfl (Or.inl rfl)) pgs_nil))) (pss_one (ps_if (PW.pt (pw_or (pt_cmpR (op_neS (Nat.lt_of_le_of_lt (Nat.le_add_right _ _) hr.units)) (pe_xV (K := K) rfl (pv 4)) (pv 0) (nomark _)) (pw_or1 (pt_not (pt_val (pe_call F__law_stands hr__law_stands (by rfl) T.g__law_stands T.k__law_stands B__law_stands .nil passL (pa_cons (pv 4) (pa_cons (pe_op op_add pe_int (pe_op op_mod (pe_callTy call_int1 (by rfl) T.b_int (by decide +kernel) (pa_cons (pv 3) pa_nil)) pe_int)) pa_nil)))))))) (pss_one (ps_ret pe_bl)) pss_nil)))
      (pss_cons (ps_set (i := 5) sc__law_values_right.nd rfl (Or.inl rfl) (pe_oexK T.ev_Missing.o T.ev_Missing.i T.ev_Missing.t F_Missing_init hr_Missing_init kb_Missing_init_0 passL rfl T.g_Missing (pk_cons (pv 0) pk_nil)))
      (pss_cons (ps_if (PW.pt (pw_or (pt_cmpR (op_neS (Nat.lt_of_le_of_lt (Nat.le_add_right _ _) hr.units)) (pe_xV (K := K) rfl (pv 5)) (pv 0) (nomark _)) (pw_or (pt_cmpR (op_neS (Nat.lt_of_le_of_lt (Nat.le_add_right _ _) hr.units)) (pe_xV (K := K) rfl (pe_oexV T.ev_Missing.o T.ev_Missing.i T.ev_Missing.t F_Missing_init hr_Missing_init B_Missing_init .nil passL rfl T.g_Missing (pa_cons (pv 1) pa_nil))) (pv 1) (nomark _)) (pw_or (pt_cmpR (op_neD hr.units) (pe_call F__law_kin hr__law_kin (by rfl) T.g__law_kin T.k__law_kin B__law_kin .nil passL (pa_cons (pv 5) pa_nil)) (pe_op op_rep (pe_lst (pa_cons pe_bl pa_nil)) pe_int) (nomark _)) (pw_or1 (pt_not (pt_val (pe_callB (cr_isV (K := K) rfl) (by rfl) T.b_isinstance (by decide +kernel) (pa_cons (pv 5) (pa_cons (pe_glob (v := .ref (He.ga K "SignsError")) rfl T.g_SignsError rfl) pa_nil)))))))))) (pss_one (ps_ret pe_bl)) pss_nil)
      (pss_cons (ps_for (passes_of rfl) rfl (pi_tup (pe_tup (pa_cons (pe_oexV T.ev_TooMany.o T.ev_TooMany.i T.ev_TooMany.t F_TooMany_init hr_TooMany_init B_TooMany_init .nil passL rfl T.g_TooMany (pa_cons (pv 0) (pa_cons (pv 1) pa_nil))) (pa_cons (pe_oexK T.ev_TooMany.o T.ev_TooMany.i T.ev_TooMany.t F_TooMany_init hr_TooMany_init kb_TooMany_init_0 passL rfl T.g_TooMany (pk_cons (pv 1) (pk_cons (pv 0) pk_nil))) pa_nil)))) (pg_name (i := 4) sc__law_values_right.nd rfl (Or.inl rfl)) (pss_one (ps_if (PW.pt (pw_or (pt_cmpR (op_neS (Nat.lt_of_le_of_lt (Nat.le_add_right _ _) hr.units)) (pe_lst (pa_cons (pe_xV (K := K) rfl (pv 4)) (pa_cons (pe_xV (K := K) rfl (pv 4)) pa_nil))) (pe_lst (pa_cons (pv 0) (pa_cons (pv 1) pa_nil))) (nomark _)) (pw_or1 (pt_not (pt_val (pe_call F__law_stands hr__law_stands (by rfl) T.g__law_stands T.k__law_stands B__law_stands .nil passL (pa_cons (pv 4) (pa_cons pe_int pa_nil)))))))) (pss_one (ps_ret pe_bl)) pss_nil)))
      (pss_cons (ps_for (passes_of rfl) rfl (pi_tup (pe_tup (pa_cons (pe_oexV T.ev_Impossible.o T.ev_Impossible.i T.ev_Impossible.t F_Impossible_init hr_Impossible_init B_Impossible_init .nil passL rfl T.g_Impossible (pa_cons (pv 0) pa_nil)) (pa_cons (pe_oexK T.ev_Impossible.o T.ev_Impossible.i T.ev_Impossible.t F_Impossible_init hr_Impossible_init kb_Impossible_init_0 passL rfl T.g_Impossible (pk_cons (pv 0) pk_nil)) pa_nil)))) (pg_name (i := 4) sc__law_values_right.nd rfl (Or.inl rfl)) (pss_one (ps_if (PW.pt (pw_or (pt_cmpR (op_neS (Nat.lt_of_le_of_lt (Nat.le_add_right _ _) hr.units)) (pe_xV (K := K) rfl (pv 4)) (pv 0) (nomark _)) (pw_or1 (pt_not (pt_val (pe_call F__law_stands hr__law_stands (by rfl) T.g__law_stands T.k__law_stands B__law_stands .nil passL (pa_cons (pv 4) (pa_cons pe_int pa_nil)))))))) (pss_one (ps_ret pe_bl)) pss_nil)))
      (pss_cons (ps_for (passes_of rfl) rfl (pi_tup (pe_tup (pa_cons (pe_oexV T.ev_BadText.o T.ev_BadText.i T.ev_BadText.t F_BadText_init hr_BadText_init B_BadText_init .nil passL rfl T.g_BadText (pa_cons (pv 0) (pa_cons (pv 1) pa_nil))) (pa_cons (pe_oexK T.ev_BadText.o T.ev_BadText.i T.ev_BadText.t F_BadText_init hr_BadText_init kb_BadText_init_0 passL rfl T.g_BadText (pk_cons (pv 1) (pk_cons (pv 0) pk_nil))) pa_nil)))) (pg_name (i := 4) sc__law_values_right.nd rfl (Or.inl rfl)) (pss_one (ps_if (PW.pt (pw_or (pt_cmpR (op_neS (Nat.lt_of_le_of_lt (Nat.le_add_right _ _) hr.units)) (pe_lst (pa_cons (pe_xV (K := K) rfl (pv 4)) (pa_cons (pe_xV (K := K) rfl (pv 4)) pa_nil))) (pe_lst (pa_cons (pv 0) (pa_cons (pv 1) pa_nil))) (nomark _)) (pw_or1 (pt_not (pt_val (pe_call F__law_stands hr__law_stands (by rfl) T.g__law_stands T.k__law_stands B__law_stands .nil passL (pa_cons (pv 4) (pa_cons pe_int pa_nil)))))))) (pss_one (ps_ret pe_bl)) pss_nil)))
      (pss_cons (ps_for (passes_of rfl) rfl (pi_tup (pe_tup (pa_cons (pe_oexV T.ev_BadLine.o T.ev_BadLine.i T.ev_BadLine.t F_BadLine_init hr_BadLine_init B_BadLine_init .nil passL rfl T.g_BadLine (pa_cons (pv 0) (pa_cons (pv 1) pa_nil))) (pa_cons (pe_oexK T.ev_BadLine.o T.ev_BadLine.i T.ev_BadLine.t F_BadLine_init hr_BadLine_init kb_BadLine_init_0 passL rfl T.g_BadLine (pk_cons (pv 1) (pk_cons (pv 0) pk_nil))) pa_nil)))) (pg_name (i := 4) sc__law_values_right.nd rfl (Or.inl rfl)) (pss_one (ps_if (PW.pt (pw_or (pt_cmpR (op_neS (Nat.lt_of_le_of_lt (Nat.le_add_right _ _) hr.units)) (pe_lst (pa_cons (pe_xV (K := K) rfl (pv 4)) (pa_cons (pe_xV (K := K) rfl (pv 4)) pa_nil))) (pe_lst (pa_cons (pv 0) (pa_cons (pv 1) pa_nil))) (nomark _)) (pw_or1 (pt_not (pt_val (pe_call F__law_stands hr__law_stands (by rfl) T.g__law_stands T.k__law_stands B__law_stands .nil passL (pa_cons (pv 4) (pa_cons pe_int pa_nil)))))))) (pss_one (ps_ret pe_bl)) pss_nil)))
      (pss_one (ps_ret (pe_call F__law_stands hr__law_stands (by rfl) T.g__law_stands T.k__law_stands B__law_stands .nil passL (pa_cons (pe_exc0 PySem.F.excBase_ValueError T.ez_Nothing.q T.g_Nothing T.ez_Nothing.k rfl) (pa_cons pe_int pa_nil))))))))))))), ?_⟩
  have u : Ex H H := Ex.refl _
  have s0 : Es K H "value" v [] [] := trivial
  walk_at "rd"
  refine r_V1 T.ev_NoPlace rfl fun a1 H1 e1 h1 => ?_
  replace s0 := (s0.ex e1).snoc h1
  replace u := u.trans e1
  walk_at "rd"
  refine r_V1 T.ev_NoTie rfl fun a2 H2 e2 h2 => ?_
  replace s0 := (s0.ex e2).snoc h2
  replace u := u.trans e2
  walk_at "rd"
  refine r_V1 T.ev_NoName rfl fun a3 H3 e3 h3 => ?_
  replace s0 := (s0.ex e3).snoc h3
  replace u := u.trans e3
  walk_at "rd"
  refine r_V1 T.ev_Twice rfl fun a4 H4 e4 h4 => ?_
  replace s0 := (s0.ex e4).snoc h4
  replace u := u.trans e4
  walk_at "rd"
  refine r_K1 T.ev_NoPlace rfl fun a5 H5 e5 h5 => ?_
  replace s0 := (s0.ex e5).snoc h5
  replace u := u.trans e5
  walk_at "rd"
  refine r_K1 T.ev_NoTie rfl fun a6 H6 e6 h6 => ?_
  replace s0 := (s0.ex e6).snoc h6
  replace u := u.trans e6
  walk_at "rd"
  refine r_K1 T.ev_NoName rfl fun a7 H7 e7 h7 => ?_
  replace s0 := (s0.ex e7).snoc h7
  replace u := u.trans e7
  walk_at "rd"
  refine r_K1 T.ev_Twice rfl fun a8 H8 e8 h8 => ?_
  replace s0 := (s0.ex e8).snoc h8
  replace u := u.trans e8
  walk_at "rd"
  refine r_newL (sz_le (by simp)) fun p9 H9 _ e9 l9 => ?_
  replace u := u.trans e9
  replace s0 := s0.ex e9
  obtain ⟨as, mA, sA, lA⟩ : ∃ as : List Addr, H9 p9 = some (.lst (as.map V.ref)) ∧ Es K H9 "value" v as valN ∧ as.length = 8 := ⟨[a1, a2, a3, a4, a5, a6, a7, a8], l9, s0, rfl⟩
  clear s0 l9
  walk_at "rd"
  refine r_iEnL ?_
  walk_at "rd"
  refine ⟨p9, _, rfl, SqL.of mA, ?_⟩
  refine for_of (walk_enum (xs := as.map V.ref)) (fun i σ H' => Ex H9 H' ∧ ∃ s3 s4, σ = [some v, some w', some (.ref p9), s3, s4, none]) ⟨Ex.refl _, _, _, rfl⟩ (fun i σ H' hi p => SqL.of (p.1 _ _ mA)) ?_ ?_
  · rintro i x σ H2 H' hi ⟨g, s3, s4, rfl⟩ ⟨Tt, x1, x2, rfl, hT, rfl, e1, e2⟩
    cases e1
    have hi8 : i < 8 := by simpa [lA] using hi
    obtain ⟨x, hx, hn⟩ := val_at i hi8
    obtain ⟨a, ha, ea⟩ := sA.get hx
    have e3 : (as.map V.ref)[i]? = some x2 := e2
    have : x2 = .ref a := by rw [List.getElem?_map, ha] at e3; exact (Option.some.inj e3).symm
    subst this
    obtain ⟨xf, no_⟩ := ev_vals T x (List.mem_of_getElem? hx)
    have g1 := g.trans (Ex.new (o := .tup [.int (i : Nat), .ref a]) hT)
    refine r_gTup upd_same rfl (r_gCons (r_gName (r_gCons (r_gName (r_gNil ?_)))))
    generalize upd H2 Tt _ = H3 at g1 ⊢
    walk_at "rd"
    refine r_tXV ?_
    walk_at "rd"
    refine r_xV (ea.ex g1) xf no_ rfl ?_
    walk_at "rd"
    refine r_neS (ov.ex (u.trans g1)) ?_
    walk_at "rd"
    refine ite_f rfl ?_
    walk_at "rd"
    refine r_I (by decide) ?_
    walk_at "rd"
    refine ⟨a, x, _, 10 + i % 4, rfl, congrArg V.int (by omega), hn, ea.ex g1, fun G3 f3 => ?_⟩
    refine ⟨_, rfl, ite_f rfl ?_⟩
    exact ⟨g1.trans f3, _, _, rfl⟩
  · rintro σ H2 ⟨g, s3, s4, rfl⟩
    replace u := u.trans g
    clear g
    walk_at "rd"
    refine r_K1 T.ev_Missing rfl fun b Hb eb hb => ?_
    replace u := u.trans eb
    walk_at "rd"
    refine r_tXV ?_
    walk_at "rd"
    refine r_xV hb T.ev_Missing.xf (T.ev_Missing.no_ _ (by simp)) rfl ?_
    walk_at "rd"
    refine r_neS (ov.ex u) ?_
    walk_at "rd"
    refine ite_f rfl ?_
    walk_at "rd"
    refine r_tXV ?_
    walk_at "rd"
    refine r_V1 T.ev_Missing rfl fun c Hc ec hc => ?_
    replace u := u.trans ec
    refine r_xV hc T.ev_Missing.xf (T.ev_Missing.no_ _ (by simp)) rfl ?_
    walk_at "rd"
    refine r_neS (ow.ex u) ?_
    walk_at "rd"
    refine ite_f rfl ?_
    walk_at "rd"
    have hb2 := hb.ex ec
    refine ⟨b, "Missing", _, rfl, by decide, hb2, fun q1 G1 f1 _ k1 => ?_⟩
    walk_at "rd"
    refine r_newL (sz_le (by simp)) fun q2 G2 _ f2 k2 => ?_
    walk_at "rd"
    refine r_rep19 k2 fun q3 G3 _ f3 k3 => ?_
    refine r_neBls ((f2.trans f3) _ _ k1) k3 ?_
    have hb3 := hb2.ex ((f1.trans f2).trans f3)
    replace u := u.trans ((f1.trans f2).trans f3)
    walk_at "rd"
    refine ite_f (by decide) ?_
    walk_at "rd"
    refine ⟨b, _, _, _, _, _, rfl, fun u r => r, hb3, T.ev_Missing.ex, T.kin_Missing.own ("SignsError", true) (by decide), ?_⟩
    walk_at "rd"
    refine ite_f rfl ?_
    walk_at "rd"
    refine r_V2 T.ev_TooMany rfl rfl fun x0 M0 ex0 hx0 => ?_
    replace u := u.trans ex0
    walk_at "rd"
    refine r_K2 T.ev_TooMany rfl rfl fun y0 N0 ey0 hy0 => ?_
    replace u := u.trans ey0
    replace hx0 := hx0.ex ey0
    walk_at "rd"
    refine r_newT (sz_le (by simp)) fun t0 T0 _ et0 ht0 => ?_
    replace u := u.trans et0
    replace hx0 := hx0.ex et0
    replace hy0 := hy0.ex et0
    refine ⟨t0, rfl, ⟨_, SqT.of ht0⟩, ?_⟩
    refine for_of (walk_tup (xs := [.ref x0, .ref y0])) (fun i σ H' => Ex T0 H' ∧ ∃ s4, σ = [some v, some w', some (.ref p9), s3, s4, some (.ref b)]) ⟨Ex.refl _, _, rfl⟩ (fun i σ H' _ p => SqT.of (p.1 _ _ ht0)) ?_ ?_
    · rintro i x σ H2 H' hi ⟨g, s4, rfl⟩ ⟨rfl, hx⟩
      obtain ⟨c, rfl, hc⟩ : ∃ c, x = .ref c ∧ ErV T0 c (He.ga K "TooMany") [("most", w'), ("what", v)] := by
        match i, hx with
        | 0, hx => cases hx; exact ⟨_, rfl, hx0⟩
        | 1, hx => cases hx; exact ⟨_, rfl, hy0⟩
        | i + 2, hx => simp at hx
      replace hc := hc.ex g
      walk_at "rd"
      refine r_tXV ?_
      walk_at "rd"
      refine r_xV hc T.ev_TooMany.xf (T.ev_TooMany.no_ "what" (by simp)) rfl ?_
      walk_at "rd"
      refine r_tXV ?_
      walk_at "rd"
      refine r_xV hc T.ev_TooMany.xf (T.ev_TooMany.no_ "most" (by simp)) rfl ?_
      walk_at "rd"
      refine r_newL (sz_le (by simp)) fun q1 G1 _ f1 k1 => ?_
      walk_at "rd"
      refine r_newL (sz_le (by simp)) fun q2 G2 _ f2 k2 => ?_
      refine r_neL2 ov.same ow.same (f2 _ _ k1) k2 ?_
      have g2 := g.trans (f1.trans f2)
      replace hc := hc.ex (f1.trans f2)
      walk_at "rd"
      refine ite_f rfl ?_
      walk_at "rd"
      refine ⟨c, "TooMany", _, 14, rfl, rfl, rfl, hc, fun G3 f3 => ?_⟩
      refine ⟨_, rfl, ite_f rfl ?_⟩
      exact ⟨g2.trans f3, _, rfl⟩
    · rintro σ H2 ⟨g, s4, rfl⟩
      replace u := u.trans g
      clear g
      walk_at "rd"
      refine r_V1 T.ev_Impossible rfl fun x1 M1 ex1 hx1 => ?_
      replace u := u.trans ex1
      walk_at "rd"
      refine r_K1 T.ev_Impossible rfl fun y1 N1 ey1 hy1 => ?_
      replace u := u.trans ey1
      replace hx1 := hx1.ex ey1
      walk_at "rd"
      refine r_newT (sz_le (by simp)) fun t1 T1 _ et1 ht1 => ?_
      replace u := u.trans et1
      replace hx1 := hx1.ex et1
      replace hy1 := hy1.ex et1
      refine ⟨t1, rfl, ⟨_, SqT.of ht1⟩, ?_⟩
      refine for_of (walk_tup (xs := [.ref x1, .ref y1])) (fun i σ H' => Ex T1 H' ∧ ∃ s4, σ = [some v, some w', some (.ref p9), s3, s4, some (.ref b)]) ⟨Ex.refl _, _, rfl⟩ (fun i σ H' _ p => SqT.of (p.1 _ _ ht1)) ?_ ?_
      · rintro i x σ H2 H' hi ⟨g, s4, rfl⟩ ⟨rfl, hx⟩
        obtain ⟨c, rfl, hc⟩ : ∃ c, x = .ref c ∧ ErV T1 c (He.ga K "Impossible") [("paper", v)] := by
          match i, hx with
          | 0, hx => cases hx; exact ⟨_, rfl, hx1⟩
          | 1, hx => cases hx; exact ⟨_, rfl, hy1⟩
          | i + 2, hx => simp at hx
        replace hc := hc.ex g
        walk_at "rd"
        refine r_tXV ?_
        walk_at "rd"
        refine r_xV hc T.ev_Impossible.xf (T.ev_Impossible.no_ "paper" (by simp)) rfl ?_
        walk_at "rd"
        refine r_neS (ov.ex (u.trans g)) ?_
        have g2 := g
        walk_at "rd"
        refine ite_f rfl ?_
        walk_at "rd"
        refine ⟨c, "Impossible", _, 15, rfl, rfl, rfl, hc, fun G3 f3 => ?_⟩
        refine ⟨_, rfl, ite_f rfl ?_⟩
        exact ⟨g2.trans f3, _, rfl⟩
      · rintro σ H2 ⟨g, s4, rfl⟩
        replace u := u.trans g
        clear g
        walk_at "rd"
        refine r_V2 T.ev_BadText rfl rfl fun x2 M2 ex2 hx2 => ?_
        replace u := u.trans ex2
        walk_at "rd"
        refine r_K2 T.ev_BadText rfl rfl fun y2 N2 ey2 hy2 => ?_
        replace u := u.trans ey2
        replace hx2 := hx2.ex ey2
        walk_at "rd"
        refine r_newT (sz_le (by simp)) fun t2 T2 _ et2 ht2 => ?_
        replace u := u.trans et2
        replace hx2 := hx2.ex et2
        replace hy2 := hy2.ex et2
        refine ⟨t2, rfl, ⟨_, SqT.of ht2⟩, ?_⟩
        refine for_of (walk_tup (xs := [.ref x2, .ref y2])) (fun i σ H' => Ex T2 H' ∧ ∃ s4, σ = [some v, some w', some (.ref p9), s3, s4, some (.ref b)]) ⟨Ex.refl _, _, rfl⟩ (fun i σ H' _ p => SqT.of (p.1 _ _ ht2)) ?_ ?_
        · rintro i x σ H2 H' hi ⟨g, s4, rfl⟩ ⟨rfl, hx⟩
          obtain ⟨c, rfl, hc⟩ : ∃ c, x = .ref c ∧ ErV T2 c (He.ga K "BadText") [("item", w'), ("line", v)] := by
            match i, hx with
            | 0, hx => cases hx; exact ⟨_, rfl, hx2⟩
            | 1, hx => cases hx; exact ⟨_, rfl, hy2⟩
            | i + 2, hx => simp at hx
          replace hc := hc.ex g
          walk_at "rd"
          refine r_tXV ?_
          walk_at "rd"
          refine r_xV hc T.ev_BadText.xf (T.ev_BadText.no_ "line" (by simp)) rfl ?_
          walk_at "rd"
          refine r_tXV ?_
          walk_at "rd"
          refine r_xV hc T.ev_BadText.xf (T.ev_BadText.no_ "item" (by simp)) rfl ?_
          walk_at "rd"
          refine r_newL (sz_le (by simp)) fun q1 G1 _ f1 k1 => ?_
          walk_at "rd"
          refine r_newL (sz_le (by simp)) fun q2 G2 _ f2 k2 => ?_
          refine r_neL2 ov.same ow.same (f2 _ _ k1) k2 ?_
          have g2 := g.trans (f1.trans f2)
          replace hc := hc.ex (f1.trans f2)
          walk_at "rd"
          refine ite_f rfl ?_
          walk_at "rd"
          refine ⟨c, "BadText", _, 17, rfl, rfl, rfl, hc, fun G3 f3 => ?_⟩
          refine ⟨_, rfl, ite_f rfl ?_⟩
          exact ⟨g2.trans f3, _, rfl⟩
        · rintro σ H2 ⟨g, s4, rfl⟩
          replace u := u.trans g
          clear g
          walk_at "rd"
          refine r_V2 T.ev_BadLine rfl rfl fun x3 M3 ex3 hx3 => ?_
          replace u := u.trans ex3
          walk_at "rd"
          refine r_K2 T.ev_BadLine rfl rfl fun y3 N3 ey3 hy3 => ?_
          replace u := u.trans ey3
          replace hx3 := hx3.ex ey3
          walk_at "rd"
          refine r_newT (sz_le (by simp)) fun t3 T3 _ et3 ht3 => ?_
          replace u := u.trans et3
          replace hx3 := hx3.ex et3
          replace hy3 := hy3.ex et3
          refine ⟨t3, rfl, ⟨_, SqT.of ht3⟩, ?_⟩
          refine for_of (walk_tup (xs := [.ref x3, .ref y3])) (fun i σ H' => Ex T3 H' ∧ ∃ s4, σ = [some v, some w', some (.ref p9), s3, s4, some (.ref b)]) ⟨Ex.refl _, _, rfl⟩ (fun i σ H' _ p => SqT.of (p.1 _ _ ht3)) ?_ ?_
          · rintro i x σ H2 H' hi ⟨g, s4, rfl⟩ ⟨rfl, hx⟩
            obtain ⟨c, rfl, hc⟩ : ∃ c, x = .ref c ∧ ErV T3 c (He.ga K "BadLine") [("error", w'), ("line", v)] := by
              match i, hx with
              | 0, hx => cases hx; exact ⟨_, rfl, hx3⟩
              | 1, hx => cases hx; exact ⟨_, rfl, hy3⟩
              | i + 2, hx => simp at hx
            replace hc := hc.ex g
            walk_at "rd"
            refine r_tXV ?_
            walk_at "rd"
            refine r_xV hc T.ev_BadLine.xf (T.ev_BadLine.no_ "line" (by simp)) rfl ?_
            walk_at "rd"
            refine r_tXV ?_
            walk_at "rd"
            refine r_xV hc T.ev_BadLine.xf (T.ev_BadLine.no_ "error" (by simp)) rfl ?_
            walk_at "rd"
            refine r_newL (sz_le (by simp)) fun q1 G1 _ f1 k1 => ?_
            walk_at "rd"
            refine r_newL (sz_le (by simp)) fun q2 G2 _ f2 k2 => ?_
            refine r_neL2 ov.same ow.same (f2 _ _ k1) k2 ?_
            have g2 := g.trans (f1.trans f2)
            replace hc := hc.ex (f1.trans f2)
            walk_at "rd"
            refine ite_f rfl ?_
            walk_at "rd"
            refine ⟨c, "BadLine", _, 18, rfl, rfl, rfl, hc, fun G3 f3 => ?_⟩
            refine ⟨_, rfl, ite_f rfl ?_⟩
            exact ⟨g2.trans f3, _, rfl⟩
          · rintro σ H2 ⟨g, s4, rfl⟩
            replace u := u.trans g
            clear g
            walk_at "rd"
            intro z hz
            walk_at "rd"
            refine ⟨z, "Nothing", [], 16, rfl, rfl, rfl, .inr ⟨upd_same, rfl⟩, fun G3 f3 => ?_⟩
            exact k _ ((u.trans (Ex.new hz)).trans f3)

end K00
namespace K00
open PySem PySem.Spec PyProof.Rows L2 GS TL LamX
local macro_rules | `(tactic| walk_at "rd") => `(tactic| (repeat (first
  | with_reducible refine r_next ?_
  | with_reducible refine r_seq ?_
  | with_reducible refine r_ret ?_
  | with_reducible refine r_ifS ?_
  | with_reducible refine r_asg ?_
  | with_reducible refine r_drop ?_
  | with_reducible refine r_op ?_
  | with_reducible refine r_un ?_
  | with_reducible refine r_cbInt ?_
  | with_reducible refine r_cbAbs ?_
  | with_reducible refine r_cbLen ?_
  | with_reducible refine r_cbList ?_
  | with_reducible refine r_cbTup ?_
  | with_reducible refine r_iEnT ?_
  | with_reducible refine r_iEnL ?_
  | with_reducible refine r_zipA ?_
  | with_reducible refine r_zipX ?_
  | with_reducible refine r_augS ?_
  | with_reducible refine r_cb ?_
  | with_reducible refine r_call ?_
  | with_reducible refine r_make ?_
  | with_reducible refine r_callN0 ?_
  | with_reducible refine r_makeK0 ?_
  | with_reducible refine r_makeS ?_
  | with_reducible refine r_callS ?_
  | with_reducible refine r_cons ?_
  | with_reducible refine r_nil ?_
  | with_reducible refine r_test ?_
  | with_reducible refine r_B ?_
  | with_reducible refine r_and ?_
  | with_reducible refine r_or ?_
  | with_reducible refine r_not ?_
  | with_reducible refine r_andV ?_
  | with_reducible refine r_orV ?_
  | with_reducible refine r_notV ?_
  | with_reducible refine r_if ?_
  | with_reducible refine r_tup ?_
  | with_reducible refine r_lst ?_
  | with_reducible refine r_c ?_
  | with_reducible refine r_lc ?_
  | with_reducible refine r_chain ?_
  | with_reducible refine r_iT ?_
  | with_reducible refine r_iL ?_
  | with_reducible refine r_iR1 ?_
  | with_reducible refine r_iR2 ?_
  | with_reducible refine r_iR3 ?_
  | with_reducible refine r_asgG ?_
  | with_reducible refine r_gSub ?_
  | with_reducible refine r_for ?_
  | with_reducible refine r_smeth ?_
  | with_reducible refine r_par ?_
  | with_reducible refine r_parK ?_
  | with_reducible refine r_gCons ?_
  | with_reducible refine r_gNil ?_
  | with_reducible refine r_gName ?_
  | with_reducible refine r_intI ?_
  | with_reducible refine r_intB ?_
  | with_reducible refine r_absI ?_
  | with_reducible refine r_k ?_
  | with_reducible refine r_kV ?_
  | ((with_reducible show tVar _ _ _ _); refine r_var3 ?_ (by rfl))
  | with_reducible refine r_I0 ?_
  | with_reducible refine r_U ?_
  | with_reducible refine r_eqI ?_
  | with_reducible refine r_neI ?_
  | with_reducible refine r_F ?_
  | dsimp only)))
local macro_rules | `(tactic| walk_at "rx") => `(tactic| (repeat (first
  | with_reducible refine r_next ?_
  | with_reducible refine r_ret ?_
  | with_reducible refine r_ifS ?_
  | with_reducible refine r_asg ?_
  | with_reducible refine r_drop ?_
  | with_reducible refine r_op ?_
  | with_reducible refine r_un ?_
  | with_reducible refine r_cbInt ?_
  | with_reducible refine r_cbAbs ?_
  | with_reducible refine r_cbLen ?_
  | with_reducible refine r_cbList ?_
  | with_reducible refine r_cbTup ?_
  | with_reducible refine r_iEnT ?_
  | with_reducible refine r_iEnL ?_
  | with_reducible refine r_zipA ?_
  | with_reducible refine r_zipX ?_
  | with_reducible refine r_augS ?_
  | with_reducible refine r_cb ?_
  | with_reducible refine r_call ?_
  | with_reducible refine r_make ?_
  | with_reducible refine r_callN0 ?_
  | with_reducible refine r_makeK0 ?_
  | with_reducible refine r_makeS ?_
  | with_reducible refine r_callS ?_
  | with_reducible refine r_cons ?_
  | with_reducible refine r_nil ?_
  | with_reducible refine r_test ?_
  | with_reducible refine r_B ?_
  | with_reducible refine r_and ?_
  | with_reducible refine r_or ?_
  | with_reducible refine r_not ?_
  | with_reducible refine r_andV ?_
  | with_reducible refine r_orV ?_
  | with_reducible refine r_notV ?_
  | with_reducible refine r_if ?_
  | with_reducible refine r_tup ?_
  | with_reducible refine r_lst ?_
  | with_reducible refine r_c ?_
  | with_reducible refine r_lc ?_
  | with_reducible refine r_chain ?_
  | with_reducible refine r_iT ?_
  | with_reducible refine r_iL ?_
  | with_reducible refine r_iR1 ?_
  | with_reducible refine r_iR2 ?_
  | with_reducible refine r_iR3 ?_
  | with_reducible refine r_asgG ?_
  | with_reducible refine r_gSub ?_
  | with_reducible refine r_for ?_
  | with_reducible refine r_smeth ?_
  | with_reducible refine r_par ?_
  | with_reducible refine r_parK ?_
  | with_reducible refine r_gCons ?_
  | with_reducible refine r_gNil ?_
  | with_reducible refine r_gName ?_
  | with_reducible refine r_intI ?_
  | with_reducible refine r_intB ?_
  | with_reducible refine r_absI ?_
  | with_reducible refine r_k ?_
  | with_reducible refine r_kV ?_
  | ((with_reducible show tVar _ _ _ _); refine r_var3 ?_ (by rfl))
  | with_reducible refine r_I0 ?_
  | with_reducible refine r_U ?_
  | with_reducible refine r_eqI ?_
  | with_reducible refine r_neI ?_
  | with_reducible refine r_F ?_
  | dsimp only)))
theorem pow1025 : (10 : Int) ^ (25 : Int).toNat = 10000000000000000000000000 := rfl
theorem OneV.int (H : Hp) (i : Int) : OneV H (.int i) := .inl rfl
theorem r_dnewK {σ : L2.St} {H : Hp} {Q : VK} (q : ∀ p H', H p = none → Ex H H' → H' p = some (.dK []) → Q (.ref p) H') : tDNewK σ H Q := fun p hp => q p _ hp (Ex.new hp) upd_same
def spAny : Sp := sp1 fun b H Q _ => ∃ (p : Addr) (n : Int), b = .ref p ∧ n ≤ 90000 ∧ Bag H p n ∧ ∀ v H', Bg p H H' → Bag H' p (n + 2) → (∀ H2, Bg p H' H2 → OneV H2 v) → Q v H'
theorem ok__law_any {P : Program} {w : World} {K : PySem.W.Frag} {mg : Str → Option Value} {base : Heap} (T : Txt K mg) : ∃ fd, FnOk P w K mg base (L2.CX P w) 3 (He.ga K "_law_any") fd ["ark"] (spAny) ∧ Binds K fd ["ark"] [] := by
  obtain ⟨fd, F⟩ := T.d__law_any
  obtain ⟨fd__law_fish, F__law_fish, B__law_fish⟩ := ok__law_fish (P := P) (w := w) (base := base) T
  obtain ⟨fd__law_haul, F__law_haul, B__law_haul⟩ := ok__law_haul (P := P) (w := w) (base := base) T
  refine ⟨fd, F.ok sc__law_any sp1_len (fun cdv A outer s H vs Q E hr h => ?_), F.bindsN fun _ _ _ _ _ _ us hl => match us, hl with | [_], _ => rfl⟩
  have hr__law_fish : Room 2 _ := hr.mono (by decide)
  have hr__law_haul : Room 1 _ := hr.mono (by decide)
  obtain ⟨b0, rfl, p, n, rfl, hn, hb, k⟩ := sp1_is h
  refine ⟨_, (pss_cons (ps_set (i := 1) sc__law_any.nd rfl (Or.inl rfl) (pe_call F__law_haul hr__law_haul (by rfl) T.g__law_haul T.k__law_haul B__law_haul .nil passL (pa_cons (pv 0) (pa_cons pe_int pa_nil))))
      (pss_one (ps_ret (pe_call F__law_fish hr__law_fish (by rfl) T.g__law_fish T.k__law_fish B__law_fish .nil passL (pa_cons (pv 0) (pa_cons (pe_lst (pa_cons (pv 1) (pa_cons (pe_op op_sub (pe_un un_neg (pe_op op_powW pe_int pe_int)) (pv 1)) (pa_cons (pe_op op_add_str pe_str (pe_callTy call_str_int (by rfl) T.b_str (by decide +kernel) (pa_cons (pv 1) pa_nil))) (pa_cons pe_str (pa_cons pe_non (pa_cons pe_bl (pa_cons (pe_lst (pa_cons (pv 1) (pa_cons (pe_lst (pa_cons pe_non pa_nil)) pa_nil))) (pa_cons (pe_tup (pa_cons (pv 1) pa_nil)) (pa_cons pe_dnewK (pa_cons (pe_disp (pps_cons pe_str (pv 1) pps_nil) (by rfl) (by rfl) (fun z => by cases z) (by decide)) pa_nil))))))))))) pa_nil)))))), ?_⟩
  walk_at "rd"
  refine r_DrawG hb (by omega) (by decide) (zsm (by decide)) fun r H1 r0 r1 g1 b1 => ?_
  walk_at "rd"
  refine r_pow (p10 25 (by decide)) pow1025 ?_
  walk_at "rd"
  have key : ∀ i < 80, (Str.ofString (toString ((i : Nat) : Int))).length ≤ 10 ∧ ((i : Nat) : Int).natAbs.log2 < 1920 := by decide +kernel
  have er : r = (r.toNat : Int) := by omega
  obtain ⟨k1, k2⟩ := key r.toNat (by omega)
  rw [← er] at k1 k2
  refine ⟨r, rfl, k2, _, _, rfl, rfl, by rw [sizeLine_eq]; show 1 + _ ≤ _; omega, ?_⟩
  generalize hw : (Str.ofString "w" ++ Str.ofString (toString r)) = w1
  walk_at "rd"
  refine r_newL (sz_le (by simp)) fun q1 H2 _ e2 h2 => ?_
  walk_at "rd"
  refine r_newL (sz_le (by simp)) fun q2 H3 _ e3 h3 => ?_
  walk_at "rd"
  refine r_newT (sz_le (by simp)) fun q3 H4 _ e4 h4 => ?_
  walk_at "rd"
  refine r_dnewK fun q4 H5 _ e5 h5 => ?_
  walk_at "rd"
  refine fun q5 n5 => ?_
  simp only [tPairs]
  walk_at "rd"
  refine ⟨upd_same, [(.inr (Str.ofString "b"), .int r)], rfl, by simp, ?_⟩
  have e6 : Ex H5 (upd (upd H5 q5 (.dK [])) q5 (.dK (mergeK [] [(.inr (Str.ofString "b"), .int r)]))) := fun a o h => by
    have : a ≠ q5 := ne_of_none h n5
    rw [upd_ne this, upd_ne this]
    exact h
  have h6 : (upd (upd H5 q5 (.dK [])) q5 (.dK (mergeK [] [(.inr (Str.ofString "b"), .int r)]))) q5 = some (.dK [(.inr (Str.ofString "b"), .int r)]) := upd_same
  generalize (upd (upd H5 q5 (.dK [])) q5 (.dK (mergeK [] [(.inr (Str.ofString "b"), .int r)]))) = H6 at e6 h6 ⊢
  walk_at "rd"
  refine r_newL (sz_le (by simp)) fun q7 H7 _ e7 h7 => ?_
  have up : Ex H1 H7 := (((((e2.trans e3).trans e4).trans e5).trans e6).trans e7)
  refine r_One (H0 := H7) (b1.ex up) h7 (fun _ _ _ z => by cases z) (by simp) (by simp) (by omega) fun v H8 hv g8 b8 => ?_
  have f3 : H7 q2 = _ := e7 _ _ (e6 _ _ (e5 _ _ (e4 _ _ h3)))
  have f4 : H7 q3 = _ := e7 _ _ (e6 _ _ (e5 _ _ h4))
  have f5 : H7 q4 = _ := e7 _ _ (e6 _ _ h5)
  have f6 : H7 q5 = _ := e7 _ _ h6
  have b7 := b1.ex up
  refine k v H8 ((g1.trans (Bg.of up)).trans g8) (b8.le (by omega)) fun H9 g9 => ?_
  have g := g8.trans g9
  simp only [List.mem_cons, List.mem_nil_iff, or_false] at hv
  rcases hv with rfl | rfl | rfl | rfl | rfl | rfl | rfl | rfl | rfl | rfl
  · exact .inl rfl
  · exact .inl rfl
  · exact .inl rfl
  · exact .inl rfl
  · exact .inl rfl
  · exact .inl rfl
  · refine .inr (.inl ⟨q2, _, rfl, g.at_ (b7.ne f3 fun _ _ _ z => by cases z) f3, fun z hz => ?_⟩)
    simp only [List.mem_cons, List.mem_nil_iff, or_false] at hz
    rcases hz with rfl | rfl
    · exact .inl rfl
    · exact .inr ⟨_, rfl⟩
  · refine .inr (.inr (.inl ⟨q3, _, rfl, g.at_ (b7.ne f4 fun _ _ _ z => by cases z) f4, fun z hz => ?_⟩))
    simp only [List.mem_cons, List.mem_nil_iff, or_false] at hz
    subst hz
    exact .inl rfl
  · exact .inr (.inr (.inr ⟨q4, _, rfl, g.at_ (b7.ne f5 fun _ _ _ z => by cases z) f5, fun p hp => by cases hp⟩))
  · refine .inr (.inr (.inr ⟨q5, _, rfl, g.at_ (b7.ne f6 fun _ _ _ z => by cases z) f6, fun p hp => ?_⟩))
    simp only [List.mem_cons, List.mem_nil_iff, or_false] at hp
    subst hp
    exact ⟨rfl, rfl⟩

end K00
namespace K00
open PySem PySem.Spec PyProof.Rows L2 GS TL LamX
local macro_rules | `(tactic| walk_at "rd") => `(tactic| (repeat (first
  | with_reducible refine r_next ?_
  | with_reducible refine r_seq ?_
  | with_reducible refine r_ret ?_
  | with_reducible refine r_ifS ?_
  | with_reducible refine r_asg ?_
  | with_reducible refine r_drop ?_
  | with_reducible refine r_op ?_
  | with_reducible refine r_un ?_
  | with_reducible refine r_cbInt ?_
  | with_reducible refine r_cbAbs ?_
  | with_reducible refine r_cbLen ?_
  | with_reducible refine r_cbList ?_
  | with_reducible refine r_cbTup ?_
  | with_reducible refine r_iEnT ?_
  | with_reducible refine r_iEnL ?_
  | with_reducible refine r_zipA ?_
  | with_reducible refine r_zipX ?_
  | with_reducible refine r_augS ?_
  | with_reducible refine r_cb ?_
  | with_reducible refine r_call ?_
  | with_reducible refine r_make ?_
  | with_reducible refine r_callN0 ?_
  | with_reducible refine r_makeK0 ?_
  | with_reducible refine r_makeS ?_
  | with_reducible refine r_callS ?_
  | with_reducible refine r_cons ?_
  | with_reducible refine r_nil ?_
  | with_reducible refine r_test ?_
  | with_reducible refine r_B ?_
  | with_reducible refine r_and ?_
  | with_reducible refine r_or ?_
  | with_reducible refine r_not ?_
  | with_reducible refine r_andV ?_
  | with_reducible refine r_orV ?_
  | with_reducible refine r_notV ?_
  | with_reducible refine r_if ?_
  | with_reducible refine r_tup ?_
  | with_reducible refine r_lst ?_
  | with_reducible refine r_c ?_
  | with_reducible refine r_lc ?_
  | with_reducible refine r_chain ?_
  | with_reducible refine r_iT ?_
  | with_reducible refine r_iL ?_
  | with_reducible refine r_iR1 ?_
  | with_reducible refine r_iR2 ?_
  | with_reducible refine r_iR3 ?_
  | with_reducible refine r_asgG ?_
  | with_reducible refine r_gSub ?_
  | with_reducible refine r_for ?_
  | with_reducible refine r_smeth ?_
  | with_reducible refine r_par ?_
  | with_reducible refine r_parK ?_
  | with_reducible refine r_gCons ?_
  | with_reducible refine r_gNil ?_
  | with_reducible refine r_gName ?_
  | with_reducible refine r_intI ?_
  | with_reducible refine r_intB ?_
  | with_reducible refine r_absI ?_
  | with_reducible refine r_k ?_
  | with_reducible refine r_kV ?_
  | ((with_reducible show tVar _ _ _ _); refine r_var3 ?_ (by rfl))
  | with_reducible refine r_I0 ?_
  | with_reducible refine r_U ?_
  | with_reducible refine r_eqI ?_
  | with_reducible refine r_neI ?_
  | dsimp only)))
local macro_rules | `(tactic| walk_at "rx") => `(tactic| (repeat (first
  | with_reducible refine r_next ?_
  | with_reducible refine r_ret ?_
  | with_reducible refine r_ifS ?_
  | with_reducible refine r_asg ?_
  | with_reducible refine r_drop ?_
  | with_reducible refine r_op ?_
  | with_reducible refine r_un ?_
  | with_reducible refine r_cbInt ?_
  | with_reducible refine r_cbAbs ?_
  | with_reducible refine r_cbLen ?_
  | with_reducible refine r_cbList ?_
  | with_reducible refine r_cbTup ?_
  | with_reducible refine r_iEnT ?_
  | with_reducible refine r_iEnL ?_
  | with_reducible refine r_zipA ?_
  | with_reducible refine r_zipX ?_
  | with_reducible refine r_augS ?_
  | with_reducible refine r_cb ?_
  | with_reducible refine r_call ?_
  | with_reducible refine r_make ?_
  | with_reducible refine r_callN0 ?_
  | with_reducible refine r_makeK0 ?_
  | with_reducible refine r_makeS ?_
  | with_reducible refine r_callS ?_
  | with_reducible refine r_cons ?_
  | with_reducible refine r_nil ?_
  | with_reducible refine r_test ?_
  | with_reducible refine r_B ?_
  | with_reducible refine r_and ?_
  | with_reducible refine r_or ?_
  | with_reducible refine r_not ?_
  | with_reducible refine r_andV ?_
  | with_reducible refine r_orV ?_
  | with_reducible refine r_notV ?_
  | with_reducible refine r_if ?_
  | with_reducible refine r_tup ?_
  | with_reducible refine r_lst ?_
  | with_reducible refine r_c ?_
  | with_reducible refine r_lc ?_
  | with_reducible refine r_chain ?_
  | with_reducible refine r_iT ?_
  | with_reducible refine r_iL ?_
  | with_reducible refine r_iR1 ?_
  | with_reducible refine r_iR2 ?_
  | with_reducible refine r_iR3 ?_
  | with_reducible refine r_asgG ?_
  | with_reducible refine r_gSub ?_
  | with_reducible refine r_for ?_
  | with_reducible refine r_smeth ?_
  | with_reducible refine r_par ?_
  | with_reducible refine r_parK ?_
  | with_reducible refine r_gCons ?_
  | with_reducible refine r_gNil ?_
  | with_reducible refine r_gName ?_
  | with_reducible refine r_intI ?_
  | with_reducible refine r_intB ?_
  | with_reducible refine r_absI ?_
  | with_reducible refine r_k ?_
  | with_reducible refine r_kV ?_
  | ((with_reducible show tVar _ _ _ _); refine r_var3 ?_ (by rfl))
  | with_reducible refine r_I0 ?_
  | with_reducible refine r_U ?_
  | with_reducible refine r_eqI ?_
  | with_reducible refine r_neI ?_
  | dsimp only)))
theorem bools_all {K : PySem.W.Frag} {H : Hp} {p : Addr} {n : Nat} {f : Nat → Bool} {Q : VK} (h : H p = some (.lst ((List.range n).map fun i => V.bl (f i)))) (q : Q (.bl ((List.range n).all f)) H) : rAll K [.ref p] H Q := by
  refine ⟨p, (List.range n).map f, rfl, SqL.of (by rw [List.map_map]; exact h), ?_⟩
  have e : ((List.range n).map f).all id = (List.range n).all f := by rw [List.all_map]; rfl
  rw [e]
  exact q
theorem all_range {α : Type} (os : List α) (d : α) (f : α → Bool) : ((List.range os.length).all fun i => f (os.getD i d)) = os.all f := by
  rw [Bool.eq_iff_iff, List.all_eq_true, List.all_eq_true]
  constructor
  · intro h x hx
    obtain ⟨i, hi⟩ := List.getElem?_of_mem hx
    have hl := (List.getElem?_eq_some_iff.mp hi).1
    have := h i (List.mem_range.mpr hl)
    rw [List.getD_eq_getElem?_getD, hi] at this
    exact this
  · intro h i hi
    have hl := List.mem_range.mp hi
    rw [List.getD_eq_getElem?_getD, List.getElem?_eq_getElem hl]
    exact h _ (List.getElem_mem hl)
/-! ### names -/
def isLet (c : Nat) : Bool := decide (c ∈ (Str.ofString "abcdefghijklmnopqrstuvwxyz").cps.toList)
def isDig (c : Nat) : Bool := decide (c ∈ (Str.ofString "0123456789").cps.toList)
/-- a name -/
def nameB (z : Str) : Bool := decide (1 ≤ z.length) && decide (z.length ≤ 12) && isLet (z.cps.toList.headD 0) && z.cps.toList.all fun c => isLet c || isDig c
def spName (K : PySem.W.Frag) : Sp := sp1 fun v H Q _ => (∃ T ∈ tys, T ≠ "str" ∧ TyOf K H v (.type T) ∧ Q (.bl false) H) ∨ ∃ z : Str, v = .str z ∧ z.length ≤ 1000 ∧ ∀ H', Ex H H' → Q (.bl (nameB z)) H'
theorem ok_is_name {P : Program} {w : World} {K : PySem.W.Frag} {mg : Str → Option Value} {base : Heap} (T : Txt K mg) : ∃ fd, FnOk P w K mg base (L2.CX P w) 1 (He.ga K "is_name") fd ["value"] (spName K) ∧ Binds K fd ["value"] [] ∧ KBn K fd ["value"] 0 ["value"] (pm [0]) (pm [0]) := by
  obtain ⟨fd, F⟩ := T.d_is_name
  refine ⟨fd, F.ok sc_is_name sp1_len (fun cdv A outer s H vs Q E hr h => ?_), F.bindsN fun _ _ _ _ _ _ us hl => match us, hl with | [_], _ => rfl, kb_of F 0 ["value"] [0] (fun _ _ _ _ _ _ us ws h1 h2 => match us, ws, h1, h2 with | [], [_], _, _ => rfl)⟩
  obtain ⟨v, rfl, hh⟩ := sp1_is h
  refine ⟨_, (pss_cons (ps_if (PW.pt (pw_or (pt_not (pt_val (pe_callB (cr_isi rfl) (by rfl) T.b_isinstance (by decide +kernel) (pa_cons (pv 0) (pa_cons (pe_bltn (v := .ty "str") (by rfl) T.b_str (by decide +kernel) rfl) pa_nil))))) (pw_or1 (pt_not (pt_chain op_le op_le pe_int (pe_callB call_len_str (by rfl) T.b_len PySem.boot_len (pa_cons (pv 0) pa_nil)) (pe_gint rfl T.c_LONGEST_NAME)))))) (pss_one (ps_ret pe_bl)) pss_nil)
      (pss_one (ps_ret (pe_and (pe_cmpR op_in_sign (pe_ix ix_str (pv 0) pe_int (fun _ _ => rfl)) (pe_gstr rfl T.c_LETTERS) rfl) (pe_one (pe_callB (cr_all rfl) (by rfl) T.b_all (by decide +kernel) (pa_cons (pe_lc (own := [("each", 1)]) (g := gName 1) (tt := tYes)  rfl sc_is_name.nd (pi_str (pv 0)) (blkOk_by (own := [("each", 1)]) (N := ["value", "each"]) (sc := defScope s_is_name) (by decide +kernel)) (fun _ _ _ _ _ => (pg_name (i := 1) sc_is_name.nd rfl (Or.inl rfl))) (fun _ _ _ _ _ => pts_nil) (fun _ _ _ _ _ => (pe_or (pe_cmpR op_in_sign (pv 1) (pe_gstr rfl T.c_LETTERS) rfl) (pe_one (pe_cmpR op_in_sign (pv 1) (pe_gstr rfl T.c_DIGITS) rfl))))) pa_nil))))))), ?_⟩
  walk_at "rd"
  rcases hh with ⟨T1, hT, ne, hy, k⟩ | ⟨z, rfl, hz, k⟩
  · have e : kitR T1 "str" = false := by
      have : ∀ T ∈ tys, T ≠ "str" → kitR T "str" = false := by decide
      exact this T1 hT ne
    refine ⟨v, .ty "str", _, _, false, rfl, .ty "str", .base hy, by have := kit_ty (K := K) (kit_all T1 hT "str" (by decide)); rw [e] at this; exact this, ?_⟩
    exact ⟨_, rfl, ite_t rfl (ite_t rfl k)⟩
  · refine ⟨.str z, .ty "str", _, _, true, rfl, .ty "str", .base (.str z), kit_ty (K := K) (kit_all "str" (by decide) "str" (by decide)), ?_⟩
    refine ⟨_, rfl, ite_f rfl ?_⟩
    walk_at "rd"
    refine ⟨z, rfl, by rw [sizeLine_eq]; omega, ?_⟩
    walk_at "rd"
    have zl : z.length = z.cps.toList.length := by simp [Str.length]
    have kk : ∀ {b : Bool} {H' : Hp}, Ex H H' → nameB z = b → Q (.bl b) H' := fun {b H'} e h => h ▸ k H' e
    refine ite_b (fun c1 => ?_) fun c1 => ?_
    · walk_at "rd"
      simp only [decide_eq_true_eq] at c1
      refine ite_b (fun c2 => ?_) fun c2 => ?_
      · walk_at "rd"
        simp only [Bool.not_eq_true', decide_eq_false_iff_not] at c2
        refine kk (Ex.refl _) ?_
        have : decide (z.length ≤ 12) = false := decide_eq_false (by omega)
        simp [nameB, this]
      · walk_at "rd"
        have c2' : (z.length : Int) ≤ 12 := by simpa using c2
        have d1 : decide (1 ≤ z.length) = true := decide_eq_true (by omega)
        have d2 : decide (z.length ≤ 12) = true := decide_eq_true (by omega)
        obtain ⟨c, r, hc⟩ : ∃ c r, z.cps.toList = c :: r := by
          cases q : z.cps.toList with
          | nil => rw [q] at zl; simp at zl; omega
          | cons c r => exact ⟨c, r, rfl⟩
        refine ⟨z, 0, c, rfl, rfl, by rw [sizeLine_eq]; omega, atI_nat (j := 0) (by rw [hc]; rfl), ?_⟩
        walk_at "rd"
        refine ⟨c, _, rfl, rfl, _, rfl, ite_b (fun c3 => ?_) fun c3 => ?_⟩
        · walk_at "rd"
          refine ⟨_, rfl, z, rfl, ?_⟩
          have hsz : z.cps.size = z.cps.toList.length := by simp
          refine r_lcM (n := z.cps.size) (k := 1) (walk_str (z := z)) (fun j => .bl (isLet (z.cps.toList.getD j 0) || isDig (z.cps.toList.getD j 0))) (by omega) (fun _ _ => trivial) (fun _ => rfl) ?_ ?_
          · rintro j y H0 H' hj e0 ⟨rfl, d, hd, rfl⟩
            refine ⟨Ex.refl _, fun H3 e3 R r => ?_⟩
            have e : z.cps.toList.getD j 0 = d := by
              rw [List.getD_eq_getElem?_getD, Array.getElem?_toList, hd]
              rfl
            rw [e] at r
            walk_at "rd"
            refine ⟨d, _, rfl, rfl, _, rfl, ite_b (fun c4 => ?_) fun c4 => ?_⟩
            · have : isLet d = true := c4
              rw [this] at r
              exact r H3 (Ex.refl _)
            · walk_at "rd"
              have h4 : isLet d = false := by simpa [isLet] using c4
              refine ⟨d, _, rfl, rfl, ?_⟩
              have := r H3 (Ex.refl _)
              rw [h4] at this
              exact this
          · intro p H' hp e hl'
            walk_at "rd"
            rw [hsz] at hl'
            refine bools_all hl' ?_
            rw [all_range z.cps.toList 0 (fun c => isLet c || isDig c)]
            refine kk e ?_
            have h3 : isLet c = true := c3
            simp only [nameB, d1, d2, hc, List.headD_cons, h3, Bool.true_and]
        · refine kk (Ex.refl _) ?_
          have h3 : isLet c = false := by simpa [isLet] using c3
          simp [nameB, hc, h3]
    · refine ⟨_, rfl, ite_t rfl ?_⟩
      walk_at "rd"
      refine kk (Ex.refl _) ?_
      have c1' : (z.length : Int) < 1 := by simpa using c1
      have : decide (1 ≤ z.length) = false := decide_eq_false (by omega)
      simp [nameB, this]

end K00
namespace K00
open PySem PySem.Spec PyProof.Rows L2 GS TL LamX
local macro_rules | `(tactic| walk_at "rd") => `(tactic| (repeat (first
  | with_reducible refine r_next ?_
  | with_reducible refine r_seq ?_
  | with_reducible refine r_ret ?_
  | with_reducible refine r_ifS ?_
  | with_reducible refine r_asg ?_
  | with_reducible refine r_drop ?_
  | with_reducible refine r_op ?_
  | with_reducible refine r_un ?_
  | with_reducible refine r_cbInt ?_
  | with_reducible refine r_cbAbs ?_
  | with_reducible refine r_cbLen ?_
  | with_reducible refine r_cbList ?_
  | with_reducible refine r_cbTup ?_
  | with_reducible refine r_iEnT ?_
  | with_reducible refine r_iEnL ?_
  | with_reducible refine r_zipA ?_
  | with_reducible refine r_zipX ?_
  | with_reducible refine r_augS ?_
  | with_reducible refine r_cb ?_
  | with_reducible refine r_call ?_
  | with_reducible refine r_make ?_
  | with_reducible refine r_callN0 ?_
  | with_reducible refine r_makeK0 ?_
  | with_reducible refine r_makeS ?_
  | with_reducible refine r_callS ?_
  | with_reducible refine r_cons ?_
  | with_reducible refine r_nil ?_
  | with_reducible refine r_test ?_
  | with_reducible refine r_B ?_
  | with_reducible refine r_and ?_
  | with_reducible refine r_or ?_
  | with_reducible refine r_not ?_
  | with_reducible refine r_andV ?_
  | with_reducible refine r_orV ?_
  | with_reducible refine r_notV ?_
  | with_reducible refine r_if ?_
  | with_reducible refine r_tup ?_
  | with_reducible refine r_lst ?_
  | with_reducible refine r_c ?_
  | with_reducible refine r_lc ?_
  | with_reducible refine r_chain ?_
  | with_reducible refine r_iT ?_
  | with_reducible refine r_iL ?_
  | with_reducible refine r_iR1 ?_
  | with_reducible refine r_iR2 ?_
  | with_reducible refine r_iR3 ?_
  | with_reducible refine r_asgG ?_
  | with_reducible refine r_gSub ?_
  | with_reducible refine r_for ?_
  | with_reducible refine r_smeth ?_
  | with_reducible refine r_par ?_
  | with_reducible refine r_parK ?_
  | with_reducible refine r_gCons ?_
  | with_reducible refine r_gNil ?_
  | with_reducible refine r_gName ?_
  | with_reducible refine r_intI ?_
  | with_reducible refine r_intB ?_
  | with_reducible refine r_absI ?_
  | with_reducible refine r_k ?_
  | with_reducible refine r_kV ?_
  | ((with_reducible show tVar _ _ _ _); refine r_var3 ?_ (by rfl))
  | with_reducible refine r_I0 ?_
  | with_reducible refine r_U ?_
  | with_reducible refine r_eqI ?_
  | with_reducible refine r_neI ?_
  | with_reducible refine r_F ?_
  | dsimp only)))
local macro_rules | `(tactic| walk_at "rx") => `(tactic| (repeat (first
  | with_reducible refine r_next ?_
  | with_reducible refine r_ret ?_
  | with_reducible refine r_ifS ?_
  | with_reducible refine r_asg ?_
  | with_reducible refine r_drop ?_
  | with_reducible refine r_op ?_
  | with_reducible refine r_un ?_
  | with_reducible refine r_cbInt ?_
  | with_reducible refine r_cbAbs ?_
  | with_reducible refine r_cbLen ?_
  | with_reducible refine r_cbList ?_
  | with_reducible refine r_cbTup ?_
  | with_reducible refine r_iEnT ?_
  | with_reducible refine r_iEnL ?_
  | with_reducible refine r_zipA ?_
  | with_reducible refine r_zipX ?_
  | with_reducible refine r_augS ?_
  | with_reducible refine r_cb ?_
  | with_reducible refine r_call ?_
  | with_reducible refine r_make ?_
  | with_reducible refine r_callN0 ?_
  | with_reducible refine r_makeK0 ?_
  | with_reducible refine r_makeS ?_
  | with_reducible refine r_callS ?_
  | with_reducible refine r_cons ?_
  | with_reducible refine r_nil ?_
  | with_reducible refine r_test ?_
  | with_reducible refine r_B ?_
  | with_reducible refine r_and ?_
  | with_reducible refine r_or ?_
  | with_reducible refine r_not ?_
  | with_reducible refine r_andV ?_
  | with_reducible refine r_orV ?_
  | with_reducible refine r_notV ?_
  | with_reducible refine r_if ?_
  | with_reducible refine r_tup ?_
  | with_reducible refine r_lst ?_
  | with_reducible refine r_c ?_
  | with_reducible refine r_lc ?_
  | with_reducible refine r_chain ?_
  | with_reducible refine r_iT ?_
  | with_reducible refine r_iL ?_
  | with_reducible refine r_iR1 ?_
  | with_reducible refine r_iR2 ?_
  | with_reducible refine r_iR3 ?_
  | with_reducible refine r_asgG ?_
  | with_reducible refine r_gSub ?_
  | with_reducible refine r_for ?_
  | with_reducible refine r_smeth ?_
  | with_reducible refine r_par ?_
  | with_reducible refine r_parK ?_
  | with_reducible refine r_gCons ?_
  | with_reducible refine r_gNil ?_
  | with_reducible refine r_gName ?_
  | with_reducible refine r_intI ?_
  | with_reducible refine r_intB ?_
  | with_reducible refine r_absI ?_
  | with_reducible refine r_k ?_
  | with_reducible refine r_kV ?_
  | ((with_reducible show tVar _ _ _ _); refine r_var3 ?_ (by rfl))
  | with_reducible refine r_I0 ?_
  | with_reducible refine r_U ?_
  | with_reducible refine r_eqI ?_
  | with_reducible refine r_neI ?_
  | with_reducible refine r_F ?_
  | dsimp only)))
/-! ### names drawn and bent -/
abbrev sl (z : Str) : List Nat := z.cps.toList
def okC (c : Nat) : Bool := isLet c || isDig c
theorem sl_len (z : Str) : z.length = (sl z).length := by simp [Str.length]
theorem sl_app (x y : Str) : sl (x ++ y) = sl x ++ sl y := by
  show (x.cps ++ y.cps).toList = _
  simp
theorem sl_cutT (z : Str) (k : Nat) : sl (cutS z none (some (k : Int))) = (sl z).take k := by
  unfold cutS
  rw [HT.sIx_none, HT.sIx_nat, List.drop_zero, Nat.sub_zero]
  show ((sl z).take _) = _
  rw [sl_len]
  by_cases c : k ≤ (sl z).length
  · rw [Nat.min_eq_left c]
  · rw [Nat.min_eq_right (by omega), List.take_of_length_le (Nat.le_refl _), List.take_of_length_le (by omega)]
theorem sl_cutD (z : Str) (k : Nat) (h : k ≤ z.length) : sl (cutS z (some (k : Int)) none) = (sl z).drop k := by
  unfold cutS
  rw [HT.sIx_none, HT.sIx_nat, Nat.min_eq_left h]
  show (((sl z).drop k).take _) = _
  rw [List.take_of_length_le (by rw [List.length_drop, sl_len]; exact Nat.le_refl _)]
theorem nameB_eq (z : Str) : nameB z = (decide (1 ≤ (sl z).length) && decide ((sl z).length ≤ 12) && isLet ((sl z).headD 0) && (sl z).all okC) := by
  unfold nameB okC
  rw [sl_len]
/-- a drawn name -/
structure Nm (z : Str) : Prop where
  h1 : 1 ≤ (sl z).length
  h12 : (sl z).length ≤ 12
  hd : isLet ((sl z).headD 0) = true
  all : (sl z).all okC = true
theorem Nm.yes {z : Str} (h : Nm z) : nameB z = true := by
  rw [nameB_eq, decide_eq_true h.h1, decide_eq_true h.h12, h.hd, h.all]
  rfl
theorem no_len {z : Str} (h : 12 < (sl z).length) : nameB z = false := by
  rw [nameB_eq, decide_eq_false (show ¬ (sl z).length ≤ 12 by omega)]
  simp
theorem no_hd {z : Str} {c : Nat} {r : List Nat} (e : sl z = c :: r) (h : isLet c = false) : nameB z = false := by
  rw [nameB_eq, e, List.headD_cons, h]
  simp
theorem no_in {z : Str} {c : Nat} (hc : c ∈ sl z) (h : okC c = false) : nameB z = false := by
  rw [nameB_eq]
  have : (sl z).all okC = false := by
    rw [List.all_eq_false]
    exact ⟨c, hc, by rw [h]; simp⟩
  rw [this, Bool.and_false]
theorem Nm.snoc {z : Str} {c : Nat} (h : Nm z) (hc : okC c = true) (hl : (sl z).length ≤ 11) : Nm (z ++ ⟨#[c]⟩) := by
  have e : sl (z ++ ⟨#[c]⟩) = sl z ++ [c] := sl_app _ _
  refine ⟨by rw [e]; simp, by rw [e, List.length_append]; show _ + 1 ≤ 12; omega, ?_, ?_⟩
  · rw [e]
    have := h.hd
    have h1 := h.h1
    cases q : sl z with
    | nil => rw [q] at h1; simp at h1
    | cons d r => rw [q] at this; exact this
  · rw [e, List.all_append, h.all]
    simp [hc]
theorem foldl_app : ∀ (l : List (Array Nat)) (acc : Array Nat), (l.foldl (· ++ ·) acc).toList = acc.toList ++ (l.map Array.toList).flatten
  | [], acc => by simp
  | a :: l, acc => by
    rw [List.foldl_cons, foldl_app l]
    simp
theorem mul12 {z : Str} (h : 1 ≤ (sl z).length) : sl (Txt.mul z 12) = (List.replicate 12 (sl z)).flatten := by
  unfold Txt.mul
  rw [if_neg (by omega), if_neg (by
    have : z.length ≠ 0 := by rw [sl_len]; omega
    simp [this])]
  show ((List.replicate 12 z.cps).foldl (· ++ ·) #[]).toList = _
  rw [foldl_app, List.map_replicate]
  rfl
theorem Nm.twelve {z : Str} (h : Nm z) : Nm (cutS (Txt.mul z 12) none (some (12 : Int))) := by
  have e : sl (cutS (Txt.mul z 12) none (some (12 : Int))) = ((List.replicate 12 (sl z)).flatten).take 12 := by
    rw [← mul12 h.h1]
    exact sl_cutT _ 12
  have hl : ((List.replicate 12 (sl z)).flatten).length = 12 * (sl z).length := by simp; omega
  have h1 := h.h1
  have ln : (sl (cutS (Txt.mul z 12) none (some (12 : Int)))).length = 12 := by rw [e, List.length_take, hl]; omega
  refine ⟨by omega, by omega, ?_, ?_⟩
  · rw [e]
    have := h.hd
    cases q : sl z with
    | nil => rw [q] at h1; simp at h1
    | cons d r =>
      rw [q] at this
      rw [List.replicate_succ, List.flatten_cons, List.cons_append, List.take_succ_cons]
      exact this
  · rw [e, List.all_eq_true]
    intro x hx
    have := List.mem_of_mem_take hx
    obtain ⟨l, h1, h2⟩ := List.mem_flatten.mp this
    rw [List.mem_replicate] at h1
    rw [h1.2] at h2
    exact List.all_eq_true.mp h.all x h2
def oddL : List Str := ["A", " ", "_", "-", "\n", ".", "Z", ":"]
theorem odd_c : ∀ z ∈ oddL, ∃ c, sl z = [c] ∧ okC c = false := by
  have : ∀ z ∈ oddL, ((sl z).length == 1 && !okC ((sl z).headD 0)) = true := by decide +kernel
  intro z hz
  have h := this z hz
  simp only [Bool.and_eq_true, beq_iff_eq, Bool.not_eq_true'] at h
  obtain ⟨h1, h2⟩ := h
  match q : sl z, h1 with
  | [c], _ => rw [q] at h2; exact ⟨c, rfl, h2⟩
def spNames (K : PySem.W.Frag) : Sp := sp1 fun b H Q _ => ∃ (p : Addr) (n : Int), b = .ref p ∧ n ≤ 80000 ∧ Bag H p n ∧ ∀ H', Bg p H H' → Bag H' p (n + 20) → Q (.bl true) H'
theorem ok__law_names_right {P : Program} {w : World} {K : PySem.W.Frag} {mg : Str → Option Value} {base : Heap} (T : Txt K mg) : ∃ fd, FnOk P w K mg base (L2.CX P w) 3 (He.ga K "_law_names_right") fd ["ark"] (spNames K) ∧ Binds K fd ["ark"] [] := by
  obtain ⟨fd, F⟩ := T.d__law_names_right
  obtain ⟨fd_is_name, F_is_name, B_is_name, kb_is_name_0⟩ := ok_is_name (P := P) (w := w) (base := base) T
  obtain ⟨fd__law_haul, F__law_haul, B__law_haul⟩ := ok__law_haul (P := P) (w := w) (base := base) T
  obtain ⟨fd__law_fish, F__law_fish, B__law_fish⟩ := ok__law_fish (P := P) (w := w) (base := base) T
  refine ⟨fd, F.ok sc__law_names_right sp1_len (fun cdv A outer s H vs Q E hr h => ?_), F.bindsN fun _ _ _ _ _ _ us hl => match us, hl with | [_], _ => rfl⟩
  have hr_is_name : Room 1 _ := hr.mono (by decide)
  have hr__law_haul : Room 1 _ := hr.mono (by decide)
  have hr__law_fish : Room 2 _ := hr.mono (by decide)
  obtain ⟨b0, rfl, p, n, rfl, hn, hb, k⟩ := sp1_is h
  refine ⟨_, (pss_cons (ps_set (i := 1) sc__law_names_right.nd rfl (Or.inl rfl) pe_str)
      (pss_cons (ps_set (i := 2) sc__law_names_right.nd rfl (Or.inl rfl) (pe_ix ix_str (pv 1) (pe_call F__law_haul hr__law_haul (by rfl) T.g__law_haul T.k__law_haul B__law_haul .nil passL (pa_cons (pv 0) (pa_cons pe_int pa_nil))) (fun _ _ => rfl)))
      (pss_cons (ps_for (passes_of rfl) rfl (pi_range1 (by rfl) T.b_range (pa_cons (pe_call F__law_fish hr__law_fish (by rfl) T.g__law_fish T.k__law_fish B__law_fish .nil passL (pa_cons (pv 0) (pa_cons (pe_lst (pa_cons pe_int (pa_cons pe_int (pa_cons pe_int (pa_cons pe_int pa_nil))))) pa_nil))) pa_nil)) (pg_name (i := 3) sc__law_names_right.nd rfl (Or.inl rfl)) (pss_one (ps_set (i := 2) sc__law_names_right.nd rfl (Or.inl rfl) (pe_op op_add_str (pv 2) (pe_call F__law_fish hr__law_fish (by rfl) T.g__law_fish T.k__law_fish B__law_fish .nil passL (pa_cons (pv 0) (pa_cons (pe_op op_add_str (pv 1) pe_str) pa_nil)))))))
      (pss_cons (ps_par (i := 4) (j := 5) (by rfl) sc__law_names_right.nd rfl rfl (by decide) rfl rfl (pa_cons (pe_call F__law_haul hr__law_haul (by rfl) T.g__law_haul T.k__law_haul B__law_haul .nil passL (pa_cons (pv 0) (pa_cons (pe_callB call_len_str (by rfl) T.b_len PySem.boot_len (pa_cons (pv 2) pa_nil)) pa_nil))) (pa_cons (pe_call F__law_fish hr__law_fish (by rfl) T.g__law_fish T.k__law_fish B__law_fish .nil passL (pa_cons (pv 0) (pa_cons (pe_lst (pa_cons pe_str (pa_cons pe_str (pa_cons pe_str (pa_cons pe_str (pa_cons pe_str (pa_cons pe_str (pa_cons pe_str (pa_cons pe_str pa_nil))))))))) pa_nil))) pa_nil)) (by rfl))
      (pss_cons (ps_set (i := 6) sc__law_names_right.nd rfl (Or.inl rfl) (pe_lst (pa_cons pe_str (pa_cons (pe_op op_add_str (pe_op op_add_str (pe_slice sl_str (pv 2) po_none (po_some (pv 4))) (pv 5)) (pe_slice sl_str (pv 2) (po_some (pv 4)) po_none)) (pa_cons (pe_op op_add_str (pv 2) (pv 5)) (pa_cons (pe_op op_add_str (pe_callTy call_str_int (by rfl) T.b_str (by decide +kernel) (pa_cons (pe_call F__law_haul hr__law_haul (by rfl) T.g__law_haul T.k__law_haul B__law_haul .nil passL (pa_cons (pv 0) (pa_cons pe_int pa_nil))) pa_nil)) (pe_slice sl_str (pv 2) po_none (po_some pe_int))) (pa_cons (pe_op op_add_str (pv 2) (pe_op op_mulS pe_str (pe_op op_sub pe_int (pe_callB call_len_str (by rfl) T.b_len PySem.boot_len (pa_cons (pv 2) pa_nil))))) (pa_cons (pe_op op_add_str pe_str (pv 2)) pa_nil))))))))
      (pss_cons (ps_set (i := 6) sc__law_names_right.nd rfl (Or.inl rfl) (pe_op op_cat (pv 6) (pe_lst (pa_cons pe_non (pa_cons pe_int (pa_cons pe_bl (pa_cons (pe_lst (pa_cons (pv 2) pa_nil)) (pa_cons (pe_tup (pa_cons (pv 2) pa_nil)) (pa_cons (pe_disp (pps_cons (pv 2) pe_int pps_nil) (by rfl) (by rfl) (fun z => by cases z) (by decide)) pa_nil)))))))))
      (pss_cons (ps_if (PW.pt (pw_or (pt_cmpR op_isntB (pe_call F_is_name hr_is_name (by rfl) T.g_is_name T.k_is_name B_is_name .nil passL (pa_cons (pv 2) pa_nil)) pe_bl (nomark _)) (pw_or1 (pt_cmpR op_isntB (pe_callK0 F_is_name hr_is_name (by rfl) T.g_is_name T.k_is_name kb_is_name_0 passL (pk_cons (pe_slice sl_str (pe_op op_mulS (pv 2) pe_int) po_none (po_some pe_int)) pk_nil)) pe_bl (nomark _))))) (pss_one (ps_ret pe_bl)) pss_nil)
      (pss_one (ps_ret (pe_cmpR (op_eqD hr.units) (pe_lc (own := [("value", 7)]) (g := gName 7)  rfl sc__law_names_right.nd (pi_list (pv 6)) (blkOk_by (own := [("value", 7)]) (N := ["ark", "letters", "name", "turn", "at", "odd", "bent", "value"]) (sc := defScope s__law_names_right) (by decide +kernel)) (fun _ _ _ _ _ => (pg_name (i := 7) sc__law_names_right.nd rfl (Or.inl rfl))) (fun _ _ _ _ _ => (pts_one (pt_cmpR op_isntB (pe_call F_is_name hr_is_name (by rfl) T.g_is_name T.k_is_name B_is_name .nil passL (pa_cons (pv 7) pa_nil)) pe_bl (nomark _)))) (fun _ _ _ _ _ => (pv 7))) (pe_lst pa_nil) (nomark _))))))))))), ?_⟩
  walk_at "rd"
  refine r_DrawG hb (by omega) (by decide) (zsm (by decide)) fun r H1 r0 r1 g1 b1 => ?_
  walk_at "rd"
  have key : ∀ i < 26, ∃ c, (sl (Str.ofString "abcdefghijklmnopqrstuvwxyz"))[i]? = some c ∧ isLet c = true := by
    have : ∀ i < 26, (((sl (Str.ofString "abcdefghijklmnopqrstuvwxyz"))[i]?).isSome && isLet ((sl (Str.ofString "abcdefghijklmnopqrstuvwxyz")).getD i 0)) = true := by decide +kernel
    intro i hi
    obtain ⟨h1, h2⟩ := Bool.and_eq_true_iff.mp (this i hi)
    obtain ⟨c, hc⟩ := Option.isSome_iff_exists.mp h1
    rw [List.getD_eq_getElem?_getD, hc] at h2
    exact ⟨c, hc, h2⟩
  obtain ⟨c0, hc0, l0⟩ := key r.toNat (by omega)
  have er : r = (r.toNat : Int) := by omega
  rw [er]
  refine ⟨_, _, c0, rfl, rfl, by decide, atI_nat hc0, ?_⟩
  have nm0 : Nm ⟨#[c0]⟩ := ⟨Nat.le_refl 1, by show 1 ≤ 12; decide, l0, by show (okC c0 && true) = true; simp [okC, l0]⟩
  walk_at "rd"
  refine r_newL (sz_le (by simp)) fun q2 H2 _ e2 h2 => ?_
  walk_at "rd"
  refine r_One (H0 := H2) (b1.ex e2) h2 (fun _ _ _ z => by cases z) (by simp) (by simp) (by omega) fun v H3 hv g3 b3 => ?_
  obtain ⟨m, rfl, hm⟩ : ∃ m : Nat, v = .int (m : Int) ∧ m ≤ 11 := by
    simp only [List.mem_cons, List.mem_nil_iff, or_false] at hv
    rcases hv with rfl | rfl | rfl | rfl
    · exact ⟨0, rfl, by decide⟩
    · exact ⟨11, rfl, by decide⟩
    · exact ⟨3, rfl, by decide⟩
    · exact ⟨10, rfl, by decide⟩
  walk_at "rd"
  have g : Bg p H H3 := (g1.trans (Bg.of e2)).trans g3
  refine ⟨m, rfl, by omega, by omega, ?_⟩
  rw [Int.toNat_natCast]
  refine for_of (walk_range (lo := 0) (n := m)) (fun i σ H' => Bg p H H' ∧ Bag H' p (n + 2 + i) ∧ ∃ z s3, Nm z ∧ (sl z).length = i + 1 ∧ σ = [some (.ref p), some (.str (Str.ofString "abcdefghijklmnopqrstuvwxyz")), some (.str z), s3, none, none, none, none]) ⟨g, b3.le (by omega), _, none, nm0, rfl, rfl⟩ (fun _ _ _ _ _ => trivial) ?_ ?_
  · rintro i x σ H4 H' hi ⟨g4, b4, z, s3, hz, hl, rfl⟩ ⟨rfl, rfl⟩
    walk_at "rd"
    refine ⟨_, _, rfl, rfl, by decide, ?_⟩
    walk_at "rd"
    refine ⟨p, _, rfl, by omega, b4, .inr ⟨_, rfl, by decide, by decide, fun c H5 hc g5 b5 => ?_⟩⟩
    have oc : okC c = true := by
      have hc' : c ∈ sl (Str.ofString "abcdefghijklmnopqrstuvwxyz" ++ Str.ofString "0123456789") := hc
      rw [sl_app, List.mem_append] at hc'
      unfold okC isLet isDig
      rcases hc' with h | h
      · rw [decide_eq_true h]; rfl
      · rw [decide_eq_true h, Bool.or_true]
    have zz := sl_len z
    refine ⟨z, _, rfl, rfl, by rw [sizeLine_eq, zz]; show _ + 1 ≤ _; omega, ?_⟩
    exact ⟨g4.trans g5, b5.le (by push_cast; omega), _, _, hz.snoc oc (by omega), by rw [sl_app, List.length_append, hl]; rfl, rfl⟩
  · rintro σ H4 ⟨g4, b4, z, s3, hz, hl, rfl⟩
    have zz := sl_len z
    have z1 := hz.h1
    have z12 := hz.h12
    clear g b3 b1 g1 key hc0 nm0
    walk_at "rd"
    refine ⟨z, rfl, by rw [sizeLine_eq]; omega, ?_⟩
    walk_at "rd"
    refine r_DrawG b4 (by omega) (by omega) (zsm (by omega)) fun t H5 t0 t1 g5 b5 => ?_
    walk_at "rd"
    refine r_newL (sz_le (by simp)) fun q6 H6 _ e6 h6 => ?_
    walk_at "rd"
    refine r_One (H0 := H6) (b5.ex e6) h6 (fun _ _ _ z => by cases z) (by simp) (by simp) (by omega) fun v H7 hv g7 b7 => ?_
    obtain ⟨y, rfl, hy⟩ : ∃ y, v = .str y ∧ y ∈ oddL := by
      simp only [List.mem_cons, List.mem_nil_iff, or_false] at hv
      rcases hv with rfl | rfl | rfl | rfl | rfl | rfl | rfl | rfl <;> exact ⟨_, rfl, by decide⟩
    obtain ⟨c, hc, oc⟩ := odd_c y hy
    have yl : y.length = 1 := by rw [sl_len, hc]; rfl
    have g : Bg p H H7 := ((g4.trans g5).trans (Bg.of e6)).trans g7
    clear h6
    have et : t = (t.toNat : Int) := by omega
    rw [et]
    generalize hk : t.toNat = j at *
    have hj : j < (sl z).length := by omega
    walk_at "rd"
    have zle : z.length ≤ 12 := by omega
    have cz : ∀ {lo hi : Option Int}, (cutS z lo hi).length ≤ 12 := fun {lo hi} => Nat.le_trans (cutS_length z lo hi) zle
    have lap : ∀ x y : Str, (x ++ y).length = x.length + y.length := fun x y => by rw [sl_len, sl_app, List.length_append, ← sl_len, ← sl_len]
    have hs : ∀ {a : Nat}, a ≤ 1000 → a ≤ sizeLine := fun {a} h => by rw [sizeLine_eq]; omega
    have c1 : (cutS z none (some (j : Int))).length ≤ 12 := cz
    have c2 : (cutS z (some (j : Int)) none).length ≤ 12 := cz
    refine ⟨.str z, rfl, .int j, rfl, j, rfl, z, rfl, hs (by omega), ?_⟩
    refine ⟨_, rfl, _, _, rfl, rfl, hs (by omega), ?_⟩
    refine ⟨.str z, rfl, .int j, rfl, j, rfl, z, rfl, hs (by omega), ?_⟩
    refine ⟨_, _, rfl, rfl, hs (by rw [lap]; omega), ?_⟩
    have n1 : nameB (cutS z none (some (j : Int)) ++ y ++ cutS z (some (j : Int)) none) = false := no_in (c := c) (by rw [sl_app, sl_app, hc]; simp) oc
    have l1 : (cutS z none (some (j : Int)) ++ y ++ cutS z (some (j : Int)) none).length ≤ 1000 := by rw [lap, lap]; omega
    generalize (cutS z none (some (j : Int)) ++ y ++ cutS z (some (j : Int)) none) = w1 at n1 l1 ⊢
    walk_at "rd"
    refine ⟨_, _, rfl, rfl, hs (by omega), ?_⟩
    have n2 : nameB (z ++ y) = false := no_in (c := c) (by rw [sl_app, hc]; simp) oc
    have l2 : (z ++ y).length ≤ 1000 := by rw [lap]; omega
    generalize (z ++ y) = w2 at n2 l2 ⊢
    walk_at "rd"
    refine r_DrawG b7 (by omega) (by decide) (zsm (by decide)) fun d H8 d0 d1 g8 b8 => ?_
    have key : ∀ i < 10, ∃ c, sl (Str.ofString (toString ((i : Nat) : Int))) = [c] ∧ isLet c = false := by
      have : ∀ i < 10, ((sl (Str.ofString (toString ((i : Nat) : Int)))).length == 1 && !isLet ((sl (Str.ofString (toString ((i : Nat) : Int)))).headD 0)) = true := by decide +kernel
      intro i hi
      have h := this i hi
      simp only [Bool.and_eq_true, beq_iff_eq, Bool.not_eq_true'] at h
      obtain ⟨h1, h2⟩ := h
      match q : sl (Str.ofString (toString ((i : Nat) : Int))), h1 with
      | [c], _ => rw [q] at h2; exact ⟨c, rfl, h2⟩
    obtain ⟨cd, hcd, hld⟩ := key d.toNat (by omega)
    have ed : d = (d.toNat : Int) := by omega
    rw [← ed] at hcd
    walk_at "rd"
    refine ⟨d, rfl, ?_, ?_⟩
    · have : d.natAbs < 10 := by omega
      exact Nat.lt_of_le_of_lt (Nat.log2_le_self _) (by omega)
    have ld : (Str.ofString (toString d)).length = 1 := by rw [sl_len, hcd]; rfl
    have c3 : (cutS z none (some (11 : Int))).length ≤ 12 := cz
    refine ⟨.str z, rfl, 11, rfl, z, rfl, hs (by omega), ?_⟩
    refine ⟨_, _, rfl, rfl, hs (by omega), ?_⟩
    have n3 : nameB (Str.ofString (toString d) ++ cutS z none (some (11 : Int))) = false := no_hd (c := cd) (r := sl (cutS z none (some (11 : Int)))) (by rw [sl_app, hcd]; rfl) hld
    have l3 : (Str.ofString (toString d) ++ cutS z none (some (11 : Int))).length ≤ 1000 := by rw [lap]; omega
    generalize (Str.ofString (toString d) ++ cutS z none (some (11 : Int))) = w3 at n3 l3 ⊢
    walk_at "rd"
    refine ⟨z, rfl, hs (by omega), ?_⟩
    walk_at "rd"
    refine ⟨Str.ofString "a", _, rfl, rfl, mulOk_small (by omega) (by omega) (by decide), ?_⟩
    have m4 : sl (Txt.mul (Str.ofString "a") (13 - (z.length : Int))) = List.replicate (13 - (z.length : Int)).toNat 97 := mul_one_list 97 _
    have ml : (Txt.mul (Str.ofString "a") (13 - (z.length : Int))).length = 13 - z.length := by rw [sl_len, m4, List.length_replicate]; omega
    refine ⟨_, _, rfl, rfl, hs (by omega), ?_⟩
    have n4 : nameB (z ++ Txt.mul (Str.ofString "a") (13 - (z.length : Int))) = false := no_len (by rw [← sl_len, lap, ml]; omega)
    have l4 : (z ++ Txt.mul (Str.ofString "a") (13 - (z.length : Int))).length ≤ 1000 := by rw [lap, ml]; omega
    generalize (z ++ Txt.mul (Str.ofString "a") (13 - (z.length : Int))) = w4 at n4 l4 ⊢
    walk_at "rd"
    have ls : (Str.ofString " ").length = 1 := rfl
    refine ⟨_, _, rfl, rfl, hs (by omega), ?_⟩
    have n5 : nameB (Str.ofString " " ++ z) = false := no_hd (c := 32) (r := sl z) (by rw [sl_app]; rfl) (by decide)
    have l5 : (Str.ofString " " ++ z).length ≤ 1000 := by rw [lap]; omega
    generalize (Str.ofString " " ++ z) = w5 at n5 l5 ⊢
    walk_at "rd"
    refine r_newL (sz_le (by simp)) fun B1 H9 _ e9 h9 => ?_
    walk_at "rd"
    refine r_newL (sz_le (by simp)) fun B2 H10 _ e10 h10 => ?_
    walk_at "rd"
    refine r_newT (sz_le (by simp)) fun B3 H11 _ e11 h11 => ?_
    walk_at "rd"
    refine fun B4 nB4 => ?_
    simp only [tPairs]
    walk_at "rd"
    refine ⟨upd_same, [(.inr z, .int 1)], rfl, by simp, ?_⟩
    have e12 : Ex H11 (upd (upd H11 B4 (.dK [])) B4 (.dK (mergeK [] [(.inr z, .int 1)]))) := fun a o h => by
      have : a ≠ B4 := ne_of_none h nB4
      rw [upd_ne this, upd_ne this]
      exact h
    have h12 : (upd (upd H11 B4 (.dK [])) B4 (.dK (mergeK [] [(.inr z, .int 1)]))) B4 = some (.dK (mergeK [] [(.inr z, .int 1)])) := upd_same
    generalize (upd (upd H11 B4 (.dK [])) B4 (.dK (mergeK [] [(.inr z, .int 1)]))) = H12 at e12 h12 ⊢
    walk_at "rd"
    refine r_newL (sz_le (by simp)) fun B5 H13 _ e13 h13 => ?_
    refine r_cat (e13 _ _ (e12 _ _ (e11 _ _ (e10 _ _ h9)))) h13 (by simp) fun B6 H14 _ e14 h14 => ?_
    walk_at "rd"
    refine .inr ⟨z, rfl, by omega, fun H15 e15 => ?_⟩
    rw [hz.yes]
    walk_at "rd"
    refine ⟨_, _, rfl, rfl, _, rfl, ite_f rfl ?_⟩
    walk_at "rd"
    have m12 : (Txt.mul z 12).length ≤ 144 := by
      rw [sl_len, mul12 z1]
      have : ((List.replicate 12 (sl z)).flatten).length = 12 * (sl z).length := by simp; omega
      omega
    have ly : (cutS (Txt.mul z 12) none (some (12 : Int))).length ≤ 1000 := Nat.le_trans (cutS_length _ _ _) (by omega)
    refine ⟨_, rfl, z, 12, rfl, rfl, mulOk_small (by decide) (by decide) (by omega), 12, rfl, _, rfl, hs (by omega), ?_⟩
    walk_at "rd"
    refine ⟨rfl, rfl, .inr ⟨_, rfl, ly, fun H16 e16 => ?_⟩⟩
    rw [hz.twelve.yes]
    walk_at "rd"
    refine ⟨_, _, rfl, rfl, _, rfl, ite_f rfl ?_⟩
    walk_at "rd"
    have up : Ex H14 H16 := e15.trans e16
    have h16 := up _ _ h14
    refine ⟨B6, rfl, ⟨_, SqL.of h16⟩, ?_⟩
    have k2 : H16 B2 = some (.lst [.str z]) := up _ _ (e14 _ _ (e13 _ _ (e12 _ _ (e11 _ _ h10))))
    have k3 : H16 B3 = some (.tup [.str z]) := up _ _ (e14 _ _ (e13 _ _ (e12 _ _ h11)))
    have k4 : H16 B4 = some (.dK (mergeK [] [(.inr z, .int 1)])) := up _ _ (e14 _ _ (e13 _ _ h12))
    generalize hxs : ([V.str (Str.ofString ""), V.str w1, V.str w2, V.str w3, V.str w4, V.str w5] ++ [V.non, V.int 5, V.bl true, V.ref B2, V.ref B3, V.ref B4]) = xs at h16
    have n0 : nameB (Str.ofString "") = false := by decide
    have bad : ∀ x ∈ xs, (∃ T ∈ tys, T ≠ "str" ∧ TyOf K H16 x (.type T)) ∨ ∃ w, x = .str w ∧ w.length ≤ 1000 ∧ nameB w = false := by
      intro x hx
      rw [← hxs] at hx
      simp only [List.cons_append, List.nil_append, List.mem_cons, List.mem_nil_iff, or_false] at hx
      rcases hx with rfl | rfl | rfl | rfl | rfl | rfl | rfl | rfl | rfl | rfl | rfl | rfl
      · exact .inr ⟨_, rfl, by decide, n0⟩
      · exact .inr ⟨_, rfl, l1, n1⟩
      · exact .inr ⟨_, rfl, l2, n2⟩
      · exact .inr ⟨_, rfl, l3, n3⟩
      · exact .inr ⟨_, rfl, l4, n4⟩
      · exact .inr ⟨_, rfl, l5, n5⟩
      · exact .inl ⟨"NoneType", by decide, by decide, .non⟩
      · exact .inl ⟨"int", by decide, by decide, .int 5⟩
      · exact .inl ⟨"bool", by decide, by decide, .bl true⟩
      · exact .inl ⟨"list", by decide, by decide, .lst k2⟩
      · exact .inl ⟨"tuple", by decide, by decide, .tup k3⟩
      · exact .inl ⟨"dict", by decide, by decide, .dK k4⟩
    have lxs : xs.length ≤ 50000 := by rw [← hxs]; simp
    refine r_lcF (n := xs.length) (k := 7) (walk_list (xs := xs)) (fun _ => false) (fun _ => .non) lxs (fun H' e => SqL.of (e _ _ h16)) (fun _ => rfl) ?_ (fun _ _ _ _ z => by cases z) ?_
    · rintro i x H0 H' hi e0 ⟨rfl, hx⟩
      refine ⟨Ex.refl _, fun R rr => ?_⟩
      walk_at "rd"
      rcases bad x (List.mem_of_getElem? hx) with ⟨T1, hT, ne, ty⟩ | ⟨w, rfl, lw, nw⟩
      · refine .inl ⟨T1, hT, ne, TyOf.ex' ty fun a _ o q => e0 a o q, ?_⟩
        exact ⟨_, _, rfl, rfl, _, rfl, rr _ (Ex.refl _)⟩
      · refine .inr ⟨w, rfl, lw, fun H3 e3 => ?_⟩
        rw [nw]
        exact ⟨_, _, rfl, rfl, _, rfl, rr _ e3⟩
    · intro q Hq hq eq hl
      have hl' : Hq q = some (.lst (([] : List Bool).map V.bl)) := by
        rw [hl]
        unfold given
        rw [List.filter_eq_nil_iff.mpr (fun _ _ => by simp)]
        rfl
      walk_at "rd"
      refine r_newL (xs := []) (sz_le (by simp)) fun q2' Hr _ er hr' => ?_
      refine r_eqBls (ys := []) (er _ _ hl') hr' ?_
      have ex : Ex H8 Hr := ((((((((e9.trans e10).trans e11).trans e12).trans e13).trans e14).trans up).trans eq).trans er)
      exact k _ ((g.trans g8).trans (Bg.of ex)) ((b8.ex ex).le (by push_cast; omega))

end K00
namespace K00
open PySem PySem.Spec PyProof.Rows L2 GS TL LamX
local macro_rules | `(tactic| walk_at "rd") => `(tactic| (repeat (first
  | with_reducible refine r_next ?_
  | with_reducible refine r_seq ?_
  | with_reducible refine r_ret ?_
  | with_reducible refine r_ifS ?_
  | with_reducible refine r_asg ?_
  | with_reducible refine r_drop ?_
  | with_reducible refine r_op ?_
  | with_reducible refine r_un ?_
  | with_reducible refine r_cbInt ?_
  | with_reducible refine r_cbAbs ?_
  | with_reducible refine r_cbLen ?_
  | with_reducible refine r_cbList ?_
  | with_reducible refine r_cbTup ?_
  | with_reducible refine r_iEnT ?_
  | with_reducible refine r_iEnL ?_
  | with_reducible refine r_zipA ?_
  | with_reducible refine r_zipX ?_
  | with_reducible refine r_augS ?_
  | with_reducible refine r_cb ?_
  | with_reducible refine r_call ?_
  | with_reducible refine r_make ?_
  | with_reducible refine r_callN0 ?_
  | with_reducible refine r_makeK0 ?_
  | with_reducible refine r_makeS ?_
  | with_reducible refine r_callS ?_
  | with_reducible refine r_cons ?_
  | with_reducible refine r_nil ?_
  | with_reducible refine r_test ?_
  | with_reducible refine r_B ?_
  | with_reducible refine r_and ?_
  | with_reducible refine r_or ?_
  | with_reducible refine r_not ?_
  | with_reducible refine r_andV ?_
  | with_reducible refine r_orV ?_
  | with_reducible refine r_notV ?_
  | with_reducible refine r_if ?_
  | with_reducible refine r_tup ?_
  | with_reducible refine r_lst ?_
  | with_reducible refine r_c ?_
  | with_reducible refine r_lc ?_
  | with_reducible refine r_chain ?_
  | with_reducible refine r_iT ?_
  | with_reducible refine r_iL ?_
  | with_reducible refine r_iR1 ?_
  | with_reducible refine r_iR2 ?_
  | with_reducible refine r_iR3 ?_
  | with_reducible refine r_asgG ?_
  | with_reducible refine r_gSub ?_
  | with_reducible refine r_for ?_
  | with_reducible refine r_smeth ?_
  | with_reducible refine r_par ?_
  | with_reducible refine r_parK ?_
  | with_reducible refine r_gCons ?_
  | with_reducible refine r_gNil ?_
  | with_reducible refine r_gName ?_
  | with_reducible refine r_intI ?_
  | with_reducible refine r_intB ?_
  | with_reducible refine r_absI ?_
  | with_reducible refine r_k ?_
  | with_reducible refine r_kV ?_
  | ((with_reducible show tVar _ _ _ _); refine r_var3 ?_ (by rfl))
  | with_reducible refine r_I0 ?_
  | with_reducible refine r_U ?_
  | with_reducible refine r_eqI ?_
  | with_reducible refine r_neI ?_
  | with_reducible refine r_F ?_
  | dsimp only)))
local macro_rules | `(tactic| walk_at "rx") => `(tactic| (repeat (first
  | with_reducible refine r_next ?_
  | with_reducible refine r_ret ?_
  | with_reducible refine r_ifS ?_
  | with_reducible refine r_asg ?_
  | with_reducible refine r_drop ?_
  | with_reducible refine r_op ?_
  | with_reducible refine r_un ?_
  | with_reducible refine r_cbInt ?_
  | with_reducible refine r_cbAbs ?_
  | with_reducible refine r_cbLen ?_
  | with_reducible refine r_cbList ?_
  | with_reducible refine r_cbTup ?_
  | with_reducible refine r_iEnT ?_
  | with_reducible refine r_iEnL ?_
  | with_reducible refine r_zipA ?_
  | with_reducible refine r_zipX ?_
  | with_reducible refine r_augS ?_
  | with_reducible refine r_cb ?_
  | with_reducible refine r_call ?_
  | with_reducible refine r_make ?_
  | with_reducible refine r_callN0 ?_
  | with_reducible refine r_makeK0 ?_
  | with_reducible refine r_makeS ?_
  | with_reducible refine r_callS ?_
  | with_reducible refine r_cons ?_
  | with_reducible refine r_nil ?_
  | with_reducible refine r_test ?_
  | with_reducible refine r_B ?_
  | with_reducible refine r_and ?_
  | with_reducible refine r_or ?_
  | with_reducible refine r_not ?_
  | with_reducible refine r_andV ?_
  | with_reducible refine r_orV ?_
  | with_reducible refine r_notV ?_
  | with_reducible refine r_if ?_
  | with_reducible refine r_tup ?_
  | with_reducible refine r_lst ?_
  | with_reducible refine r_c ?_
  | with_reducible refine r_lc ?_
  | with_reducible refine r_chain ?_
  | with_reducible refine r_iT ?_
  | with_reducible refine r_iL ?_
  | with_reducible refine r_iR1 ?_
  | with_reducible refine r_iR2 ?_
  | with_reducible refine r_iR3 ?_
  | with_reducible refine r_asgG ?_
  | with_reducible refine r_gSub ?_
  | with_reducible refine r_for ?_
  | with_reducible refine r_smeth ?_
  | with_reducible refine r_par ?_
  | with_reducible refine r_parK ?_
  | with_reducible refine r_gCons ?_
  | with_reducible refine r_gNil ?_
  | with_reducible refine r_gName ?_
  | with_reducible refine r_intI ?_
  | with_reducible refine r_intB ?_
  | with_reducible refine r_absI ?_
  | with_reducible refine r_k ?_
  | with_reducible refine r_kV ?_
  | ((with_reducible show tVar _ _ _ _); refine r_var3 ?_ (by rfl))
  | with_reducible refine r_I0 ?_
  | with_reducible refine r_U ?_
  | with_reducible refine r_eqI ?_
  | with_reducible refine r_neI ?_
  | with_reducible refine r_F ?_
  | dsimp only)))
theorem exm_one {K : PySem.W.Frag} {cls c : Value} {b : Bool} (h : PySem.W.exmOne K cls c = some b) : PySem.W.exmAny K cls [c] = some b := by
  unfold PySem.W.exmAny
  rw [h]
  cases b <;> rfl
/-! ### what is heard -/
def HeardE (K : PySem.W.Frag) (Q : VK) : XK := fun cls d H' => ∃ (z : Str) (dd : Addr), cls = .ref (He.ga K "BadNumber") ∧ d = some dd ∧ H' dd = some (.xd [(("part" : Str), .str z)]) ∧ ∀ H'', Ex H' H'' → Q (.str z) H''
def TTHeard (K : PySem.W.Frag) (tl : XK → Hp → VK → Prop) (H : Hp) (Q : VK) : Prop := ∀ Qn : VK, tl (HeardE K Q) H Qn
theorem gives__law_heard {X : Cx} {g : Addr} {cdg : Value} {q : Str} (T : Txt X.K X.mg) : GivesS X ["ask", "caught", "error"] "_law_heard" (defScope s__law_heard) g cdg (defBody s__law_heard) "ask" q (TTHeard X.K) := by
  intro f c' s H Q tl act hc h
  refine ⟨_, (pss_cons (ps_set (i := 1) sc__law_heard.nd rfl (Or.inl rfl) pe_non)
      (pss_cons (ps_try_keep (Wout := fun _ _ _ _ => False) (i := 2) rfl rfl rfl L2.takes0 (fun W pn xe tk po => (pss_one (ps_ask (fun E p1 p2 => act W pn xe E p1 p2) tk))) (.name ⟨rfl, by decide, Or.inl T.g_SignsError⟩) sc__law_heard.nd rfl rfl (fun a oe cls d pn hz hf => (pss_one (ps_set (i := 1) sc__law_heard.nd rfl (Or.inl rfl) (pv 2)))))
      (pss_cons (ps_if (pt_val (pe_callB (cr_isO rfl) (by rfl) T.b_isinstance (by decide +kernel) (pa_cons (pv 1) (pa_cons (pe_glob (v := .ref (He.ga X.K "BadNumber")) rfl T.g_BadNumber rfl) pa_nil)))) (pss_one (ps_ret (pe_xO rfl (pv 1)))) pss_nil)
      (pss_one (ps_ret (pe_ifExp (pt_cmpR op_isN (pv 1) pe_non (nomark _)) pe_non pe_str)))))), ?_⟩
  walk_at "rd"
  refine ⟨HeardE X.K Q, fun cls d H' hE => ?_, rfl, hc, ?_⟩
  · obtain ⟨z, dd, rfl, rfl, hd, k⟩ := hE
    refine ⟨true, exm_one (T.e_BadNumber.y _ (by simp)), fun _ a ha => ?_, fun z => by cases z⟩
    walk_at "rd"
    intro ha'
    have dne : dd ≠ a := by rintro rfl; rw [hd] at ha'; cases ha'
    have e1 : Ex H' (upd H' a (ErrO a (.ref (He.ga X.K "BadNumber")) (some dd))) := Ex.new ha'
    have h1 : (upd H' a (ErrO a (.ref (He.ga X.K "BadNumber")) (some dd))) a = some (ErrO a (.ref (He.ga X.K "BadNumber")) (some dd)) := upd_same
    generalize upd H' a (ErrO a (.ref (He.ga X.K "BadNumber")) (some dd)) = H1 at e1 h1 ⊢
    have hd1 := e1 _ _ hd
    walk_at "rd"
    refine ⟨a, _, _, _, _, dd, _, rfl, fun u r => r, h1, T.x_BadNumber, T.ki_BadNumber_BadNumber, hd1, _, rfl, ?_⟩
    refine ite_t rfl ?_
    exact ⟨_, rfl, a, _, dd, _, .str z, rfl, h1, T.e_BadNumber.xf, T.e_BadNumber.no_ "part" (by simp), hd1, rfl, k _ e1⟩
  · exact h _

end K00
namespace K00
open PySem PySem.Spec PyProof.Rows L2 GS TL LamX
local macro_rules | `(tactic| walk_at "rd") => `(tactic| (repeat (first
  | with_reducible refine r_next ?_
  | with_reducible refine r_seq ?_
  | with_reducible refine r_ret ?_
  | with_reducible refine r_ifS ?_
  | with_reducible refine r_asg ?_
  | with_reducible refine r_drop ?_
  | with_reducible refine r_op ?_
  | with_reducible refine r_un ?_
  | with_reducible refine r_cbInt ?_
  | with_reducible refine r_cbAbs ?_
  | with_reducible refine r_cbLen ?_
  | with_reducible refine r_cbList ?_
  | with_reducible refine r_cbTup ?_
  | with_reducible refine r_iEnT ?_
  | with_reducible refine r_iEnL ?_
  | with_reducible refine r_zipA ?_
  | with_reducible refine r_zipX ?_
  | with_reducible refine r_augS ?_
  | with_reducible refine r_cb ?_
  | with_reducible refine r_call ?_
  | with_reducible refine r_make ?_
  | with_reducible refine r_callN0 ?_
  | with_reducible refine r_makeK0 ?_
  | with_reducible refine r_makeS ?_
  | with_reducible refine r_callS ?_
  | with_reducible refine r_cons ?_
  | with_reducible refine r_nil ?_
  | with_reducible refine r_test ?_
  | with_reducible refine r_B ?_
  | with_reducible refine r_and ?_
  | with_reducible refine r_or ?_
  | with_reducible refine r_not ?_
  | with_reducible refine r_andV ?_
  | with_reducible refine r_orV ?_
  | with_reducible refine r_notV ?_
  | with_reducible refine r_if ?_
  | with_reducible refine r_tup ?_
  | with_reducible refine r_lst ?_
  | with_reducible refine r_c ?_
  | with_reducible refine r_lc ?_
  | with_reducible refine r_chain ?_
  | with_reducible refine r_iT ?_
  | with_reducible refine r_iL ?_
  | with_reducible refine r_iR1 ?_
  | with_reducible refine r_iR2 ?_
  | with_reducible refine r_iR3 ?_
  | with_reducible refine r_asgG ?_
  | with_reducible refine r_gSub ?_
  | with_reducible refine r_for ?_
  | with_reducible refine r_smeth ?_
  | with_reducible refine r_par ?_
  | with_reducible refine r_parK ?_
  | with_reducible refine r_gCons ?_
  | with_reducible refine r_gNil ?_
  | with_reducible refine r_gName ?_
  | with_reducible refine r_intI ?_
  | with_reducible refine r_intB ?_
  | with_reducible refine r_absI ?_
  | with_reducible refine r_k ?_
  | with_reducible refine r_kV ?_
  | ((with_reducible show tVar _ _ _ _); refine r_var3 ?_ (by rfl))
  | with_reducible refine r_I0 ?_
  | with_reducible refine r_U ?_
  | with_reducible refine r_eqI ?_
  | with_reducible refine r_neI ?_
  | with_reducible refine r_F ?_
  | dsimp only)))
local macro_rules | `(tactic| walk_at "rx") => `(tactic| (repeat (first
  | with_reducible refine r_next ?_
  | with_reducible refine r_ret ?_
  | with_reducible refine r_ifS ?_
  | with_reducible refine r_asg ?_
  | with_reducible refine r_drop ?_
  | with_reducible refine r_op ?_
  | with_reducible refine r_un ?_
  | with_reducible refine r_cbInt ?_
  | with_reducible refine r_cbAbs ?_
  | with_reducible refine r_cbLen ?_
  | with_reducible refine r_cbList ?_
  | with_reducible refine r_cbTup ?_
  | with_reducible refine r_iEnT ?_
  | with_reducible refine r_iEnL ?_
  | with_reducible refine r_zipA ?_
  | with_reducible refine r_zipX ?_
  | with_reducible refine r_augS ?_
  | with_reducible refine r_cb ?_
  | with_reducible refine r_call ?_
  | with_reducible refine r_make ?_
  | with_reducible refine r_callN0 ?_
  | with_reducible refine r_makeK0 ?_
  | with_reducible refine r_makeS ?_
  | with_reducible refine r_callS ?_
  | with_reducible refine r_cons ?_
  | with_reducible refine r_nil ?_
  | with_reducible refine r_test ?_
  | with_reducible refine r_B ?_
  | with_reducible refine r_and ?_
  | with_reducible refine r_or ?_
  | with_reducible refine r_not ?_
  | with_reducible refine r_andV ?_
  | with_reducible refine r_orV ?_
  | with_reducible refine r_notV ?_
  | with_reducible refine r_if ?_
  | with_reducible refine r_tup ?_
  | with_reducible refine r_lst ?_
  | with_reducible refine r_c ?_
  | with_reducible refine r_lc ?_
  | with_reducible refine r_chain ?_
  | with_reducible refine r_iT ?_
  | with_reducible refine r_iL ?_
  | with_reducible refine r_iR1 ?_
  | with_reducible refine r_iR2 ?_
  | with_reducible refine r_iR3 ?_
  | with_reducible refine r_asgG ?_
  | with_reducible refine r_gSub ?_
  | with_reducible refine r_for ?_
  | with_reducible refine r_smeth ?_
  | with_reducible refine r_par ?_
  | with_reducible refine r_parK ?_
  | with_reducible refine r_gCons ?_
  | with_reducible refine r_gNil ?_
  | with_reducible refine r_gName ?_
  | with_reducible refine r_intI ?_
  | with_reducible refine r_intB ?_
  | with_reducible refine r_absI ?_
  | with_reducible refine r_k ?_
  | with_reducible refine r_kV ?_
  | ((with_reducible show tVar _ _ _ _); refine r_var3 ?_ (by rfl))
  | with_reducible refine r_I0 ?_
  | with_reducible refine r_U ?_
  | with_reducible refine r_eqI ?_
  | with_reducible refine r_neI ?_
  | with_reducible refine r_F ?_
  | dsimp only)))
/-! ### texts of data -/
structure Sw (n k : Nat) (d : PyData) : Prop where
  sh : d.showable = true
  nd : d.hasDict = false
  ln : d.shown.length ≤ n
  dp : d.depth ≤ k
theorem sw_all {n k : Nat} : ∀ {ds : List PyData}, (∀ d ∈ ds, Sw n k d) → PyData.showableAll ds = true ∧ PyData.hasDictAll ds = false ∧ ((PyData.shownAll ds).map fun x => x.length).sum ≤ ds.length * n ∧ (PyData.shownAll ds).length = ds.length ∧ PyData.depthAll ds ≤ k
  | [], _ => ⟨by simp only [PyData.showableAll], by simp only [PyData.hasDictAll], by simp [PyData.shownAll], by simp [PyData.shownAll], Nat.zero_le _⟩
  | d :: ds, h => by
    obtain ⟨h1, h2, h3, h4, h5⟩ := sw_all fun e m => h e (List.mem_cons_of_mem _ m)
    have q := h d List.mem_cons_self
    refine ⟨by simp only [PyData.showableAll, q.sh, h1, Bool.and_self], by simp only [PyData.hasDictAll, q.nd, h2, Bool.or_self], ?_, by simp only [PyData.shownAll, List.length_cons, h4], ?_⟩
    · have := q.ln
      simp only [PyData.shownAll, List.map_cons, List.sum_cons, List.length_cons, Nat.succ_mul]
      omega
    · show max d.depth (PyData.depthAll ds) ≤ k
      have := q.dp
      omega
theorem Sw.list {n k : Nat} {ds : List PyData} (h : ∀ d ∈ ds, Sw n k d) : Sw (ds.length * n + 2 * ds.length + 3) (k + 1) (.list ds) := by
  obtain ⟨h1, h2, h3, h4, h5⟩ := sw_all h
  refine ⟨by simp only [PyData.showable]; exact h1, by simp only [PyData.hasDict]; exact h2, ?_, ?_⟩
  · simp only [PyData.shown]
    have := listText_len_le (PyData.shownAll ds)
    rw [h4] at this
    omega
  · show PyData.depthAll ds + 1 ≤ k + 1
    omega
theorem Sw.tup {n k : Nat} {ds : List PyData} (h : ∀ d ∈ ds, Sw n k d) : Sw (ds.length * n + 2 * ds.length + 3) (k + 1) (.tuple ds) := by
  obtain ⟨h1, h2, h3, h4, h5⟩ := sw_all h
  refine ⟨by simp only [PyData.showable]; exact h1, by simp only [PyData.hasDict]; exact h2, ?_, ?_⟩
  · simp only [PyData.shown]
    have := tupleText_len_le (PyData.shownAll ds)
    rw [h4] at this
    omega
  · show PyData.depthAll ds + 1 ≤ k + 1
    omega
theorem Sw.mono {n m k j : Nat} {d : PyData} (h : Sw n k d) (a : n ≤ m) (b : k ≤ j) : Sw m j d := ⟨h.sh, h.nd, Nat.le_trans h.ln a, Nat.le_trans h.dp b⟩
/-- repr of data -/
theorem r_show {K : PySem.W.Frag} {H : Hp} {Q : VK} {a : Addr} {d : PyData} (hd : Dat K H (.ref a) d) (s : Sw 100000 50 d) (q : Q (.str d.shown) H) : rShow K [.ref a] H Q := ⟨a, d, rfl, hd, s.sh, s.nd, sz_le s.ln, Nat.le_trans s.dp (show 50 ≤ 60 by decide), q⟩
theorem Sw.bl (b : Bool) : Sw 61 1 (.bool b) := by
  cases b
  · exact ⟨by decide +kernel, by decide +kernel, by decide +kernel, by decide +kernel⟩
  · exact ⟨by decide +kernel, by decide +kernel, by decide +kernel, by decide +kernel⟩
theorem sw_bls {bs : List Bool} (h : bs.length ≤ 20) : Sw 100000 50 (.list (bs.map PyData.bool)) := by
  refine (Sw.list (n := 61) (k := 1) fun d hd => ?_).mono (by rw [List.length_map]; omega) (by decide)
  obtain ⟨b, _, rfl⟩ := List.mem_map.mp hd
  exact Sw.bl b
theorem r_showB {K : PySem.W.Frag} {H : Hp} {Q : VK} {a : Addr} {bs : List Bool} (h : H a = some (.lst (bs.map V.bl))) (hl : bs.length ≤ 20) (q : Q (.str (PyData.list (bs.map PyData.bool)).shown) H) : rShow K [.ref a] H Q := r_show (.lst (SqL.of h) (Dats.bools bs)) (sw_bls hl) q
def unB : V → Bool
  | .bl b => b
  | _ => false
theorem r_showX {K : PySem.W.Frag} {H : Hp} {Q : VK} {a : Addr} {xs : List V} (h : H a = some (.lst xs)) (e : xs = (xs.map unB).map V.bl) (hl : xs.length ≤ 20) (q : Q (.str (PyData.list ((xs.map unB).map PyData.bool)).shown) H) : rShow K [.ref a] H Q := r_showB (bs := xs.map unB) (e ▸ h) (by rw [List.length_map]; exact hl) q
theorem r_neS' {H : Hp} {Q : VK} {a b : Str} (e : a = b) (q : Q (.bl false) H) : rNe (.str a) (.str b) H Q := ⟨rfl, by subst e; simpa using q⟩
theorem pow1030 : (10 : Int) ^ (30 : Int).toNat = 1000000000000000000000000000000 := rfl
theorem r_slI {K : PySem.W.Frag} {H : Hp} {Q : VK} {L : Addr} {xs zs : List V} {lo hi : Option Int} (h : H L = some (.lst xs)) (e : cutV xs lo hi = zs) (q : ∀ p H', H p = none → Ex H H' → H' p = some (.lst zs) → Q (.ref p) H') : rSlL K (.ref L) lo hi H Q :=
  ⟨L, xs, rfl, SqL.of h, fun p hp => q p _ hp (Ex.new hp) (by rw [upd_same, e])⟩
theorem cut_DI (ys : List Int) (k : Nat) (h : k ≤ ys.length) : cutV (ys.map V.int) (some (k : Int)) none = (ys.drop k).map V.int := by
  unfold cutV
  rw [HT.sIx_none, HT.sIx_nat, List.length_map, Nat.min_eq_left h, List.take_of_length_le (by simp), List.map_drop]
def OddV (K : PySem.W.Frag) (H : Hp) (v : V) : Prop := ∃ T ∈ tys, T ≠ "int" ∧ TyOf K H v (.type T)
theorem OddV.ex {K : PySem.W.Frag} {H H' : Hp} {v : V} (h : OddV K H v) (e : Ex H H') : OddV K H' v := let ⟨T, h1, h2, h3⟩ := h; ⟨T, h1, h2, TyOf.ex' h3 fun a _ o q => e a o q⟩
theorem OddV.kn {K : PySem.W.Frag} {H : Hp} {v : V} (h : OddV K H v) : Kn K H v := let ⟨T, h1, _, h3⟩ := h; .inl ⟨T, h1, h3⟩
theorem OddV.no {K : PySem.W.Frag} {H : Hp} {v : V} (h : OddV K H v) : isI v = false := by
  obtain ⟨T, h1, h2, h3⟩ := h
  cases q : isI v with
  | false => rfl
  | true => exact absurd ((ty_int (TyX.base h3)).mpr q) h2
theorem inB_no {v : V} {l m : Option Int} (h : isI v = false) : inB v l m = false := by
  cases v <;> first | rfl | cases h
def spIntegers (K : PySem.W.Frag) : Sp := sp1 fun b H Q _ => ∃ (p : Addr) (n : Int), b = .ref p ∧ n ≤ 80000 ∧ Bag H p n ∧ ∀ H', Bg p H H' → Bag H' p (n + 20) → Q (.bl true) H'
theorem ok__law_integers_right {P : Program} {w : World} {K : PySem.W.Frag} {mg : Str → Option Value} {base : Heap} (T : Txt K mg) : ∃ fd, FnG P w K mg base (L2.CX P w) 3 (He.ga K "_law_integers_right") fd ["ark"] (spIntegers K) ∧ Binds K fd ["ark"] [] := by
  obtain ⟨fd, F⟩ := T.d__law_integers_right
  obtain ⟨fd_are_integers, F_are_integers, B_are_integers, kb_are_integers_0⟩ := ok_are_integers (P := P) (w := w) (base := base) T
  obtain ⟨fd__law_haul, F__law_haul, B__law_haul⟩ := ok__law_haul (P := P) (w := w) (base := base) T
  obtain ⟨fd_is_within, F_is_within, B_is_within, kb_is_within_0⟩ := ok_is_within (P := P) (w := w) (base := base) T
  obtain ⟨fd_is_integer, F_is_integer, B_is_integer, kb_is_integer_0⟩ := ok_is_integer (P := P) (w := w) (base := base) T
  obtain ⟨fd__law_fish, F__law_fish, B__law_fish⟩ := ok__law_fish (P := P) (w := w) (base := base) T
  refine ⟨fd, okG F sc__law_integers_right sp1_len (fun cdv A outer s H vs Q E quiet hr h => ?_), F.bindsN fun _ _ _ _ _ _ us hl => match us, hl with | [_], _ => rfl⟩
  have hr_are_integers : Room 2 _ := hr.mono (by decide)
  have hr__law_haul : Room 1 _ := hr.mono (by decide)
  have hr_is_within : Room 2 _ := hr.mono (by decide)
  have hr_is_integer : Room 1 _ := hr.mono (by decide)
  have hr__law_fish : Room 2 _ := hr.mono (by decide)
  obtain ⟨b0, rfl, p, n, rfl, hn, hb, k⟩ := sp1_is h
  refine ⟨_, (pss_cons (ps_set (i := 1) sc__law_integers_right.nd rfl (Or.inl rfl) (pe_call F__law_fish hr__law_fish (by rfl) T.g__law_fish T.k__law_fish B__law_fish .nil passL (pa_cons (pv 0) (pa_cons (pe_lst (pa_cons pe_int (pa_cons pe_int (pa_cons (pe_un un_neg pe_int) (pa_cons (pe_op op_powW pe_int pe_int) (pa_cons (pe_un un_neg (pe_op op_powW pe_int pe_int)) (pa_cons (pe_op op_sub (pe_call F__law_haul hr__law_haul (by rfl) T.g__law_haul T.k__law_haul B__law_haul .nil passL (pa_cons (pv 0) (pa_cons pe_int pa_nil))) pe_int) pa_nil))))))) pa_nil))))
      (pss_cons (ps_set (i := 2) sc__law_integers_right.nd rfl (Or.inl rfl) (pe_call F__law_fish hr__law_fish (by rfl) T.g__law_fish T.k__law_fish B__law_fish .nil passL (pa_cons (pv 0) (pa_cons (pe_lst (pa_cons pe_non (pa_cons pe_bl (pa_cons pe_bl (pa_cons pe_str (pa_cons pe_str (pa_cons (pe_lst (pa_cons pe_int pa_nil)) (pa_cons (pe_tup (pa_cons pe_int pa_nil)) (pa_cons pe_dnewK (pa_cons (pe_lst (pa_cons (pv 1) pa_nil)) (pa_cons pe_str pa_nil))))))))))) pa_nil))))
      (pss_cons (ps_par (i := 3) (j := 4) (by rfl) sc__law_integers_right.nd rfl rfl (by decide) rfl rfl (pa_cons (pe_op op_sub (pe_call F__law_haul hr__law_haul (by rfl) T.g__law_haul T.k__law_haul B__law_haul .nil passL (pa_cons (pv 0) (pa_cons pe_int pa_nil))) pe_int) (pa_cons (pe_op op_sub (pe_call F__law_haul hr__law_haul (by rfl) T.g__law_haul T.k__law_haul B__law_haul .nil passL (pa_cons (pv 0) (pa_cons pe_int pa_nil))) pe_int) pa_nil)) (by rfl))
      (pss_cons (ps_set (i := 5) sc__law_integers_right.nd rfl (Or.inl rfl) (pe_lst (pa_cons (pe_call F_is_integer hr_is_integer (by rfl) T.g_is_integer T.k_is_integer B_is_integer .nil passL (pa_cons (pv 1) pa_nil)) (pa_cons (pe_callK0 F_is_integer hr_is_integer (by rfl) T.g_is_integer T.k_is_integer kb_is_integer_0 passL (pk_cons (pv 2) pk_nil)) (pa_cons (pe_call F_is_within hr_is_within (by rfl) T.g_is_within T.k_is_within B_is_within .nil passL (pa_cons (pv 2) (pa_cons pe_non (pa_cons pe_non pa_nil)))) (pa_cons (pe_call F_is_within hr_is_within (by rfl) T.g_is_within T.k_is_within B_is_within .nil passL (pa_cons (pv 1) (pa_cons (pe_op op_add (pv 1) (pv 3)) (pa_cons (pe_op op_add (pv 1) (pv 4)) pa_nil)))) pa_nil))))))
      (pss_cons (ps_set (i := 5) sc__law_integers_right.nd rfl (Or.inl rfl) (pe_op op_cat (pv 5) (pe_lst (pa_cons (pe_callK0 F_is_within hr_is_within (by rfl) T.g_is_within T.k_is_within kb_is_within_0 passL (pk_cons (pv 1) (pk_cons pe_non (pk_cons (pe_op op_add (pv 1) (pv 4)) pk_nil)))) (pa_cons (pe_call F_is_within hr_is_within (by rfl) T.g_is_within T.k_is_within B_is_within .nil passL (pa_cons (pv 1) (pa_cons (pe_op op_add (pv 1) (pv 3)) (pa_cons pe_non pa_nil)))) (pa_cons (pe_call F_is_within hr_is_within (by rfl) T.g_is_within T.k_is_within B_is_within .nil passL (pa_cons (pv 1) (pa_cons pe_non (pa_cons pe_non pa_nil)))) pa_nil))))))
      (pss_cons (ps_if (pt_cmpR op_ne (pe_callB (cr_show quiet hr.units) (by rfl) T.b_repr (by decide +kernel) (pa_cons (pv 5) pa_nil)) (pe_callB (cr_show quiet hr.units) (by rfl) T.b_repr (by decide +kernel) (pa_cons (pe_lst (pa_cons pe_bl (pa_cons pe_bl (pa_cons pe_bl (pa_cons (pe_chain op_le op_le (pv 3) pe_int (pv 4)) (pa_cons (pe_cmpR op_le pe_int (pv 4) (nomark _)) (pa_cons (pe_cmpR op_le (pv 3) pe_int (nomark _)) (pa_cons pe_bl pa_nil)))))))) pa_nil)) (nomark _)) (pss_one (ps_ret pe_bl)) pss_nil)
      (pss_cons (ps_setLc (i := 6) (own := [("turn", 7)]) (g := gName 7) (tt := tYes)  rfl sc__law_integers_right.nd rfl rfl (sw_true rfl rfl rfl (by decide +kernel)) (pi_range1 (by rfl) T.b_range (pa_cons (pe_call F__law_haul hr__law_haul (by rfl) T.g__law_haul T.k__law_haul B__law_haul .nil passL (pa_cons (pv 0) (pa_cons pe_int pa_nil))) pa_nil)) (blkOk_by (own := [("turn", 7)]) (N := ["ark", "number", "odd", "low", "high", "told", "row", "turn", "at"]) (sc := defScope s__law_integers_right) (by decide +kernel)) (fun _ _ _ _ _ => (pg_name (i := 7) sc__law_integers_right.nd rfl (Or.inl rfl))) (fun _ _ _ _ _ => pts_nil) (fun _ _ _ _ _ => (pe_op op_sub (pe_call F__law_haul hr__law_haul (by rfl) T.g__law_haul T.k__law_haul B__law_haul .nil passL (pa_cons (pv 0) (pa_cons pe_int pa_nil))) pe_int)))
      (pss_cons (ps_set (i := 8) sc__law_integers_right.nd rfl (Or.inl rfl) (pe_call F__law_haul hr__law_haul (by rfl) T.g__law_haul T.k__law_haul B__law_haul .nil passL (pa_cons (pv 0) (pa_cons (pe_op op_add (pe_callB (kx_lens rfl) (by rfl) T.b_len PySem.boot_len (pa_cons (pv 6) pa_nil)) pe_int) pa_nil))))
      (pss_cons (ps_set (i := 5) sc__law_integers_right.nd rfl (Or.inl rfl) (pe_lst (pa_cons (pe_call F_are_integers hr_are_integers (by rfl) T.g_are_integers T.k_are_integers B_are_integers .nil passL (pa_cons (pv 6) pa_nil)) (pa_cons (pe_callK0 F_are_integers hr_are_integers (by rfl) T.g_are_integers T.k_are_integers kb_are_integers_0 passL (pk_cons (pe_callTy (kx_tupOf (K := K) rfl) (by rfl) T.b_tuple (by decide +kernel) (pa_cons (pv 6) pa_nil)) pk_nil)) (pa_cons (pe_call F_are_integers hr_are_integers (by rfl) T.g_are_integers T.k_are_integers B_are_integers .nil passL (pa_cons (pe_op op_cat (pe_op op_cat (pe_slice sl_list (pv 6) po_none (po_some (pv 8))) (pe_lst (pa_cons (pv 2) pa_nil))) (pe_slice sl_list (pv 6) (po_some (pv 8)) po_none)) pa_nil)) (pa_cons (pe_call F_are_integers hr_are_integers (by rfl) T.g_are_integers T.k_are_integers B_are_integers .nil passL (pa_cons (pe_disp (pps_cons pe_int pe_int pps_nil) (by rfl) (by rfl) (fun z => by cases z) (by decide)) pa_nil)) (pa_cons (pe_call F_are_integers hr_are_integers (by rfl) T.g_are_integers T.k_are_integers B_are_integers .nil passL (pa_cons pe_str pa_nil)) pa_nil)))))))
      (pss_one (ps_ret (pe_cmpR op_eq (pe_callB (cr_show quiet hr.units) (by rfl) T.b_repr (by decide +kernel) (pa_cons (pv 5) pa_nil)) (pe_callB (cr_show quiet hr.units) (by rfl) T.b_repr (by decide +kernel) (pa_cons (pe_lst (pa_cons pe_bl (pa_cons pe_bl (pa_cons pe_bl (pa_cons pe_bl (pa_cons pe_bl pa_nil)))))) pa_nil)) (nomark _))))))))))))), ?_⟩
  walk_at "rd"
  refine r_pow (p10 30 (by decide)) pow1030 ?_
  walk_at "rd"
  refine r_pow (p10 30 (by decide)) pow1030 ?_
  walk_at "rd"
  refine r_DrawG hb (by omega) (by decide) (zsm (by decide)) fun r H1 r0 r1 g1 b1 => ?_
  walk_at "rd"
  refine r_newL (sz_le (by simp)) fun q2 H2 _ e2 h2 => ?_
  walk_at "rd"
  refine r_One (H0 := H2) (b1.ex e2) h2 (fun _ _ _ z => by cases z) (by simp) (by simp) (by omega) fun v H3 hv g3 b3 => ?_
  obtain ⟨m, rfl⟩ : ∃ m : Int, v = .int m := by
    simp only [List.mem_cons, List.mem_nil_iff, or_false] at hv
    rcases hv with rfl | rfl | rfl | rfl | rfl | rfl <;> exact ⟨_, rfl⟩
  walk_at "rd"
  refine r_newL (sz_le (by simp)) fun q4 H4 _ e4 h4 => ?_
  walk_at "rd"
  refine r_newT (sz_le (by simp)) fun q5 H5 _ e5 h5 => ?_
  walk_at "rd"
  refine r_dnewK fun q6 H6 _ e6 h6 => ?_
  walk_at "rd"
  refine r_newL (sz_le (by simp)) fun q7 H7 _ e7 h7 => ?_
  walk_at "rd"
  refine r_newL (sz_le (by simp)) fun q8 H8 _ e8 h8 => ?_
  have up : Ex H3 H8 := (((e4.trans e5).trans e6).trans e7).trans e8
  have b8 := b3.ex up
  refine r_One (H0 := H8) b8 h8 (fun _ _ _ z => by cases z) (by simp) (by simp) (by omega) fun v H9 hv g9 b9 => ?_
  have f4 : H8 q4 = _ := e8 _ _ (e7 _ _ (e6 _ _ (e5 _ _ h4)))
  have f5 : H8 q5 = _ := e8 _ _ (e7 _ _ (e6 _ _ h5))
  have f6 : H8 q6 = _ := e8 _ _ (e7 _ _ h6)
  have f7 : H8 q7 = _ := e8 _ _ h7
  have od : ∀ H', Bg p H9 H' → OddV K H' v := by
    intro H' g'
    have g := g9.trans g'
    simp only [List.mem_cons, List.mem_nil_iff, or_false] at hv
    rcases hv with rfl | rfl | rfl | rfl | rfl | rfl | rfl | rfl | rfl | rfl
    · exact ⟨"NoneType", by decide, by decide, .non⟩
    · exact ⟨"bool", by decide, by decide, .bl _⟩
    · exact ⟨"bool", by decide, by decide, .bl _⟩
    · exact ⟨"str", by decide, by decide, .str _⟩
    · exact ⟨"str", by decide, by decide, .str _⟩
    · exact ⟨"list", by decide, by decide, .lst (g.at_ (b8.ne f4 fun _ _ _ z => by cases z) f4)⟩
    · exact ⟨"tuple", by decide, by decide, .tup (g.at_ (b8.ne f5 fun _ _ _ z => by cases z) f5)⟩
    · exact ⟨"dict", by decide, by decide, .dK (g.at_ (b8.ne f6 fun _ _ _ z => by cases z) f6)⟩
    · exact ⟨"list", by decide, by decide, .lst (g.at_ (b8.ne f7 fun _ _ _ z => by cases z) f7)⟩
    · exact ⟨"str", by decide, by decide, .str _⟩
  have gA : Bg p H H9 := (((g1.trans (Bg.of e2)).trans g3).trans (Bg.of up)).trans g9
  clear hv
  walk_at "rd"
  refine r_DrawG b9 (by omega) (by decide) (zsm (by decide)) fun lo H10 l0 l1 g10 b10 => ?_
  walk_at "rd"
  refine r_DrawG b10 (by omega) (by decide) (zsm (by decide)) fun hi H11 i0 i1 g11 b11 => ?_
  have od1 := od _ (g10.trans g11)
  walk_at "rd"
  refine ⟨kn_int m, ?_⟩
  walk_at "rd"
  refine ⟨rfl, rfl, od1.kn, ?_⟩
  walk_at "rd"
  refine ⟨od1.kn, none, none, rfl, rfl, ?_⟩
  walk_at "rd"
  refine ⟨kn_int m, some _, some _, rfl, rfl, ?_⟩
  walk_at "rd"
  refine r_newL (sz_le (by simp)) fun q12 H12 _ e12 h12 => ?_
  walk_at "rd"
  refine ⟨rfl, rfl, kn_int m, none, some _, rfl, rfl, ?_⟩
  walk_at "rd"
  refine ⟨kn_int m, some _, none, rfl, rfl, ?_⟩
  walk_at "rd"
  refine ⟨kn_int m, none, none, rfl, rfl, ?_⟩
  walk_at "rd"
  refine r_newL (sz_le (by simp)) fun q13 H13 _ e13 h13 => ?_
  refine r_cat (e13 _ _ h12) h13 (by simp) fun q14 H14 _ e14 h14 => ?_
  walk_at "rd"
  have t1 : decide (m + (lo - 2) ≤ m) = decide (lo - 2 ≤ 0) := by congr 1; apply propext; omega
  have t2 : decide (m ≤ m + (hi - 2)) = decide (0 ≤ hi - 2) := by congr 1; apply propext; omega
  have t3 := od1.no
  have t4 : inB v none none = false := inB_no t3
  have u1 : isI (.int m) = true := rfl
  have u2 : inB (.int m) (some (m + (lo - 2))) (some (m + (hi - 2))) = (decide (lo - 2 ≤ 0) && decide (0 ≤ hi - 2)) := by
    show (decide (m + (lo - 2) ≤ m) && decide (m ≤ m + (hi - 2))) = _
    rw [t1, t2]
  have u3 : inB (.int m) none (some (m + (hi - 2))) = decide (0 ≤ hi - 2) := by
    show (true && decide (m ≤ m + (hi - 2))) = _
    rw [t2, Bool.true_and]
  have u4 : inB (.int m) (some (m + (lo - 2))) none = decide (lo - 2 ≤ 0) := by
    show (decide (m + (lo - 2) ≤ m) && true) = _
    rw [t1, Bool.and_true]
  have u5 : inB (.int m) none none = true := rfl
  refine r_showX h14 rfl (by simp) ?_
  walk_at "rd"
  refine ite_b (fun c => ?_) fun c => ?_
  all_goals
    walk_at "rd"
    refine r_newL (sz_le (by simp)) fun q15 H15 _ e15 h15 => ?_
    walk_at "rd"
    refine r_showX h15 rfl (by simp) ?_
    refine r_neS' (by simp only [List.cons_append, List.nil_append, List.map_cons, List.map_nil, unB, u1, u2, u3, u4, u5, t3, t4, c, Bool.true_and, Bool.false_and]) ?_
    walk_at "rd"
    refine ite_f rfl ?_
    walk_at "rd"
    have e15' := e12.trans (e13.trans (e14.trans e15))
    have b15 := b11.ex e15'
    have g15 := ((gA.trans g10).trans g11).trans (Bg.of e15')
    have od2 := od _ ((g10.trans g11).trans (Bg.of e15'))
    refine r_DrawG b15 (by omega) (by decide) (zsm (by decide)) fun m2 H16 m0 m1 g16 b16 => ?_
    walk_at "rd"
    have em : m2 = (m2.toNat : Int) := by omega
    rw [em]
    generalize hm2 : m2.toNat = w at *
    have hw : w ≤ 4 := by omega
    refine ⟨w, rfl, by omega, by omega, ?_⟩
    rw [Int.toNat_natCast]
    refine r_lcG (n := w) (walk_range (lo := 0) (n := w)) (fun D i ys H' => ∃ zs : List Int, ys = zs.map V.int ∧ Bg p H16 H' ∧ Bag H' p (n + 6 + (i : Nat))) (by omega) (fun _ _ _ _ _ => trivial) (fun D hD => ⟨[], rfl, (Bg.refl p H16).updD b16 hD, (b16.le (by omega)).updD b16 (Bg.refl p H16) hD⟩) ?_ ?_ ?_
    · rintro D j ys H' o hD ⟨zs, e, g, hb'⟩
      exact ⟨zs, e, g.updD b16 hD, hb'.updD b16 g hD⟩
    · rintro D j x ys G8 H' hj hD hl' li ⟨zs, rfl, g, hb'⟩ ⟨rfl, rfl⟩ N hN
      refine r_gName ⟨rfl, ?_⟩
      walk_at "rd"
      have nD : D ≠ p := by rintro rfl; obtain ⟨L, xs, a, l, h1, _⟩ := b16.is; rw [hD] at h1; cases h1
      refine r_DrawG hb' (by omega) (by decide) (zsm (by decide)) fun c H9' c0 c1 g9' b9' => ?_
      walk_at "rd"
      exact hN _ H9' (g9'.at_ nD hl') ⟨zs ++ [c - 4], by simp, g.trans g9', b9'.le (by push_cast; omega)⟩
    · rintro D ys H17 hD hl' li ⟨zs, rfl, g17, b17⟩
      have lz : zs.length = w := by simpa using li
      have nD : D ≠ p := by rintro rfl; obtain ⟨L, xs, a, l, h1, _⟩ := b16.is; rw [hD] at h1; cases h1
      walk_at "rd"
      refine r_lenL hl' ?_
      rw [List.length_map]
      walk_at "rd"
      refine r_DrawG b17 (by omega) (by omega) (zsm (by omega)) fun at' H18 a0 a1 g18 b18 => ?_
      have hD18 := g18.at_ nD hl'
      have od3 := od _ (((((g10.trans g11).trans (Bg.of e15')).trans g16).trans g17).trans g18)
      have ea : at' = (at'.toNat : Int) := by omega
      rw [ea]
      generalize ha' : at'.toNat = j at *
      walk_at "rd"
      refine .inl ⟨_, ⟨D, rfl, .inl hD18⟩, by rw [List.length_map]; omega, ints_kn, fun H19 e19 => ?_⟩
      rw [ints_all]
      walk_at "rd"
      refine r_tupL (SqL.of (e19 _ _ hD18)) fun l7 H20 _ e20 h20 => ?_
      walk_at "rd"
      refine ⟨rfl, rfl, .inl ⟨_, ⟨l7, rfl, .inr h20⟩, by rw [List.length_map]; omega, ints_kn, fun H21 e21 => ?_⟩⟩
      rw [ints_all]
      walk_at "rd"
      have hD21 := e21 _ _ (e20 _ _ (e19 _ _ hD18))
      refine ⟨.ref D, rfl, .int j, rfl, j, rfl, ?_⟩
      refine r_slI hD21 (cut_map zs j) fun q22 H22 _ e22 h22 => ?_
      walk_at "rd"
      refine r_newL (sz_le (by simp)) fun q23 H23 _ e23 h23 => ?_
      walk_at "rd"
      refine r_cat (e23 _ _ h22) h23 (by simp; omega) fun q24 H24 _ e24 h24 => ?_
      walk_at "rd"
      refine ⟨.ref D, rfl, .int j, rfl, j, rfl, ?_⟩
      refine ⟨D, _, rfl, SqL.of (e24 _ _ (e23 _ _ (e22 _ _ hD21))), fun q25 n25 => ?_⟩
      rw [cut_DI zs j (by omega)]
      have e25 : Ex H24 (upd H24 q25 (.lst ((zs.drop j).map V.int))) := Ex.new n25
      have h25 : (upd H24 q25 (.lst ((zs.drop j).map V.int))) q25 = some (.lst ((zs.drop j).map V.int)) := upd_same
      generalize upd H24 q25 (.lst ((zs.drop j).map V.int)) = H25 at e25 h25 ⊢
      refine r_cat (e25 _ _ h24) h25 (by simp; omega) fun q26 H26 _ e26 h26 => ?_
      have up8 : Ex H18 H26 := e19.trans (e20.trans (e21.trans (e22.trans (e23.trans (e24.trans (e25.trans e26))))))
      have od4 := od3.ex up8
      walk_at "rd"
      have bad : ∀ (A B : List Int), ((A.map V.int ++ [v]) ++ B.map V.int).all isI = false := fun A B => by
        rw [List.all_append, List.all_append]
        simp [t3]
      refine .inl ⟨_, ⟨q26, rfl, .inl h26⟩, by simp; omega, fun x hx => ?_, fun H27 e27 => ?_⟩
      · rcases List.mem_append.mp hx with hx | hx
        · rcases List.mem_append.mp hx with hx | hx
          · exact ints_kn x hx
          · rw [List.mem_singleton.mp hx]
            exact od4.kn
        · exact ints_kn x hx
      rw [bad]
      walk_at "rd"
      refine fun B4 nB4 => ?_
      simp only [tPairs]
      walk_at "rd"
      refine ⟨upd_same, [(.inl 0, .int 1)], rfl, by simp, ?_⟩
      have e28 : Ex H27 (upd (upd H27 B4 (.dK [])) B4 (.dK (mergeK [] [(.inl 0, .int 1)]))) := fun a o h => by
        have : a ≠ B4 := ne_of_none h nB4
        rw [upd_ne this, upd_ne this]
        exact h
      have h28 : (upd (upd H27 B4 (.dK [])) B4 (.dK (mergeK [] [(.inl 0, .int 1)]))) B4 = some (.dK (mergeK [] [(.inl 0, .int 1)])) := upd_same
      generalize (upd (upd H27 B4 (.dK [])) B4 (.dK (mergeK [] [(.inl 0, .int 1)]))) = H28 at e28 h28 ⊢
      walk_at "rd"
      refine .inr ⟨.inl ⟨"dict", by decide, .dK h28, rfl⟩, fun H29 e29 => ?_⟩
      walk_at "rd"
      refine .inr ⟨.inl ⟨"str", by decide, .str _, rfl⟩, fun H30 e30 => ?_⟩
      walk_at "rd"
      refine r_newL (sz_le (by simp)) fun q31 H31 _ e31 h31 => ?_
      walk_at "rd"
      refine r_showX h31 rfl (by simp) ?_
      walk_at "rd"
      refine r_newL (sz_le (by simp)) fun q32 H32 _ e32 h32 => ?_
      walk_at "rd"
      refine r_showX h32 rfl (by simp) ?_
      refine ⟨rfl, ?_⟩
      rw [decide_eq_true rfl]
      have ex : Ex H18 H32 := up8.trans (e27.trans (e28.trans (e29.trans (e30.trans (e31.trans e32)))))
      exact k _ ((((g15.trans g16).trans g17).trans g18).trans (Bg.of ex)) ((b18.ex ex).le (by push_cast; omega))

end K00
namespace K00
open PySem PySem.Spec PyProof.Rows L2 GS TL LamX
local macro_rules | `(tactic| walk_at "rd") => `(tactic| (repeat (first
  | with_reducible refine r_next ?_
  | with_reducible refine r_seq ?_
  | with_reducible refine r_ret ?_
  | with_reducible refine r_ifS ?_
  | with_reducible refine r_asg ?_
  | with_reducible refine r_drop ?_
  | with_reducible refine r_op ?_
  | with_reducible refine r_un ?_
  | with_reducible refine r_cbInt ?_
  | with_reducible refine r_cbAbs ?_
  | with_reducible refine r_cbLen ?_
  | with_reducible refine r_cbList ?_
  | with_reducible refine r_cbTup ?_
  | with_reducible refine r_iEnT ?_
  | with_reducible refine r_iEnL ?_
  | with_reducible refine r_zipA ?_
  | with_reducible refine r_zipX ?_
  | with_reducible refine r_augS ?_
  | with_reducible refine r_cb ?_
  | with_reducible refine r_call ?_
  | with_reducible refine r_make ?_
  | with_reducible refine r_callN0 ?_
  | with_reducible refine r_makeK0 ?_
  | with_reducible refine r_makeS ?_
  | with_reducible refine r_callS ?_
  | with_reducible refine r_cons ?_
  | with_reducible refine r_nil ?_
  | with_reducible refine r_test ?_
  | with_reducible refine r_B ?_
  | with_reducible refine r_and ?_
  | with_reducible refine r_or ?_
  | with_reducible refine r_not ?_
  | with_reducible refine r_andV ?_
  | with_reducible refine r_orV ?_
  | with_reducible refine r_notV ?_
  | with_reducible refine r_if ?_
  | with_reducible refine r_tup ?_
  | with_reducible refine r_lst ?_
  | with_reducible refine r_c ?_
  | with_reducible refine r_lc ?_
  | with_reducible refine r_chain ?_
  | with_reducible refine r_iT ?_
  | with_reducible refine r_iL ?_
  | with_reducible refine r_iR1 ?_
  | with_reducible refine r_iR2 ?_
  | with_reducible refine r_iR3 ?_
  | with_reducible refine r_asgG ?_
  | with_reducible refine r_gSub ?_
  | with_reducible refine r_for ?_
  | with_reducible refine r_smeth ?_
  | with_reducible refine r_par ?_
  | with_reducible refine r_parK ?_
  | with_reducible refine r_gCons ?_
  | with_reducible refine r_gNil ?_
  | with_reducible refine r_gName ?_
  | with_reducible refine r_intI ?_
  | with_reducible refine r_intB ?_
  | with_reducible refine r_absI ?_
  | with_reducible refine r_k ?_
  | with_reducible refine r_kV ?_
  | ((with_reducible show tVar _ _ _ _); refine r_var3 ?_ (by rfl))
  | with_reducible refine r_I0 ?_
  | with_reducible refine r_U ?_
  | with_reducible refine r_eqI ?_
  | with_reducible refine r_neI ?_
  | with_reducible refine r_F ?_
  | dsimp only)))
local macro_rules | `(tactic| walk_at "rx") => `(tactic| (repeat (first
  | with_reducible refine r_next ?_
  | with_reducible refine r_ret ?_
  | with_reducible refine r_ifS ?_
  | with_reducible refine r_asg ?_
  | with_reducible refine r_drop ?_
  | with_reducible refine r_op ?_
  | with_reducible refine r_un ?_
  | with_reducible refine r_cbInt ?_
  | with_reducible refine r_cbAbs ?_
  | with_reducible refine r_cbLen ?_
  | with_reducible refine r_cbList ?_
  | with_reducible refine r_cbTup ?_
  | with_reducible refine r_iEnT ?_
  | with_reducible refine r_iEnL ?_
  | with_reducible refine r_zipA ?_
  | with_reducible refine r_zipX ?_
  | with_reducible refine r_augS ?_
  | with_reducible refine r_cb ?_
  | with_reducible refine r_call ?_
  | with_reducible refine r_make ?_
  | with_reducible refine r_callN0 ?_
  | with_reducible refine r_makeK0 ?_
  | with_reducible refine r_makeS ?_
  | with_reducible refine r_callS ?_
  | with_reducible refine r_cons ?_
  | with_reducible refine r_nil ?_
  | with_reducible refine r_test ?_
  | with_reducible refine r_B ?_
  | with_reducible refine r_and ?_
  | with_reducible refine r_or ?_
  | with_reducible refine r_not ?_
  | with_reducible refine r_andV ?_
  | with_reducible refine r_orV ?_
  | with_reducible refine r_notV ?_
  | with_reducible refine r_if ?_
  | with_reducible refine r_tup ?_
  | with_reducible refine r_lst ?_
  | with_reducible refine r_c ?_
  | with_reducible refine r_lc ?_
  | with_reducible refine r_chain ?_
  | with_reducible refine r_iT ?_
  | with_reducible refine r_iL ?_
  | with_reducible refine r_iR1 ?_
  | with_reducible refine r_iR2 ?_
  | with_reducible refine r_iR3 ?_
  | with_reducible refine r_asgG ?_
  | with_reducible refine r_gSub ?_
  | with_reducible refine r_for ?_
  | with_reducible refine r_smeth ?_
  | with_reducible refine r_par ?_
  | with_reducible refine r_parK ?_
  | with_reducible refine r_gCons ?_
  | with_reducible refine r_gNil ?_
  | with_reducible refine r_gName ?_
  | with_reducible refine r_intI ?_
  | with_reducible refine r_intB ?_
  | with_reducible refine r_absI ?_
  | with_reducible refine r_k ?_
  | with_reducible refine r_kV ?_
  | ((with_reducible show tVar _ _ _ _); refine r_var3 ?_ (by rfl))
  | with_reducible refine r_I0 ?_
  | with_reducible refine r_U ?_
  | with_reducible refine r_eqI ?_
  | with_reducible refine r_neI ?_
  | with_reducible refine r_F ?_
  | dsimp only)))
theorem r_catT {K : PySem.W.Frag} {H : Hp} {Q : VK} {a b : Addr} {xs ys : List V} (h1 : H a = some (.tup xs)) (h2 : H b = some (.tup ys)) (n1 : xs ≠ []) (n2 : ys ≠ []) (hz : xs.length + ys.length ≤ 1000) (q : ∀ p H', H p = none → Ex H H' → H' p = some (.tup (xs ++ ys)) → Q (.ref p) H') : rCatT K (.ref a) (.ref b) H Q :=
  ⟨a, b, xs, ys, rfl, rfl, SqT.of h1, SqT.of h2, n1, sz_le (by omega), fun z => absurd z n2, fun _ p hp => q p _ hp (Ex.new hp) upd_same⟩
theorem lg {i : Int} (h : i.natAbs < 10 ^ 60) : i.natAbs.log2 < 1920 := by
  by_cases z : i.natAbs = 0
  · rw [z]; decide
  · exact (Nat.log2_lt z).mpr (Nat.lt_trans h (by decide))
theorem gcd_go (ns : List Int) : gcdL ns = M00.go 0 ns := rfl
theorem r_eqIntsL {K : PySem.W.Frag} {H : Hp} {Q : VK} {p q : Addr} {xs ys : List Int} (h1 : H p = some (.lst (xs.map V.int))) (h2 : H q = some (.lst (ys.map V.int))) (k : Q (.bl (decide (xs = ys))) H) : rEqD K (.ref p) (.ref q) H Q := by
  refine ⟨_, _, .lst (SqL.of h1) (dp_ints xs), .lst (SqL.of h2) (dp_ints ys), (shaped_ints xs).1, (shaped_ints ys).1, ?_⟩
  show Q (.bl (PyData.eqvAll (xs.map PyData.int) (ys.map PyData.int))) H
  rw [eqv_ints]
  exact k
theorem tabs_bg {T : List (Addr × Str)} {H H' : Hp} {p : Addr} {n : Int} (t : Tabs T H) (g : Bg p H H') (hb : Bag H p n) : Tabs T H' := fun q hq => by
  obtain ⟨ps, h1, h2, h3⟩ := t q hq
  refine ⟨ps, g.at_ (hb.ne h1 fun _ _ _ z => by cases z) h1, h2, fun pos cv hc => ?_⟩
  obtain ⟨c, e1, e2⟩ := h3 pos cv hc
  exact ⟨c, e1, g.at_ (hb.ne e2 fun _ _ _ z => by unfold CodeO at z; cases z) e2⟩
theorem given_filter (zs : List Int) (T : Int → Bool) : given zs.length (fun j => T (zs.getD j 0)) (fun j => .int (zs.getD j 0)) = (zs.filter T).map V.int := by
  have e : (List.range zs.length).map (fun j => zs.getD j 0) = zs := by
    refine List.ext_getElem (by simp) fun i h1 h2 => ?_
    simp at h1
    simp [h1]
  unfold given
  conv => rhs; rw [← e, List.filter_map]
  rw [List.map_map]
  rfl
/-- a value held whose address holds one of these -/
def OdR (H : Hp) (v : V) : Prop := v = .non ∨ v = .int 5 ∨ v = .str "12" ∨ (∃ t, v = .ref t ∧ H t = some (.lst [.non])) ∨ (∃ t, v = .ref t ∧ H t = some (.lst [.int 1, .bl true])) ∨ (∃ t u, v = .ref t ∧ H t = some (.lst [.ref u]) ∧ H u = some (.lst [.int 1])) ∨ (∃ t, v = .ref t ∧ H t = some (.dK [])) ∨ ∃ t, v = .ref t ∧ H t = some (.lst [.str "1"])
def OdN (H : Hp) (v : V) : Prop := v = .int (-1) ∨ v = .int (-100000000000000000000) ∨ v = .non ∨ v = .bl true ∨ v = .str "4" ∨ ∃ t, v = .ref t ∧ H t = some (.lst [.int 4])
def Keeps (H H' : Hp) : Prop := (∀ t xs, H t = some (.lst xs) → (∀ L x y, xs ≠ [.ref L, .int x, .int y]) → H' t = some (.lst xs)) ∧ ∀ t ks, H t = some (.dK ks) → H' t = some (.dK ks)
theorem OdR.to {H H' : Hp} {v : V} (h : OdR H v) (e : Keeps H H') : OdR H' v := by
  rcases h with rfl | rfl | rfl | ⟨t, rfl, h⟩ | ⟨t, rfl, h⟩ | ⟨t, u, rfl, h, h2⟩ | ⟨t, rfl, h⟩ | ⟨t, rfl, h⟩
  · exact .inl rfl
  · exact .inr (.inl rfl)
  · exact .inr (.inr (.inl rfl))
  · exact .inr (.inr (.inr (.inl ⟨t, rfl, e.1 _ _ h (fun _ _ _ z => by cases z)⟩)))
  · exact .inr (.inr (.inr (.inr (.inl ⟨t, rfl, e.1 _ _ h (fun _ _ _ z => by cases z)⟩))))
  · exact .inr (.inr (.inr (.inr (.inr (.inl ⟨t, u, rfl, e.1 _ _ h (fun _ _ _ z => by cases z), e.1 _ _ h2 (fun _ _ _ z => by cases z)⟩)))))
  · exact .inr (.inr (.inr (.inr (.inr (.inr (.inl ⟨t, rfl, e.2 _ _ h⟩))))))
  · exact .inr (.inr (.inr (.inr (.inr (.inr (.inr ⟨t, rfl, e.1 _ _ h (fun _ _ _ z => by cases z)⟩))))))
theorem OdN.to {H H' : Hp} {v : V} (h : OdN H v) (e : Keeps H H') : OdN H' v := by
  rcases h with rfl | rfl | rfl | rfl | rfl | ⟨t, rfl, h⟩
  · exact .inl rfl
  · exact .inr (.inl rfl)
  · exact .inr (.inr (.inl rfl))
  · exact .inr (.inr (.inr (.inl rfl)))
  · exact .inr (.inr (.inr (.inr (.inl rfl))))
  · exact .inr (.inr (.inr (.inr (.inr ⟨t, rfl, e.1 _ _ h (fun _ _ _ z => by cases z)⟩))))
theorem Keeps.ex {H H' : Hp} (e : Ex H H') : Keeps H H' := ⟨fun _ _ h _ => e _ _ h, fun _ _ h => e _ _ h⟩
theorem Keeps.bg {H H' : Hp} {p : Addr} {n : Int} (g : Bg p H H') (hb : Bag H p n) : Keeps H H' := ⟨fun t xs h no => g.at_ (hb.ne h fun L x y z => no L x y (by cases z; rfl)) h, fun t ks h => g.at_ (hb.ne h fun _ _ _ z => by cases z) h⟩
theorem Keeps.en {H H' : Hp} (e : ExtN H H') : Keeps H H' := ⟨fun t xs h _ => e _ _ h (fun _ z => by cases z), fun t ks h => e _ _ h (fun _ z => by cases z)⟩
theorem Keeps.trans {H H1 H2 : Hp} (a : Keeps H H1) (b : Keeps H1 H2) : Keeps H H2 := ⟨fun t xs h no => b.1 t xs (a.1 t xs h no) no, fun t ks h => b.2 t ks (a.2 t ks h)⟩
theorem r_lam {T : List (Addr × Str)} {TT : (XK → Hp → VK → Prop) → Hp → VK → Prop} {t : XK → TE} {σ : L2.St} {H : Hp} {Q : VK} (h : Tabs T H) (q : ∀ H1, ExtN H H1 → Tabs T H1 → TT (fun E H' Q' => t E σ H' Q') H1 Q) : tLam T TT t σ H Q := ⟨h, q⟩
theorem r_app {H : Hp} {Q : VK} {l : Addr} {xs : List V} {y : V} (h : H l = some (.lst xs)) (hl : xs.length < 50000) (q : Q .non (upd H l (.lst (xs ++ [y])))) : rAppend (.ref l) [y] H Q := ⟨l, xs, y, rfl, rfl, h, sz_lt (by omega), q⟩
theorem r_bm {K : PySem.W.Frag} {T : String} {r : V → List V → Hp → VK → Prop} {to : TE} {t : TA} {σ : L2.St} {H : Hp} {Q : VK} (q : to σ H fun x H1 => tyV K T x H1 ∧ t σ H1 fun xs H2 => r x xs H2 Q) : tBM K T r to t σ H Q := q
theorem tyL {K : PySem.W.Frag} {H : Hp} {p : Addr} {xs : List V} (h : H p = some (.lst xs)) : tyV K "list" (.ref p) H := .inl ⟨rfl, _, SqL.of h⟩
theorem tabs_upd {T : List (Addr × Str)} {H : Hp} {a : Addr} {xs : List V} {o : HO} (t : Tabs T H) (h : H a = some (.lst xs)) : Tabs T (upd H a o) := fun q hq => by
  obtain ⟨ps, h1, h2, h3⟩ := t q hq
  refine ⟨ps, by rw [upd_ne (by rintro rfl; rw [h] at h1; cases h1)]; exact h1, h2, fun pos cv hc => ?_⟩
  obtain ⟨c, e1, e2⟩ := h3 pos cv hc
  refine ⟨c, e1, ?_⟩
  rw [upd_ne (by rintro rfl; rw [h] at e2; unfold CodeO at e2; cases e2)]
  exact e2
theorem Bag.extN {H H' : Hp} {b : Addr} {n : Int} (h : Bag H b n) (e : ExtN H H') : Bag H' b n := by
  obtain ⟨L, xs, a, l, h1, h2, h3⟩ := h.is
  exact ⟨L, xs, a, l, e _ _ h1 (fun _ z => by cases z), e _ _ h2 (fun _ z => by cases z), h3⟩
theorem Bag.updS {H : Hp} {p q : Addr} {n : Int} {z : Str} {o : HO} (hb : Bag H p n) (h : H q = some (.lst [.str z])) : Bag (upd H q o) p n := by
  obtain ⟨L, xs, a, l, h1, h2, ne, r⟩ := hb.is
  have np : p ≠ q := by rintro rfl; rw [h] at h1; cases h1
  have nL : L ≠ q := by
    rintro rfl
    rw [h] at h2
    cases xs with
    | nil => cases h2
    | cons x xs => cases h2
  exact ⟨L, xs, a, l, by rw [upd_ne np]; exact h1, by rw [upd_ne nL]; exact h2, ne, r⟩
theorem OdR.bad {K : PySem.W.Frag} {H : Hp} {v : V} (h : OdR H v) : BadRow K H v := by
  have one : ∀ {t : Addr} {xs : List V}, H t = some (.lst xs) → xs.length ≤ 50000 → (∀ x ∈ xs, Kn K H x) → xs.all isI = false → BadRow K H (.ref t) := fun h l k a => .inl ⟨_, ⟨_, rfl, .inl h⟩, l, k, a⟩
  rcases h with rfl | rfl | rfl | ⟨t, rfl, h⟩ | ⟨t, rfl, h⟩ | ⟨t, u, rfl, h, h2⟩ | ⟨t, rfl, h⟩ | ⟨t, rfl, h⟩
  · exact .inr (.inl ⟨"NoneType", by decide, .non, rfl⟩)
  · exact .inr (.inl ⟨"int", by decide, .int 5, rfl⟩)
  · exact .inr (.inl ⟨"str", by decide, .str _, rfl⟩)
  · exact one h (by decide) (fun x hx => by rw [List.mem_singleton.mp hx]; exact .inl ⟨"NoneType", by decide, .non⟩) rfl
  · refine one h (by decide) (fun x hx => ?_) rfl
    simp only [List.mem_cons, List.mem_nil_iff, or_false] at hx
    rcases hx with rfl | rfl
    · exact kn_int 1
    · exact .inl ⟨"bool", by decide, .bl true⟩
  · exact one h (by simp) (fun x hx => by rw [List.mem_singleton.mp hx]; exact .inl ⟨"list", by decide, .lst h2⟩) rfl
  · exact .inr (.inl ⟨"dict", by decide, .dK h, rfl⟩)
  · exact one h (by decide) (fun x hx => by rw [List.mem_singleton.mp hx]; exact .inl ⟨"str", by decide, .str _⟩) rfl
theorem OdN.bad {K : PySem.W.Frag} {H : Hp} {v : V} (h : OdN H v) : Kn K H v ∧ inB v (some 0) none = false := by
  rcases h with rfl | rfl | rfl | rfl | rfl | ⟨t, rfl, h⟩
  · exact ⟨kn_int _, rfl⟩
  · exact ⟨kn_int _, rfl⟩
  · exact ⟨.inl ⟨"NoneType", by decide, .non⟩, rfl⟩
  · exact ⟨.inl ⟨"bool", by decide, .bl true⟩, rfl⟩
  · exact ⟨.inl ⟨"str", by decide, .str _⟩, rfl⟩
  · exact ⟨.inl ⟨"list", by decide, .lst h⟩, rfl⟩
def spRoots (K : PySem.W.Frag) : Sp := sp1 fun b H Q _ => ∃ (p : Addr) (n : Int), b = .ref p ∧ n ≤ 80000 ∧ Bag H p n ∧ Tabs (lamT K) H ∧ ∀ H', Bag H' p (n + 20) → Tabs (lamT K) H' → Q (.bl true) H'
theorem pow103 : (10 : Int) ^ (3 : Int).toNat = 1000 := rfl
theorem pow1020 : (10 : Int) ^ (20 : Int).toNat = 100000000000000000000 := rfl
theorem pow109 : (10 : Int) ^ (9 : Int).toNat = 1000000000 := rfl
theorem pow1028 : (10 : Int) ^ (28 : Int).toNat = 10000000000000000000000000000 := rfl
theorem zbig {i : Int} (h : i.natAbs < 10 ^ 40) : Z 1000 i := Nat.lt_trans h (by decide)
theorem ok__law_roots_right {P : Program} {w : World} {K : PySem.W.Frag} {mg : Str → Option Value} {base : Heap} (T : Txt K mg) (tb : TabB base mg (He.cT K ("_law_roots_right", none)).1 (He.cT K ("_law_roots_right", none)).2) : ∃ fd, FnG P w K mg base (L2.CX P w) 10 (He.ga K "_law_roots_right") fd ["ark"] (spRoots K) ∧ Binds K fd ["ark"] [] := by
  obtain ⟨fd, F⟩ := T.d__law_roots_right
  obtain ⟨fd_whole_root, F_whole_root, B_whole_root, kb_whole_root_0⟩ := ok_whole_root (P := P) (w := w) (base := base) T
  obtain ⟨fd_common_divisor, F_common_divisor, B_common_divisor, kb_common_divisor_0⟩ := ok_common_divisor (P := P) (w := w) (base := base) T
  obtain ⟨fd__law_fish, F__law_fish, B__law_fish⟩ := ok__law_fish (P := P) (w := w) (base := base) T
  obtain ⟨fd__law_haul, F__law_haul, B__law_haul⟩ := ok__law_haul (P := P) (w := w) (base := base) T
  obtain ⟨fd__law_heard, FD__law_heard⟩ := T.d__law_heard
  refine ⟨fd, okL (p := ("_law_roots_right", none)) rfl F sc__law_roots_right sp1_len (fun cdv A outer s H vs Q E cdE quiet hr h => ?_), F.bindsN fun _ _ _ _ _ _ us hl => match us, hl with | [_], _ => rfl⟩
  have hr_whole_root : Room 4 _ := hr.mono (by decide)
  have hr_common_divisor : Room 4 _ := hr.mono (by decide)
  have hr__law_fish : Room 2 _ := hr.mono (by decide)
  have hr__law_haul : Room 1 _ := hr.mono (by decide)
  obtain ⟨b0, rfl, p, n, rfl, hn, hb, tabs, k⟩ := sp1_is h
  refine ⟨_, (pss_cons (ps_asg (pe_tup (pa_cons (pe_op op_add pe_int (pe_call F__law_haul hr__law_haul (by rfl) T.g__law_haul T.k__law_haul B__law_haul .nil passL (pa_cons (pv 0) (pa_cons (pe_call F__law_fish hr__law_fish (by rfl) T.g__law_fish T.k__law_fish B__law_fish .nil passL (pa_cons (pv 0) (pa_cons (pe_lst (pa_cons pe_int (pa_cons (pe_op op_powW pe_int pe_int) (pa_cons (pe_op op_powW pe_int pe_int) pa_nil)))) pa_nil))) pa_nil)))) (pa_cons (pe_lc (own := [("turn", 3)]) (g := gName 3) (tt := tYes)  rfl sc__law_roots_right.nd (pi_range1 (by rfl) T.b_range (pa_cons (pe_op op_add pe_int (pe_call F__law_haul hr__law_haul (by rfl) T.g__law_haul T.k__law_haul B__law_haul .nil passL (pa_cons (pv 0) (pa_cons pe_int pa_nil)))) pa_nil)) (blkOk_by (own := [("turn", 3)]) (N := ["ark", "by", "some", "turn", "due", "number", "each", "told", "root", "more", "odd", "none", "heard"]) (sc := defScope s__law_roots_right) (by decide +kernel)) (fun _ _ _ _ _ => (pg_name (i := 3) sc__law_roots_right.nd rfl (Or.inl rfl))) (fun _ _ _ _ _ => pts_nil) (fun _ _ _ _ _ => (pe_op op_sub (pe_call F__law_haul hr__law_haul (by rfl) T.g__law_haul T.k__law_haul B__law_haul .nil passL (pa_cons (pv 0) (pa_cons pe_int pa_nil))) pe_int))) pa_nil))) (pg_tup rfl (pgs_cons (pg_name (i := 1) sc__law_roots_right.nd rfl (Or.inr rfl)) (pgs_cons (pg_name (i := 2) sc__law_roots_right.nd rfl (Or.inr rfl)) pgs_nil))))
      (pss_cons (ps_set (i := 4) sc__law_roots_right.nd rfl (Or.inl rfl) (pe_ix (kx_ixl rfl) (pe_lc (own := [("number", 5)]) (g := gName 5)  rfl sc__law_roots_right.nd (pi_range3 (by rfl) T.b_range (pa_cons pe_int (pa_cons pe_int (pa_cons (pe_un un_neg pe_int) pa_nil)))) (blkOk_by (own := [("number", 5)]) (N := ["ark", "by", "some", "turn", "due", "number", "each", "told", "root", "more", "odd", "none", "heard"]) (sc := defScope s__law_roots_right) (by decide +kernel)) (fun _ _ _ _ _ => (pg_name (i := 5) sc__law_roots_right.nd rfl (Or.inr rfl))) (fun _ _ _ _ _ => (pts_one (pt_cmpR (kx_eqD (K := K) rfl hr.units) (pe_lc (own := [("each", 6)]) (g := gName 6)  rfl sc__law_roots_right.nd (kx_pilist (K := K) rfl (pv 2)) (blkOk_by (own := [("each", 6)]) (N := ["ark", "by", "some", "turn", "due", "number", "each", "told", "root", "more", "odd", "none", "heard"]) (by rfl)) (fun _ _ _ _ _ => (pg_name (i := 6) sc__law_roots_right.nd rfl (Or.inl rfl))) (fun _ _ _ _ _ => (pts_one (pt_cmpR op_ne (pe_op op_mod (pe_callTy call_int1 (by rfl) T.b_int (by decide +kernel) (pa_cons (pv 6) pa_nil)) (pv 5)) pe_int (nomark _)))) (fun _ _ _ _ _ => (pv 6))) (pe_lst pa_nil) (nomark _)))) (fun _ _ _ _ _ => (pv 5))) pe_int (fun _ _ => rfl)))
      (pss_cons (ps_set (i := 4) sc__law_roots_right.nd rfl (Or.inl rfl) (pe_ifExp (pt_cmpR (op_neD hr.units) (pe_lc (own := [("each", 6)]) (g := gName 6)  rfl sc__law_roots_right.nd (pi_list (pv 2)) (blkOk_by (own := [("each", 6)]) (N := ["ark", "by", "some", "turn", "due", "number", "each", "told", "root", "more", "odd", "none", "heard"]) (sc := defScope s__law_roots_right) (by decide +kernel)) (fun _ _ _ _ _ => (pg_name (i := 6) sc__law_roots_right.nd rfl (Or.inl rfl))) (fun _ _ _ _ _ => (pts_one (pt_cmpR op_ne (pv 6) pe_int (nomark _)))) (fun _ _ _ _ _ => (pv 6))) (pe_lst pa_nil) (nomark _)) (pv 4) pe_int))
      (pss_cons (ps_set (i := 7) sc__law_roots_right.nd rfl (Or.inl rfl) (pe_callK0 F_common_divisor hr_common_divisor (by rfl) T.g_common_divisor T.k_common_divisor kb_common_divisor_0 passL (pk_cons (pe_lc (own := [("each", 6)]) (g := gName 6) (tt := tYes)  rfl sc__law_roots_right.nd (pi_list (pv 2)) (blkOk_by (own := [("each", 6)]) (N := ["ark", "by", "some", "turn", "due", "number", "each", "told", "root", "more", "odd", "none", "heard"]) (sc := defScope s__law_roots_right) (by decide +kernel)) (fun _ _ _ _ _ => (pg_name (i := 6) sc__law_roots_right.nd rfl (Or.inl rfl))) (fun _ _ _ _ _ => pts_nil) (fun _ _ _ _ _ => (pe_op op_mulW (pv 1) (pv 6)))) pk_nil)))
      (pss_cons (ps_if (PW.pt (pw_or (pt_cmpR op_ne (pe_callB SkE.call_repr_int (by rfl) T.b_repr (by decide +kernel) (pa_cons (pv 7) pa_nil)) (pe_callB SkE.call_repr_int (by rfl) T.b_repr (by decide +kernel) (pa_cons (pe_op op_mulW (pv 1) (pv 4)) pa_nil)) (nomark _)) (pw_or (pt_cmpR op_ne (pe_callB SkE.call_repr_int (by rfl) T.b_repr (by decide +kernel) (pa_cons (pe_call F_common_divisor hr_common_divisor (by rfl) T.g_common_divisor T.k_common_divisor B_common_divisor .nil passL (pa_cons (pe_op (kx_catT (K := K) rfl) (pe_callTy (kx_tupOf (K := K) rfl) (by rfl) T.b_tuple (by decide +kernel) (pa_cons (pv 2) pa_nil)) (pe_tup (pa_cons pe_int pa_nil))) pa_nil)) pa_nil)) (pe_callB SkE.call_repr_int (by rfl) T.b_repr (by decide +kernel) (pa_cons (pv 4) pa_nil)) (nomark _)) (pw_or1 (pt_cmpR op_ne (pe_callB SkE.call_repr_int (by rfl) T.b_repr (by decide +kernel) (pa_cons (pe_call F_common_divisor hr_common_divisor (by rfl) T.g_common_divisor T.k_common_divisor B_common_divisor .nil passL (pa_cons (pe_lst pa_nil) pa_nil)) pa_nil)) pe_str (nomark _)))))) (pss_one (ps_ret pe_bl)) pss_nil)
      (pss_cons (ps_set (i := 8) sc__law_roots_right.nd rfl (Or.inl rfl) (pe_call F__law_haul hr__law_haul (by rfl) T.g__law_haul T.k__law_haul B__law_haul .nil passL (pa_cons (pv 0) (pa_cons (pe_call F__law_fish hr__law_fish (by rfl) T.g__law_fish T.k__law_fish B__law_fish .nil passL (pa_cons (pv 0) (pa_cons (pe_lst (pa_cons pe_int (pa_cons (pe_op op_powW pe_int pe_int) (pa_cons (pe_op op_powW pe_int pe_int) pa_nil)))) pa_nil))) pa_nil))))
      (pss_cons (ps_set (i := 9) sc__law_roots_right.nd rfl (Or.inl rfl) (pe_call F__law_fish hr__law_fish (by rfl) T.g__law_fish T.k__law_fish B__law_fish .nil passL (pa_cons (pv 0) (pa_cons (pe_lst (pa_cons pe_int (pa_cons (pe_op op_mulW pe_int (pv 8)) (pa_cons (pv 8) pa_nil)))) pa_nil))))
      (pss_cons (ps_if (PW.pt (pw_or (pt_cmpR op_ne (pe_callB SkE.call_repr_int (by rfl) T.b_repr (by decide +kernel) (pa_cons (pe_callK0 F_whole_root hr_whole_root (by rfl) T.g_whole_root T.k_whole_root kb_whole_root_0 passL (pk_cons (pe_op op_add (pe_op op_mulW (pv 8) (pv 8)) (pv 9)) pk_nil)) pa_nil)) (pe_callB SkE.call_repr_int (by rfl) T.b_repr (by decide +kernel) (pa_cons (pv 8) pa_nil)) (nomark _)) (pw_or1 (PW.pt (pw_and (pt_cmpR op_gt (pv 8) pe_int (nomark _)) (pw_and1 (pt_cmpR op_ne (pe_call F_whole_root hr_whole_root (by rfl) T.g_whole_root T.k_whole_root B_whole_root .nil passL (pa_cons (pe_op op_sub (pe_op op_mulW (pv 8) (pv 8)) pe_int) pa_nil)) (pe_op op_sub (pv 8) pe_int) (nomark _)))))))) (pss_one (ps_ret pe_bl)) pss_nil)
      (pss_cons (ps_asg (pe_tup (pa_cons (pe_call F__law_fish hr__law_fish (by rfl) T.g__law_fish T.k__law_fish B__law_fish .nil passL (pa_cons (pv 0) (pa_cons (pe_lst (pa_cons pe_non (pa_cons pe_int (pa_cons pe_str (pa_cons (pe_lst (pa_cons pe_non pa_nil)) (pa_cons (pe_lst (pa_cons pe_int (pa_cons pe_bl pa_nil))) (pa_cons (pe_lst (pa_cons (pe_lst (pa_cons pe_int pa_nil)) pa_nil)) (pa_cons pe_dnewK (pa_cons (pe_lst (pa_cons pe_str pa_nil)) pa_nil))))))))) pa_nil))) (pa_cons (pe_call F__law_fish hr__law_fish (by rfl) T.g__law_fish T.k__law_fish B__law_fish .nil passL (pa_cons (pv 0) (pa_cons (pe_lst (pa_cons (pe_un un_neg pe_int) (pa_cons (pe_un un_neg (pe_op op_powW pe_int pe_int)) (pa_cons pe_non (pa_cons pe_bl (pa_cons pe_str (pa_cons (pe_lst (pa_cons pe_int pa_nil)) pa_nil))))))) pa_nil))) pa_nil))) (pg_tup rfl (pgs_cons (pg_name (i := 10) sc__law_roots_right.nd rfl (Or.inr rfl)) (pgs_cons (pg_name (i := 11) sc__law_roots_right.nd rfl (Or.inr rfl)) pgs_nil))))
      (pss_cons (ps_set (i := 12) sc__law_roots_right.nd rfl (Or.inl rfl) (pe_lst (pa_cons (pe_lamT (T := lamT K) (k := 7) (TT := TTHeard K) (by rfl) T.g__law_heard T.k__law_heard FD__law_heard (FD__law_heard.bindsN fun _ _ _ _ _ _ us hl => match us, hl with | [_], _ => rfl) sc__law_heard rfl (Or.inl rfl) (fun cdg => gives__law_heard T) tb cdE (lam_mem__law_roots_right K) (lam_uq__law_roots_right T) (hr.mono (by decide)) (lamS_by (by rfl)) rfl (fun _ _ _ _ _ => rfl) (fun A outer s H E f c' hrL => (pe_call F_common_divisor (hrL.mono (by decide)) (by rfl) T.g_common_divisor T.k_common_divisor B_common_divisor .nil (passes_call (takes_of rfl rfl rfl rfl) (fun _ _ _ _ h => h)) (pa_cons (pv 10) pa_nil)))) pa_nil)))
      (pss_cons (ps_expr (pe_bm PySem.F.plainAttrs_list PySem.F.slot_list_append PySem.F.type_list_append mt_append (pv 12) (pa_cons (pe_lamT (T := lamT K) (k := 7) (TT := TTHeard K) (by rfl) T.g__law_heard T.k__law_heard FD__law_heard (FD__law_heard.bindsN fun _ _ _ _ _ _ us hl => match us, hl with | [_], _ => rfl) sc__law_heard rfl (Or.inl rfl) (fun cdg => gives__law_heard T) tb cdE (lam_mem__law_roots_right K) (lam_uq__law_roots_right T) (hr.mono (by decide)) (lamS_by (by rfl)) rfl (fun _ _ _ _ _ => rfl) (fun A outer s H E f c' hrL => (pe_call F_whole_root (hrL.mono (by decide)) (by rfl) T.g_whole_root T.k_whole_root B_whole_root .nil (passes_call (takes_of rfl rfl rfl rfl) (fun _ _ _ _ h => h)) (pa_cons (pv 11) pa_nil)))) pa_nil)))
      (pss_one (ps_ret (pe_cmpR (op_eqD hr.units) (pv 12) (pe_lst (pa_cons pe_str (pa_cons pe_str pa_nil))) (nomark _))))))))))))))), ?_⟩
  refine r_seqJ (fun σ' H' => ∃ (b : Int) (D : Addr) (zs : List Int), σ' = [some (.ref p), some (.int b), some (.ref D), none, none, none, none, none, none, none, none, none, none] ∧ Bg p H H' ∧ Bag H' p (n + 8) ∧ H' D = some (.lst (zs.map V.int)) ∧ 0 < b ∧ b ≤ 10 ^ 20 ∧ 1 ≤ zs.length ∧ zs.length ≤ 4 ∧ (∀ x ∈ zs, x.natAbs ≤ 20)) (fun N hN => ?_) ?_
  · walk_at "rx"
    refine r_pow (p10 3 (by decide)) pow103 ?_
    walk_at "rd"
    refine r_pow (p10 20 (by decide)) pow1020 ?_
    walk_at "rd"
    refine r_newL (sz_le (by simp)) fun q1 H1 _ e1 h1 => ?_
    walk_at "rd"
    refine r_One (H0 := H1) (hb.ex e1) h1 (fun _ _ _ z => by cases z) (by simp) (by simp) (by omega) fun v H2 hv g2 b2 => ?_
    obtain ⟨m, rfl, m0, m1⟩ : ∃ m : Int, v = .int m ∧ 10 ≤ m ∧ m ≤ 10 ^ 20 := by
      simp only [List.mem_cons, List.mem_nil_iff, or_false] at hv
      rcases hv with rfl | rfl | rfl
      · exact ⟨_, rfl, by decide, by decide⟩
      · exact ⟨_, rfl, by decide, by decide⟩
      · exact ⟨_, rfl, by decide, by decide⟩
    walk_at "rd"
    refine r_DrawG b2 (by omega) (by omega) (zbig (by omega)) fun r H3 r0 r1 g3 b3 => ?_
    walk_at "rd"
    refine r_DrawG b3 (by omega) (by decide) (zsm (by decide)) fun c H4 c0 c1 g4 b4 => ?_
    walk_at "rd"
    have em : 1 + c = ((1 + c).toNat : Int) := by omega
    rw [em]
    generalize hm2 : (1 + c).toNat = w at *
    have hw : w ≤ 4 := by omega
    refine ⟨w, rfl, by omega, by omega, ?_⟩
    rw [Int.toNat_natCast]
    refine r_lcG (n := w) (walk_range (lo := 0) (n := w)) (fun D i ys H' => ∃ zs : List Int, ys = zs.map V.int ∧ (∀ x ∈ zs, x.natAbs ≤ 20) ∧ Bg p H4 H' ∧ Bag H' p (n + 3 + (i : Nat))) (by omega) (fun _ _ _ _ _ => trivial) (fun D hD => ⟨[], rfl, (fun _ z => nomatch z), (Bg.refl p H4).updD b4 hD, (b4.le (by omega)).updD b4 (Bg.refl p H4) hD⟩) ?_ ?_ ?_
    · rintro D j ys H' o hD ⟨zs, e, sm, g, hb'⟩
      exact ⟨zs, e, sm, g.updD b4 hD, hb'.updD b4 g hD⟩
    · rintro D j x ys G8 H' hj hD hl' li ⟨zs, rfl, sm, g, hb'⟩ ⟨rfl, rfl⟩ N' hN'
      refine r_gName ⟨rfl, ?_⟩
      walk_at "rd"
      have nD : D ≠ p := by rintro rfl; obtain ⟨L, xs, a, l, h1, _⟩ := b4.is; rw [hD] at h1; cases h1
      refine r_DrawG hb' (by omega) (by decide) (zsm (by decide)) fun c' H9' c0' c1' g9' b9' => ?_
      walk_at "rd"
      refine hN' _ H9' (g9'.at_ nD hl') ⟨zs ++ [c' - 20], by simp, fun x hx => ?_, g.trans g9', b9'.le (by push_cast; omega)⟩
      rcases List.mem_append.mp hx with hx | hx
      · exact sm x hx
      · rw [List.mem_singleton.mp hx]
        omega
    · rintro D ys H5 hD hl' li ⟨zs, rfl, sm, g5, b5⟩
      walk_at "rd"
      refine r_newT (sz_le (by simp)) fun t H6 _ e6 h6 => ?_
      refine r_gTup h6 rfl (r_gCons (r_gName (r_gCons (r_gName (r_gNil ?_)))))
      refine hN _ _ ⟨1 + r, D, zs, rfl, (((((Bg.of e1).trans g2).trans g3).trans g4).trans g5).trans (Bg.of e6), (b5.ex e6).le (by omega), e6 _ _ hl', by omega, by omega, by rw [List.length_map] at li; omega, by rw [List.length_map] at li; omega, sm⟩
  rintro σ' H1 ⟨b, D, zs, rfl, g1, b1, hD, bp, bl, l1, lz, sm⟩
  have tb1 := tabs_bg tabs g1 hb
  refine r_seqJ (fun σ' H' => ∃ d : Int, 0 < d ∧ d ≤ 20 ∧ (if decide (zs.filter (fun x => !decide (x = 0)) = []) = true then 0 else d) = gcdL zs ∧ σ' = [some (.ref p), some (.int b), some (.ref D), none, some (.int d), none, none, none, none, none, none, none, none] ∧ Ex H1 H') (fun N hN => ?_) ?_
  · walk_at "rx"
    refine ⟨20, 0, -1, 20, rfl, ⟨by decide, by decide, by decide⟩, ?_⟩
    have at5 : ∀ {j : Nat} {y : V}, (zs.map V.int)[j]? = some y → y = .int (zs.getD j 0) := fun {j y} hy => by
      obtain ⟨a, ha, rfl⟩ := int_at hy
      rw [List.getD_eq_getElem?_getD, ha]
      rfl
    refine r_lcF (n := 20) (k := 5) walk_rangeC (M00.due zs) (fun i => .int (20 - (i : Int))) (by decide) (fun _ _ => trivial) (fun _ => rfl) ?_ ?_ ?_
    · rintro i x H0 H' hi e0 ⟨rfl, rfl⟩
      refine ⟨Ex.refl _, fun R rr => ?_⟩
      walk_at "rd"
      refine ⟨D, rfl, ⟨_, SqL.of (e0 _ _ hD)⟩, ?_⟩
      refine r_lcF (n := zs.length) (k := 6) (by simpa using walk_list (xs := zs.map V.int)) (fun j => !decide (zs.getD j 0 % (20 - (i : Int)) = 0)) (fun j => .int (zs.getD j 0)) (by omega) (fun H' e => SqL.of (e _ _ (e0 _ _ hD))) (fun _ => rfl) ?_ ?_ ?_
      · rintro j y H2 H2' hj e2 ⟨rfl, hy⟩
        refine ⟨Ex.refl _, fun R2 rr2 => ?_⟩
        rw [at5 hy]
        walk_at "rd"
        rw [show (20 : Int) + (i : Int) * -1 = 20 - (i : Int) by omega]
        refine r_I (by omega) ?_
        walk_at "rd"
        exact rr2 _ (Ex.refl _)
      · rintro j y H2 hj tj e2 ⟨Ha, Hb, ⟨rfl, hy⟩, ea, eb, ec⟩ R2 rr2
        rw [at5 hy]
        walk_at "rd"
        exact rr2 _ (Ex.refl _)
      · intro q H3 hq e3 h3
        rw [given_filter zs fun x => !decide (x % (20 - (i : Int)) = 0)] at h3
        walk_at "rd"
        refine r_newL (xs := []) (sz_le (by simp)) fun q4 H4 _ e4 h4 => ?_
        refine r_eqIntsL (ys := []) (e4 _ _ h3) h4 ?_
        exact ⟨_, rfl, rr _ (e3.trans e4)⟩
    · rintro i x H0 hi ti e0 ⟨Ha, Hb, ⟨rfl, rfl⟩, ea, eb, ec⟩ R rr
      walk_at "rd"
      rw [show (20 : Int) + (i : Int) * -1 = 20 - (i : Int) by omega]
      exact rr _ (Ex.refl _)
    · intro q H3 hq e3 h3
      obtain ⟨d, d0, d1, hd, hg⟩ := M00.due_head V.int zs sm
      walk_at "rd"
      refine r_ixL h3 (v := .int d) (atI_nat (j := 0) hd) ?_
      exact hN _ _ ⟨d, d0, d1, hg, rfl, e3⟩
  rintro σ' H2 ⟨d, d0, d1, hg, rfl, e2⟩
  have hD2 := e2 _ _ hD
  refine r_seqJ (fun σ' H' => σ' = [some (.ref p), some (.int b), some (.ref D), none, some (.int (gcdL zs)), none, none, none, none, none, none, none, none] ∧ Ex H2 H') (fun N hN => ?_) ?_
  · walk_at "rx"
    refine ⟨D, rfl, ⟨_, SqL.of hD2⟩, ?_⟩
    have at6 : ∀ {j : Nat} {y : V}, (zs.map V.int)[j]? = some y → y = .int (zs.getD j 0) := fun {j y} hy => by
      obtain ⟨a, ha, rfl⟩ := int_at hy
      rw [List.getD_eq_getElem?_getD, ha]
      rfl
    refine r_lcF (n := zs.length) (k := 6) (by simpa using walk_list (xs := zs.map V.int)) (fun j => !decide (zs.getD j 0 = 0)) (fun j => .int (zs.getD j 0)) (by omega) (fun H' e => SqL.of (e _ _ hD2)) (fun _ => rfl) ?_ ?_ ?_
    · rintro j y H3 H3' hj e3 ⟨rfl, hy⟩
      refine ⟨Ex.refl _, fun R2 rr2 => ?_⟩
      rw [at6 hy]
      walk_at "rd"
      exact rr2 _ (Ex.refl _)
    · rintro j y H3 hj tj e3 ⟨Ha, Hb, ⟨rfl, hy⟩, ea, eb, ec⟩ R2 rr2
      rw [at6 hy]
      walk_at "rd"
      exact rr2 _ (Ex.refl _)
    · intro q H3 hq e3 h3
      rw [given_filter zs fun x => !decide (x = 0)] at h3
      walk_at "rd"
      refine r_newL (xs := []) (sz_le (by simp)) fun q4 H4 _ e4 h4 => ?_
      refine r_neInts (ys := []) (e4 _ _ h3) h4 ?_
      refine ⟨_, rfl, ?_⟩
      by_cases c : zs.filter (fun x => !decide (x = 0)) = []
      · refine ite_f (by simp [c]) ?_
        walk_at "rd"
        refine hN _ _ ⟨?_, e3.trans e4⟩
        rw [← hg, if_pos (decide_eq_true c)]
        rfl
      · refine ite_t (by simp [c]) ?_
        walk_at "rd"
        refine hN _ _ ⟨?_, e3.trans e4⟩
        rw [← hg, if_neg (by simpa using c)]
        rfl
  rintro σ' H3 ⟨rfl, e3⟩
  have hD3 := e3 _ _ hD2
  have gb : 0 ≤ gcdL zs ∧ gcdL zs ≤ 20 := by
    rw [← hg]
    split <;> omega
  have mb : 0 ≤ b * gcdL zs ∧ b * gcdL zs ≤ 10 ^ 20 * 20 := ⟨Int.mul_nonneg (by omega) gb.1, Int.mul_le_mul bl gb.2 gb.1 (by decide)⟩
  have mg : gcdL (zs.map (b * ·)) = b * gcdL zs := by
    obtain ⟨c, rfl⟩ : ∃ c : Nat, b = c := ⟨b.toNat, by omega⟩
    have := M00.go_mul c zs 0
    rw [Int.mul_zero] at this
    exact this
  have zb : Z 100 b := Nat.lt_of_le_of_lt (show b.natAbs ≤ 10 ^ 20 by omega) (by decide)
  have sm' : ∀ {j : Nat}, Z 10 (zs.getD j 0) := fun {j} => by
    rw [List.getD_eq_getElem?_getD]
    cases q : zs[j]? with
    | none => exact (by decide : (0 : Int).natAbs < 2 ^ 10)
    | some a => exact Nat.lt_of_le_of_lt (sm a (List.mem_of_getElem? q)) (by decide)
  clear hg hD hD2
  refine r_seqJ (fun σ' H' => σ' = [some (.ref p), some (.int b), some (.ref D), none, some (.int (gcdL zs)), none, none, some (.int (b * gcdL zs)), none, none, none, none, none] ∧ Ex H3 H') (fun N hN => ?_) ?_
  · walk_at "rx"
    refine ⟨D, rfl, ⟨_, SqL.of hD3⟩, ?_⟩
    refine r_lcM (n := zs.length) (k := 6) (by simpa using walk_list (xs := zs.map V.int)) (fun j => .int (b * zs.getD j 0)) (by omega) (fun H' e => SqL.of (e _ _ hD3)) (fun _ => rfl) ?_ ?_
    · rintro j y H4 H4' hj e4 ⟨rfl, hy⟩
      refine ⟨Ex.refl _, fun H5 e5 R r => ?_⟩
      have : y = .int (zs.getD j 0) := by
        obtain ⟨a, ha, rfl⟩ := int_at hy
        rw [List.getD_eq_getElem?_getD, ha]
        rfl
      rw [this]
      walk_at "rd"
      refine r_I (mulOk zb sm' (by decide) (by decide) (by decide)) ?_
      walk_at "rd"
      exact r _ (Ex.refl _)
    · intro q H4 hq e4 h4
      have h4' : H4 q = some (.lst ((zs.map (b * ·)).map V.int)) := by
        rw [h4]
        congr 2
        refine List.ext_getElem (by simp) fun i h1 h2 => ?_
        simp at h1
        simp [h1]
      walk_at "rd"
      refine ⟨rfl, rfl, ?_⟩
      refine .inl ⟨_, ⟨q, rfl, .inl h4'⟩, by rw [List.length_map]; omega, fun H5 e5 => ?_⟩
      rw [mg]
      exact hN _ _ ⟨rfl, e4.trans e5⟩
  rintro σ' H4 ⟨rfl, e4⟩
  have hD4 := e4 _ _ hD3
  refine r_seqJ (fun σ' H' => σ' = [some (.ref p), some (.int b), some (.ref D), none, some (.int (gcdL zs)), none, none, some (.int (b * gcdL zs)), none, none, none, none, none] ∧ Ex H4 H') (fun N hN => ?_) ?_
  · walk_at "rx"
    have lgm := lg (i := b * gcdL zs) (by omega)
    have lgg := lg (i := gcdL zs) (by omega)
    refine ⟨_, rfl, lgm, ?_⟩
    walk_at "rd"
    refine r_I (mulOk zb (m := 10) (Nat.lt_of_le_of_lt (show (gcdL zs).natAbs ≤ 20 by omega) (by decide)) (by decide) (by decide) (by decide)) ?_
    walk_at "rd"
    refine ⟨_, rfl, lgm, ?_⟩
    refine r_ne rfl ?_
    refine ⟨_, rfl, ite_f (by simp) ?_⟩
    walk_at "rd"
    refine r_tupL (SqL.of hD4) fun t1 H5 _ e5 h5 => ?_
    walk_at "rd"
    refine r_newT (sz_le (by simp)) fun t2 H6 _ e6 h6 => ?_
    have lm : (zs.map V.int).length ≤ 4 := by rw [List.length_map]; exact lz
    refine r_catT (e6 _ _ h5) h6 (by intro z; rw [List.map_eq_nil_iff] at z; rw [z] at l1; exact absurd l1 (by decide)) (by simp) (by rw [List.length_singleton]; omega) fun t3 H7 _ e7 h7 => ?_
    walk_at "rd"
    refine .inl ⟨zs ++ [0], ⟨t3, rfl, .inr (by rw [List.map_append]; exact h7)⟩, by rw [List.length_append, List.length_singleton]; omega, fun H8 e8 => ?_⟩
    have g0 : gcdL (zs ++ [0]) = gcdL zs := M00.go_zero 0 (by decide) zs
    rw [g0]
    walk_at "rd"
    refine ⟨_, rfl, lgg, ?_⟩
    walk_at "rd"
    refine ⟨_, rfl, lgg, ?_⟩
    refine r_ne rfl ?_
    refine ⟨_, rfl, ite_f (by simp) ?_⟩
    walk_at "rd"
    refine r_newL (xs := []) (sz_le (by simp)) fun q9 H9 _ e9 h9 => ?_
    walk_at "rd"
    refine .inl ⟨[], ⟨q9, rfl, .inl h9⟩, by decide, fun H10 e10 => ?_⟩
    walk_at "rd"
    refine ⟨_, rfl, by decide, ?_⟩
    walk_at "rd"
    refine r_ne rfl ?_
    refine ⟨_, rfl, ite_f (by decide +kernel) ?_⟩
    walk_at "rd"
    exact hN _ _ ⟨rfl, ((((e5.trans e6).trans e7).trans e8).trans e9).trans e10⟩
  rintro σ' H5 ⟨rfl, e5⟩
  have e15 := ((e2.trans e3).trans e4).trans e5
  have b5 := b1.ex e15
  have tb5 := tb1.ext e15
  clear hD3 hD4 tb1
  refine r_seqJ (fun σ' H' => ∃ (r : Nat), σ' = [some (.ref p), some (.int b), some (.ref D), none, some (.int (gcdL zs)), none, none, some (.int (b * gcdL zs)), some (.int r), none, none, none, none] ∧ Bg p H5 H' ∧ Bag H' p (n + 10) ∧ (r : Int) < 10 ^ 28) (fun N hN => ?_) ?_
  · walk_at "rx"
    refine r_pow (p10 9 (by decide)) pow109 ?_
    walk_at "rd"
    refine r_pow (p10 28 (by decide)) pow1028 ?_
    walk_at "rd"
    refine r_newL (sz_le (by simp)) fun q1 H6 _ e6 h6 => ?_
    walk_at "rd"
    refine r_One (H0 := H6) (b5.ex e6) h6 (fun _ _ _ z => by cases z) (by simp) (by simp) (by omega) fun v H7 hv g7 b7 => ?_
    obtain ⟨m, rfl, m0, m1⟩ : ∃ m : Int, v = .int m ∧ 10 ≤ m ∧ m ≤ 10 ^ 28 := by
      simp only [List.mem_cons, List.mem_nil_iff, or_false] at hv
      rcases hv with rfl | rfl | rfl
      · exact ⟨_, rfl, by decide, by decide⟩
      · exact ⟨_, rfl, by decide, by decide⟩
      · exact ⟨_, rfl, by decide, by decide⟩
    walk_at "rd"
    refine r_DrawG b7 (by omega) (by omega) (zbig (by omega)) fun r H8 r0 r1 g8 b8 => ?_
    have er : r = (r.toNat : Int) := by omega
    rw [er]
    generalize hr' : r.toNat = w at *
    exact hN _ _ ⟨w, rfl, (((Bg.of e6).trans g7).trans g8), b8.le (by omega), by omega⟩
  rintro σ' H6 ⟨w, rfl, g6, b6, wl⟩
  have tb6 := tabs_bg tb5 g6 b5
  clear tb5 b5
  have zw : Z 100 (w : Int) := Nat.lt_of_le_of_lt (show (w : Int).natAbs ≤ 10 ^ 28 by omega) (by decide)
  refine r_seqJ (fun σ' H' => ∃ (o : Int), σ' = [some (.ref p), some (.int b), some (.ref D), none, some (.int (gcdL zs)), none, none, some (.int (b * gcdL zs)), some (.int w), some (.int o), none, none, none] ∧ Bg p H6 H' ∧ Bag H' p (n + 12) ∧ 0 ≤ o ∧ o ≤ 2 * w) (fun N hN => ?_) ?_
  · walk_at "rx"
    refine r_I (mulOk (i := 2) (n := 4) (by unfold Z; decide) zw (by decide) (by decide) (by decide)) ?_
    walk_at "rd"
    refine r_newL (sz_le (by simp)) fun q2 H9 _ e9 h9 => ?_
    walk_at "rd"
    refine r_One (H0 := H9) (b6.ex e9) h9 (fun _ _ _ z => by cases z) (by simp) (by simp) (by omega) fun v H10 hv g10 b10 => ?_
    obtain ⟨o, rfl, o0, o1⟩ : ∃ o : Int, v = .int o ∧ 0 ≤ o ∧ o ≤ 2 * w := by
      simp only [List.mem_cons, List.mem_nil_iff, or_false] at hv
      rcases hv with rfl | rfl | rfl
      · exact ⟨_, rfl, by omega, by omega⟩
      · exact ⟨_, rfl, by omega, by omega⟩
      · exact ⟨_, rfl, by omega, by omega⟩
    exact hN _ _ ⟨o, rfl, (Bg.of e9).trans g10, b10.le (by omega), o0, o1⟩
  rintro σ' H7 ⟨o, rfl, g7, b7, o0, o1⟩
  have tb7 := tabs_bg tb6 g7 b6
  clear tb6 b6
  refine r_seqJ (fun σ' H' => σ' = [some (.ref p), some (.int b), some (.ref D), none, some (.int (gcdL zs)), none, none, some (.int (b * gcdL zs)), some (.int w), some (.int o), none, none, none] ∧ H' = H7) (fun N hN => ?_) ?_
  · walk_at "rx"
    refine r_I (mulOk zw zw (by decide) (by decide) (by decide)) ?_
    walk_at "rd"
    have lgw := lg (i := (w : Int)) (by omega)
    obtain ⟨c, rfl⟩ : ∃ c : Nat, o = c := ⟨o.toNat, by omega⟩
    have w28 : w < 10 ^ 28 := by omega
    have ww : w * w < 10 ^ 56 := by
      have := Nat.mul_lt_mul'' w28 w28
      exact this
    have n1 : (w * w + c).log2 < 13000 := by
      have := lg (i := ((w * w + c : Nat) : Int)) (by rw [Int.natAbs_natCast]; omega)
      rw [Int.natAbs_natCast] at this
      omega
    have nx : (w + 1) * (w + 1) = w * w + 2 * w + 1 := by rw [Nat.add_mul, Nat.mul_add]; omega
    refine ⟨rfl, rfl, ?_⟩
    refine ⟨kn_int _, .inl ⟨w * w + c, w, by push_cast; rfl, n1, by omega, by omega, ?_⟩⟩
    walk_at "rd"
    refine ⟨_, rfl, lgw, ?_⟩
    walk_at "rd"
    refine ⟨_, rfl, lgw, ?_⟩
    refine r_ne rfl ?_
    refine ⟨_, rfl, ite_f (by simp) ?_⟩
    walk_at "rd"
    by_cases c0 : 0 < (w : Int)
    · refine ite_t (decide_eq_true c0) ?_
      walk_at "rd"
      refine r_I (mulOk zw zw (by decide) (by decide) (by decide)) ?_
      walk_at "rd"
      have sq := M00.sq_less w (by omega)
      have n2 : (w * w - 1).log2 < 13000 := by
        have := lg (i := ((w * w - 1 : Nat) : Int)) (by rw [Int.natAbs_natCast]; omega)
        rw [Int.natAbs_natCast] at this
        omega
      have w1 : 1 ≤ w * w := Nat.mul_pos (by omega) (by omega)
      refine ⟨kn_int _, .inl ⟨w * w - 1, w - 1, by rw [Int.ofNat_sub w1]; push_cast; rfl, n2, sq.1, sq.2, ?_⟩⟩
      walk_at "rd"
      refine ite_f (by rw [show ((w - 1 : Nat) : Int) = (w : Int) - 1 by omega]; simp) ?_
      walk_at "rd"
      exact hN _ _ ⟨rfl, rfl⟩
    · refine ite_f (decide_eq_false c0) ?_
      walk_at "rd"
      exact hN _ _ ⟨rfl, rfl⟩
  rintro σ' H8 ⟨rfl, rfl⟩
  refine r_seqJ (fun σ' H' => ∃ (o1 o2 : V), σ' = [some (.ref p), some (.int b), some (.ref D), none, some (.int (gcdL zs)), none, none, some (.int (b * gcdL zs)), some (.int w), some (.int o), some o1, some o2, none] ∧ Bg p H8 H' ∧ Bag H' p (n + 14) ∧ OdR H' o1 ∧ OdN H' o2) (fun N hN => ?_) ?_
  · walk_at "rx"
    refine r_newL (sz_le (by simp)) fun q1 G1 _ e1 h1 => ?_
    walk_at "rd"
    refine r_newL (sz_le (by simp)) fun q2 G2 _ e2 h2 => ?_
    walk_at "rd"
    refine r_newL (sz_le (by simp)) fun q3 G3 _ e3 h3 => ?_
    walk_at "rd"
    refine r_newL (sz_le (by simp)) fun q4 G4 _ e4 h4 => ?_
    walk_at "rd"
    refine r_dnewK fun q5 G5 _ e5 h5 => ?_
    walk_at "rd"
    refine r_newL (sz_le (by simp)) fun q6 G6 _ e6 h6 => ?_
    walk_at "rd"
    refine r_newL (sz_le (by simp)) fun q7 G7 _ e7 h7 => ?_
    have up := e1.trans (e2.trans (e3.trans (e4.trans (e5.trans (e6.trans e7)))))
    have bb := b7.ex up
    refine r_One (H0 := G7) bb h7 (fun _ _ _ z => by cases z) (by simp) (by simp) (by omega) fun v1 G8 hv g8 b8 => ?_
    have o1 : OdR G7 v1 := by
      simp only [List.mem_cons, List.mem_nil_iff, or_false] at hv
      rcases hv with rfl | rfl | rfl | rfl | rfl | rfl | rfl | rfl
      · exact .inl rfl
      · exact .inr (.inl rfl)
      · exact .inr (.inr (.inl rfl))
      · exact .inr (.inr (.inr (.inl ⟨_, rfl, e7 _ _ (e6 _ _ (e5 _ _ (e4 _ _ (e3 _ _ (e2 _ _ h1)))))⟩)))
      · exact .inr (.inr (.inr (.inr (.inl ⟨_, rfl, e7 _ _ (e6 _ _ (e5 _ _ (e4 _ _ (e3 _ _ h2))))⟩))))
      · exact .inr (.inr (.inr (.inr (.inr (.inl ⟨_, _, rfl, e7 _ _ (e6 _ _ (e5 _ _ h4)), e7 _ _ (e6 _ _ (e5 _ _ (e4 _ _ h3)))⟩)))))
      · exact .inr (.inr (.inr (.inr (.inr (.inr (.inl ⟨_, rfl, e7 _ _ (e6 _ _ h5)⟩))))))
      · exact .inr (.inr (.inr (.inr (.inr (.inr (.inr ⟨_, rfl, e7 _ _ h6⟩))))))
    have o8 := o1.to (Keeps.bg g8 bb)
    walk_at "rd"
    refine r_pow (p10 20 (by decide)) pow1020 ?_
    walk_at "rd"
    refine r_newL (sz_le (by simp)) fun q9 G9 _ e9 h9 => ?_
    walk_at "rd"
    refine r_newL (sz_le (by simp)) fun q10 G10 _ e10 h10 => ?_
    have b10 := b8.ex (e9.trans e10)
    refine r_One (H0 := G10) b10 h10 (fun _ _ _ z => by cases z) (by simp) (by simp) (by omega) fun v2 G11 hv g11 b11 => ?_
    have o2 : OdN G10 v2 := by
      simp only [List.mem_cons, List.mem_nil_iff, or_false] at hv
      rcases hv with rfl | rfl | rfl | rfl | rfl | rfl
      · exact .inl rfl
      · exact .inr (.inl rfl)
      · exact .inr (.inr (.inl rfl))
      · exact .inr (.inr (.inr (.inl rfl)))
      · exact .inr (.inr (.inr (.inr (.inl rfl))))
      · exact .inr (.inr (.inr (.inr (.inr ⟨_, rfl, e10 _ _ h9⟩))))
    walk_at "rd"
    refine r_newT (sz_le (by simp)) fun t G12 _ e12 h12 => ?_
    refine r_gTup h12 rfl (r_gCons (r_gName (r_gCons (r_gName (r_gNil ?_)))))
    exact hN _ _ ⟨v1, v2, rfl, (Bg.of up).trans (g8.trans ((Bg.of (e9.trans e10)).trans (g11.trans (Bg.of e12)))), (b11.ex e12).le (by omega), ((o8.to (Keeps.ex (e9.trans e10))).to (Keeps.bg g11 b10)).to (Keeps.ex e12), (o2.to (Keeps.bg g11 b10)).to (Keeps.ex e12)⟩
  rintro σ' H9 ⟨v1, v2, rfl, g9, b9, od1, od2⟩
  have tb9 := tabs_bg tb7 g9 b7
  walk_at "rd"
  refine r_lam tb9 fun G1 e1 t1 => fun Qn => ?_
  have oa := od1.to (Keeps.en e1)
  have ob := od2.to (Keeps.en e1)
  walk_at "rd"
  refine .inr ⟨oa.bad, fun d1 G2 e2 hd1 => ⟨_, d1, rfl, rfl, hd1, fun G3 e3 => ?_⟩⟩
  walk_at "rd"
  refine r_newL (sz_le (by simp)) fun q4 G4 _ e4 h4 => ?_
  have t4 := t1.ext (e2.trans (e3.trans e4))
  have ob4 := ob.to (Keeps.ex (e2.trans (e3.trans e4)))
  walk_at "rd"
  refine r_bm ?_
  walk_at "rd"
  refine ⟨tyL h4, ?_⟩
  walk_at "rd"
  refine r_lam t4 fun G5 e5 t5 => fun Qn2 => ?_
  have ob5 := ob4.to (Keeps.en e5)
  have h5 := e5 _ _ h4 (fun _ z => by cases z)
  walk_at "rd"
  have ob6 := ob5.bad (K := K)
  refine ⟨ob6.1, .inr ⟨ob6.2, fun d2 G6 e6 hd2 => ⟨_, d2, rfl, rfl, hd2, fun G7 e7 => ?_⟩⟩⟩
  have h7 := e7 _ _ (e6 _ _ h5)
  walk_at "rd"
  refine r_app h7 (by simp) ?_
  have t7 : Tabs (lamT K) (upd G7 q4 (.lst ([.str "values"] ++ [.str "number"]))) := tabs_upd ((t5.ext e6).ext e7) h7
  have b7' : Bag (upd G7 q4 (.lst ([.str "values"] ++ [.str "number"]))) p (n + 14) := Bag.updS (((Bag.extN ((((Bag.extN b9 e1).ex e2).ex e3).ex e4) e5).ex e6).ex e7) h7
  have h8 : (upd G7 q4 (.lst ([.str "values"] ++ [.str "number"]))) q4 = some (.lst [.str "values", .str "number"]) := upd_same
  generalize upd G7 q4 (.lst ([.str "values"] ++ [.str "number"])) = G8 at t7 b7' h8 ⊢
  walk_at "rd"
  refine r_newL (sz_le (by simp)) fun q9 G9 _ e9 h9 => ?_
  refine ⟨_, _, .lst (SqL.of (e9 _ _ h8)) (.cons (.str _) (.cons (.str _) .nil)), .lst (SqL.of h9) (.cons (.str _) (.cons (.str _) .nil)), by decide +kernel, by decide +kernel, ?_⟩
  have e : PyData.eqv (.list [.str "values", .str "number"]) (.list [.str "values", .str "number"]) = true := by decide +kernel
  rw [e]
  exact k _ ((b7'.ex e9).le (by omega)) (t7.ext e9)

end K00
namespace K00
open PySem PySem.Spec PyProof.Rows L2 GS TL LamX
local macro_rules | `(tactic| walk_at "rd") => `(tactic| (repeat (first
  | with_reducible refine r_next ?_
  | with_reducible refine r_seq ?_
  | with_reducible refine r_ret ?_
  | with_reducible refine r_ifS ?_
  | with_reducible refine r_asg ?_
  | with_reducible refine r_drop ?_
  | with_reducible refine r_op ?_
  | with_reducible refine r_un ?_
  | with_reducible refine r_cbInt ?_
  | with_reducible refine r_cbAbs ?_
  | with_reducible refine r_cbLen ?_
  | with_reducible refine r_cbList ?_
  | with_reducible refine r_cbTup ?_
  | with_reducible refine r_iEnT ?_
  | with_reducible refine r_iEnL ?_
  | with_reducible refine r_zipA ?_
  | with_reducible refine r_zipX ?_
  | with_reducible refine r_augS ?_
  | with_reducible refine r_cb ?_
  | with_reducible refine r_call ?_
  | with_reducible refine r_make ?_
  | with_reducible refine r_callN0 ?_
  | with_reducible refine r_makeK0 ?_
  | with_reducible refine r_makeS ?_
  | with_reducible refine r_callS ?_
  | with_reducible refine r_cons ?_
  | with_reducible refine r_nil ?_
  | with_reducible refine r_test ?_
  | with_reducible refine r_B ?_
  | with_reducible refine r_and ?_
  | with_reducible refine r_or ?_
  | with_reducible refine r_not ?_
  | with_reducible refine r_andV ?_
  | with_reducible refine r_orV ?_
  | with_reducible refine r_notV ?_
  | with_reducible refine r_if ?_
  | with_reducible refine r_tup ?_
  | with_reducible refine r_lst ?_
  | with_reducible refine r_c ?_
  | with_reducible refine r_lc ?_
  | with_reducible refine r_chain ?_
  | with_reducible refine r_iT ?_
  | with_reducible refine r_iL ?_
  | with_reducible refine r_iR1 ?_
  | with_reducible refine r_iR2 ?_
  | with_reducible refine r_iR3 ?_
  | with_reducible refine r_asgG ?_
  | with_reducible refine r_gSub ?_
  | with_reducible refine r_for ?_
  | with_reducible refine r_smeth ?_
  | with_reducible refine r_par ?_
  | with_reducible refine r_parK ?_
  | with_reducible refine r_gCons ?_
  | with_reducible refine r_gNil ?_
  | with_reducible refine r_gName ?_
  | with_reducible refine r_intI ?_
  | with_reducible refine r_intB ?_
  | with_reducible refine r_absI ?_
  | with_reducible refine r_k ?_
  | with_reducible refine r_kV ?_
  | ((with_reducible show tVar _ _ _ _); refine r_var3 ?_ (by rfl))
  | with_reducible refine r_I0 ?_
  | with_reducible refine r_U ?_
  | with_reducible refine r_eqI ?_
  | with_reducible refine r_neI ?_
  | with_reducible refine r_F ?_
  | dsimp only)))
local macro_rules | `(tactic| walk_at "rx") => `(tactic| (repeat (first
  | with_reducible refine r_next ?_
  | with_reducible refine r_ret ?_
  | with_reducible refine r_ifS ?_
  | with_reducible refine r_asg ?_
  | with_reducible refine r_drop ?_
  | with_reducible refine r_op ?_
  | with_reducible refine r_un ?_
  | with_reducible refine r_cbInt ?_
  | with_reducible refine r_cbAbs ?_
  | with_reducible refine r_cbLen ?_
  | with_reducible refine r_cbList ?_
  | with_reducible refine r_cbTup ?_
  | with_reducible refine r_iEnT ?_
  | with_reducible refine r_iEnL ?_
  | with_reducible refine r_zipA ?_
  | with_reducible refine r_zipX ?_
  | with_reducible refine r_augS ?_
  | with_reducible refine r_cb ?_
  | with_reducible refine r_call ?_
  | with_reducible refine r_make ?_
  | with_reducible refine r_callN0 ?_
  | with_reducible refine r_makeK0 ?_
  | with_reducible refine r_makeS ?_
  | with_reducible refine r_callS ?_
  | with_reducible refine r_cons ?_
  | with_reducible refine r_nil ?_
  | with_reducible refine r_test ?_
  | with_reducible refine r_B ?_
  | with_reducible refine r_and ?_
  | with_reducible refine r_or ?_
  | with_reducible refine r_not ?_
  | with_reducible refine r_andV ?_
  | with_reducible refine r_orV ?_
  | with_reducible refine r_notV ?_
  | with_reducible refine r_if ?_
  | with_reducible refine r_tup ?_
  | with_reducible refine r_lst ?_
  | with_reducible refine r_c ?_
  | with_reducible refine r_lc ?_
  | with_reducible refine r_chain ?_
  | with_reducible refine r_iT ?_
  | with_reducible refine r_iL ?_
  | with_reducible refine r_iR1 ?_
  | with_reducible refine r_iR2 ?_
  | with_reducible refine r_iR3 ?_
  | with_reducible refine r_asgG ?_
  | with_reducible refine r_gSub ?_
  | with_reducible refine r_for ?_
  | with_reducible refine r_smeth ?_
  | with_reducible refine r_par ?_
  | with_reducible refine r_parK ?_
  | with_reducible refine r_gCons ?_
  | with_reducible refine r_gNil ?_
  | with_reducible refine r_gName ?_
  | with_reducible refine r_intI ?_
  | with_reducible refine r_intB ?_
  | with_reducible refine r_absI ?_
  | with_reducible refine r_k ?_
  | with_reducible refine r_kV ?_
  | ((with_reducible show tVar _ _ _ _); refine r_var3 ?_ (by rfl))
  | with_reducible refine r_I0 ?_
  | with_reducible refine r_U ?_
  | with_reducible refine r_eqI ?_
  | with_reducible refine r_neI ?_
  | with_reducible refine r_F ?_
  | dsimp only)))
structure LI (K : PySem.W.Frag) (b : Addr) (n : Int) (H : Hp) : Prop where
  bag : Bag H b n
  tabs : Tabs (lamT K) H
theorem LI.bg {K : PySem.W.Frag} {b : Addr} {n m : Int} {H H' : Hp} (h : LI K b n H) (g : Bg b H H') (hb : Bag H' b m) : LI K b m H' := ⟨hb, tabs_bg h.tabs g h.bag⟩
theorem LI.ext {K : PySem.W.Frag} {b : Addr} {n : Int} {H H' : Hp} (h : LI K b n H) (e : Ex H H') : LI K b n H' := ⟨h.bag.ex e, h.tabs.ext e⟩
theorem LI.le {K : PySem.W.Frag} {b : Addr} {n m : Int} {H : Hp} (h : LI K b n H) (e : n ≤ m) : LI K b m H := ⟨h.bag.le e, h.tabs⟩
def spLaw (K : PySem.W.Frag) : Sp := sp1 fun v H Q _ => ∃ (L : Addr) (xs : List Int), v = .ref L ∧ SqL K H L (xs.map V.int) ∧ (∀ x ∈ xs, Z 2000000 x) ∧ Tabs (lamT K) H ∧ ∀ H', Q (.bl true) H'
theorem ok_law {P : Program} {w : World} {K : PySem.W.Frag} {mg : Str → Option Value} {base : Heap} {fd : FuncData} (T : Txt K mg) (F : FunD K "law" "law" (defArgs s_law) (defBody s_law) (defScope s_law) [] [] (He.ga K "law") fd) (tb__law_roots_right : TabB base mg (He.cT K ("_law_roots_right", none)).1 (He.cT K ("_law_roots_right", none)).2) : FnG P w K mg base (L2.CX P w) 11 (He.ga K "law") fd ["script"] (spLaw K) := by
  obtain ⟨fd__law_roots_right, F__law_roots_right, B__law_roots_right⟩ := ok__law_roots_right (P := P) (w := w) (base := base) T tb__law_roots_right
  obtain ⟨fd__law_names_right, F__law_names_right, B__law_names_right⟩ := ok__law_names_right (P := P) (w := w) (base := base) T
  obtain ⟨fd__law_integers_right, F__law_integers_right, B__law_integers_right⟩ := ok__law_integers_right (P := P) (w := w) (base := base) T
  obtain ⟨fd__law_values_right, F__law_values_right, B__law_values_right⟩ := ok__law_values_right (P := P) (w := w) (base := base) T
  obtain ⟨fd__law_parts_right, F__law_parts_right, B__law_parts_right⟩ := ok__law_parts_right (P := P) (w := w) (base := base) T
  obtain ⟨fd__law_any, F__law_any, B__law_any⟩ := ok__law_any (P := P) (w := w) (base := base) T
  obtain ⟨fd__law_ark, F__law_ark, B__law_ark⟩ := ok__law_ark (P := P) (w := w) (base := base) T
  refine okG F sc_law sp1_len (fun cdv A outer s H vs Q E quiet hr h => ?_)
  have hr__law_roots_right : Room 10 _ := hr.mono (by decide)
  have hr__law_names_right : Room 3 _ := hr.mono (by decide)
  have hr__law_integers_right : Room 3 _ := hr.mono (by decide)
  have hr__law_values_right : Room 3 _ := hr.mono (by decide)
  have hr__law_parts_right : Room 3 _ := hr.mono (by decide)
  have hr__law_any : Room 3 _ := hr.mono (by decide)
  have hr__law_ark : Room 1 _ := hr.mono (by decide)
  obtain ⟨v0, rfl, L, xs, rfl, hL, hz, tabs0, k⟩ := sp1_is h
  refine ⟨_, (pss_cons (ps_set (i := 1) sc_law.nd rfl (Or.inl rfl) (pe_call F__law_ark hr__law_ark (by rfl) T.g__law_ark T.k__law_ark B__law_ark .nil passL (pa_cons (pv 0) pa_nil)))
      (pss_cons (ps_for (passes_of rfl) rfl (pi_range1 (by rfl) T.b_range (pa_cons pe_int pa_nil)) (pg_name (i := 2) sc_law.nd rfl (Or.inl rfl)) (pss_cons (ps_par (i := 3) (j := 4) (by rfl) sc_law.nd rfl rfl (by decide) rfl rfl (pa_cons (pe_call F__law_any hr__law_any (by rfl) T.g__law_any T.k__law_any B__law_any .nil passL (pa_cons (pv 1) pa_nil)) (pa_cons (pe_call F__law_any hr__law_any (by rfl) T.g__law_any T.k__law_any B__law_any .nil passL (pa_cons (pv 1) pa_nil)) pa_nil)) (by rfl))
      (pss_one (ps_if (PW.pt (pw_or (pt_not (pt_val (pe_call F__law_parts_right hr__law_parts_right (by rfl) T.g__law_parts_right T.k__law_parts_right B__law_parts_right .nil passL (pa_cons (pv 3) pa_nil)))) (pw_or1 (pt_not (pt_val (pe_call F__law_values_right hr__law_values_right (by rfl) T.g__law_values_right T.k__law_values_right B__law_values_right .nil passL (pa_cons (pv 3) (pa_cons (pv 4) pa_nil)))))))) (pss_one (ps_ret pe_bl)) pss_nil))))
      (pss_cons (ps_for (passes_of rfl) rfl (pi_range1 (by rfl) T.b_range (pa_cons pe_int pa_nil)) (pg_name (i := 2) sc_law.nd rfl (Or.inl rfl)) (pss_one (ps_if (PW.pt (pw_or (pt_not (pt_val (pe_callG F__law_integers_right quiet hr__law_integers_right (by rfl) T.g__law_integers_right T.k__law_integers_right B__law_integers_right .nil passL (pa_cons (pv 1) pa_nil)))) (pw_or (pt_not (pt_val (pe_call F__law_names_right hr__law_names_right (by rfl) T.g__law_names_right T.k__law_names_right B__law_names_right .nil passL (pa_cons (pv 1) pa_nil)))) (pw_or1 (pt_not (pt_val (pe_callG F__law_roots_right quiet hr__law_roots_right (by rfl) T.g__law_roots_right T.k__law_roots_right B__law_roots_right .nil passL (pa_cons (pv 1) pa_nil)))))))) (pss_one (ps_ret pe_bl)) pss_nil)))
      (pss_one (ps_ret pe_bl))))), ?_⟩
  refine r_seqJ (fun σ' H' => ∃ (b : Addr), σ' = [some (.ref L), some (.ref b), none, none, none] ∧ LI K b 0 H') (fun N hN => ?_) ?_
  · walk_at "rx"
    refine ⟨L, xs, rfl, hL, hz, fun b H1 e1 hb0 hb => ?_⟩
    exact hN _ _ ⟨b, rfl, hb, tabs0.ext e1⟩
  clear tabs0 hL
  rintro σ' H1 ⟨b, rfl, l1⟩
  refine r_seqJ (fun σ' H' => ∃ s2 s3 s4, σ' = [some (.ref L), some (.ref b), s2, s3, s4] ∧ LI K b 6000 H') (fun N hN => ?_) ?_
  · walk_at "rd"
    refine ⟨_, rfl, by decide, by decide, ?_⟩
    refine for_of (walk_range (lo := 0) (n := 2)) (fun i σ H' => ∃ s2 s3 s4, σ = [some (.ref L), some (.ref b), s2, s3, s4] ∧ LI K b (100 * (i : Nat)) H') ⟨_, _, _, rfl, l1.le (by omega)⟩ (fun _ _ _ _ _ => trivial) ?_ ?_
    · rintro i x σ H2 H2' hi ⟨s2, s3, s4, rfl, l2⟩ ⟨rfl, rfl⟩
      refine r_gName ?_
      walk_at "rd"
      refine ⟨b, _, rfl, by omega, l2.bag, fun v1 H3 g3 b3 o3 => ?_⟩
      walk_at "rd"
      refine ⟨b, _, rfl, by omega, b3, fun v2 H4 g4 b4 o4 => ?_⟩
      walk_at "rd"
      have l4 := (l2.bg g3 b3).bg g4 b4
      refine ⟨o3 _ g4, fun H5 e5 => ⟨_, rfl, ite_f rfl ?_⟩⟩
      walk_at "rd"
      have g5 : Bg b H4 H5 := Bg.of e5
      refine ⟨o3 _ (g4.trans g5), o4 _ g5, fun H6 e6 => ⟨_, rfl, ite_f rfl ?_⟩⟩
      walk_at "rd"
      exact ⟨_, _, _, rfl, ((l4.ext e5).ext e6).le (by push_cast; omega)⟩
    · rintro σ H2 ⟨s2, s3, s4, rfl, l2⟩
      exact hN _ _ ⟨_, _, _, rfl, l2.le (by omega)⟩
  clear l1
  rintro σ' H2 ⟨s2, s3, s4, rfl, l2⟩
  walk_at "rd"
  refine ⟨_, rfl, by decide, by decide, ?_⟩
  refine for_of (walk_range (lo := 0) (n := 3)) (fun i σ H' => ∃ s2, σ = [some (.ref L), some (.ref b), s2, s3, s4] ∧ LI K b (6000 + 100 * (i : Nat)) H') ⟨_, rfl, l2.le (by omega)⟩ (fun _ _ _ _ _ => trivial) ?_ ?_
  · rintro i x σ H3 H3' hi ⟨s2, rfl, l3⟩ ⟨rfl, rfl⟩
    refine r_gName ?_
    walk_at "rd"
    refine ⟨b, _, rfl, by omega, l3.bag, fun H4 g4 b4 => ⟨_, rfl, ite_f rfl ?_⟩⟩
    have l4 := l3.bg g4 b4
    walk_at "rd"
    refine ⟨b, _, rfl, by omega, l4.bag, fun H5 g5 b5 => ⟨_, rfl, ite_f rfl ?_⟩⟩
    have l5 := l4.bg g5 b5
    walk_at "rd"
    refine ⟨b, _, rfl, by omega, l5.bag, l5.tabs, fun H6 b6 t6 => ⟨_, rfl, ite_f rfl ?_⟩⟩
    walk_at "rd"
    exact ⟨_, rfl, b6.le (by push_cast; omega), t6⟩
  · rintro σ H3 ⟨s2, rfl, l3⟩
    walk_at "rd"
    exact k _

end K00
set_option maxHeartbeats 0
namespace K00
open PySem PySem.Spec PyProof.Rows L2 GS LamX
theorem law_fact {P : Program} {w : World} {K : PySem.W.Frag} {h : Heap} {mg : Str → Option Value} {f : Addr} (X : K.In h) (G : h.Ns mainGlobals mg) (hf : mg ("law" : Str) = some (.ref f)) (c : SaysM fa_all ex_all fn_all K) :
    ∃ fd : FuncData, (∀ (s : Shared) (u : Value), BindsTo s fd ⟨[u], []⟩ [("script", u)]) ∧ ∀ base : Heap, (∀ p ∈ tfs, TabB base mg (He.cT K p).1 (He.cT K p).2) → FnG P w K mg base (L2.CX P w) 11 f fd ["script"] (spLaw K) := by
  have T := txt_of X G c
  obtain ⟨fd, F⟩ := T.d_law
  have e := hf.symm.trans T.g_law
  cases e
  refine ⟨fd, fun s u => ?_, fun base tb => ok_law T F (tb _ (by simp))⟩
  exact F.bindsA (ps := ["script"]) (fun _ _ _ _ _ _ us hl => match us, hl with | [_], _ => rfl) s [u] rfl
theorem bits_lt (n : Int) : n.natAbs < 2 ^ Builtin.Int.intBits n := by
  unfold Builtin.Int.intBits
  split
  · rename_i h
    have : n = 0 := by simpa using h
    subst this
    decide
  · exact Nat.lt_log2_self
theorem tabs_nil {K : PySem.W.Frag} {H : Hp} (ht : ∀ p ∈ tfs, H (He.cT K p).2 = some (.tbl #[])) : Tabs (lamT K) H := by
  intro p hp
  simp only [lamT, List.mem_cons, List.mem_nil_iff, or_false] at hp
  subst hp
  exact TabS.nil (ht ("_law_roots_right", none) (by simp))
theorem law_sp {K : PySem.W.Frag} {H : Hp} {a : Addr} {ns : List Int} (bits : ∀ z ∈ ns, Builtin.Int.intBits z ≤ 1048576) (ht : ∀ p ∈ tfs, H (He.cT K p).2 = some (.tbl #[])) (hs : SqL K H a (ns.map V.int)) : spLaw K [.ref a] H (fun v _ => v = .bl true) fun _ _ _ => False := by
  refine ⟨a, ns, rfl, hs, fun x hx => ?_, tabs_nil ht, fun _ => rfl⟩
  exact Nat.lt_of_lt_of_le (bits_lt x) (Nat.pow_le_pow_right (by decide) (Nat.le_trans (bits x hx) (by decide)))
end K00
open PySem PySem.W PySem.Calls PyProof.Rows
theorem PySem.Challenge.cw_goodsigns_k00_errors_and_checks_holds : PySem.Challenge.rw_goodsigns_k00_errors_and_checks.Holds := by
  w_on; o_law
  refine HandSHeadRun.head_imp (r := K00.R) (q := view K00.R.prog [0, 49]) (H := K00.hk) (ob := K00.ob) (M := 12000) (loose := K00.loose) (d := HandSHeadRun.topDef K00.R.prog 49) (kwd := []) K00.ob_eq K00.run ?a3 ?a4 ?a5 ?a6 ?a7 ?a8 ?a9 ?hw ?hc
  case a3 => kernel_rfl
  case a4 => kernel_rfl
  case a5 => kernel_rfl
  case a6 => rfl
  case a7 => first | assumption | decide +kernel
  case a8 => decide +kernel
  case a9 => exact ⟨rfl, rfl, rfl, rfl, rfl, by decide +kernel⟩
  case hw => w_witness2
  case hc =>
    refine GS.end_show (l := PySem.Challenge.rw_goodsigns_k00_errors_and_checks) (n := 63) (k := 11) (x := "script") rfl (by decide) (by kernel_rfl) ⟨rfl, by decide, by decide⟩ fun w mg fa h Y G named => ?_
    obtain ⟨K, KX, c⟩ := Y
    have hmg : mg ("law" : PySem.Str) = some (.ref fa) := by
      have e : (HandSHeadRun.topDef K00.R.prog 49).name = ("law" : PySem.Str) := by kernel_rfl
      rw [← e]
      exact named
    obtain ⟨fd, hb, hF⟩ := K00.law_fact (P := (PySem.Challenge.rw_goodsigns_k00_errors_and_checks).prog) (w := w) KX G hmg c.m
    have inm : ∀ p ∈ K00.tfs, He.cT K p ∈ K00.tfs.map (He.cT K) := fun p hp => List.mem_map.mpr ⟨p, hp, rfl⟩
    refine ⟨K, fd, K00.tfs.map (He.cT K), K00.spLaw K, KX, fun p hp => ?_, fun p hp => ?_, fun p hp => ?_, hb, fun H a ns _ bits ht hs => K00.law_sp bits (fun p hp => ht _ (inm p hp)) hs, fun base inK ns' tb => hF base (fun p hp => tb _ (inm p hp))⟩
    · obtain ⟨q, hq, rfl⟩ := List.mem_map.mp hp; exact c.empty _ hq
    · obtain ⟨q, hq, rfl⟩ := List.mem_map.mp hp; exact c.out _ hq
    · obtain ⟨q, hq, rfl⟩ := List.mem_map.mp hp; exact GS.SaysL.code KX c _ hq
