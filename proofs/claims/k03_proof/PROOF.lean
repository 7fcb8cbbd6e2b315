import PyProof.Rows.All
import Wide.All
import OpenK.AllK
import Wide.FinOn
import HandS.ForMost
import HandS.ForExc
import HandS.ExcInit
import HandS.ExcField
import HandS.TryMany
import HandS.IsInst
import HandS.MakeKw
import HandS.OwnEq
import HandS.Wide
import HandS.Defaults
import HandS.ClsMeth
import KE.KCallOwn
import HandS.Head0
import HandS.Head1
import HandS.Head2
import HandS.HeadEnd
import HandS.HeadHook1
import HandS.HeadHook2
import HandS.HeadNt
import HandS.WideBits
import HandS.StrMore
import HandS.Walk
import HandS.MakeKwOnly
import HandS.EndBits
import PySem.Challenge.RW_goodsigns_k03_bounds_by_own_squares
set_option Elab.async false
set_option linter.all false
set_option maxRecDepth 100000
set_option maxHeartbeats 4000000
/-! Own rules: == and != by an own __eq__, str by an own __str__, a staticmethod of a class. -/
namespace GS
open PySem PySem.Spec PyProof.Rows L2
section
variable {X : Cx}
theorem notImpl_no {v : V} (h : RelV v Value.notImplemented) : False := by
  cases v with
  | non => cases (show Value.notImplemented = Value.none from h)
  | bl b => cases (show Value.notImplemented = Value.bool b from h)
  | int i => obtain ⟨t, q⟩ := (show ∃ t, Value.notImplemented = Value.int i t from h); cases q
  | str i => obtain ⟨t, q⟩ := (show ∃ t, Value.notImplemented = Value.str i t from h); cases q
  | byt i => obtain ⟨t, q⟩ := (show ∃ t, Value.notImplemented = Value.bytes i t from h); cases q
  | flt i => obtain ⟨t, q⟩ := (show ∃ t, Value.notImplemented = Value.float i t from h); cases q
  | ref a => cases (show Value.notImplemented = Value.ref a from h)
  | ty n => cases (show Value.notImplemented = Value.type n from h)
/-- what a call of the def gives, from any place below the body -/
theorem run_at {CX : CXT} {k : Nat} {f : Addr} {fd : FuncData} {ps : List Str} {sp : Sp} {E : XK} {pins : List (Addr × Obj)} {σ : L2.St} {H : Hp} {s : Shared} {Q : VK} {us : List Value} {vs : List V} {A : Around}
    (F : FnOk X.prog X.w X.K X.mg X.base CX k f fd ps sp) (hr : Room k A) (hA : A.frames = X.A.frames) (hb : Binds X.K fd ps []) (hx : Passes CX X E) (I : Inv X pins σ H s) (r : Vals vs us) (hsp : sp vs H Q E) :
    wpAny (model X.prog X.w) A (call (.ref f) us) (EP X pins σ Q) X.xe s := by
  have e0 : Env0 X.prog X.w X.K X.mg X.base A X.stack s H := by
    have e := I.env0
    exact ⟨by rw [hA]; exact e.frames, e.mod, e.bs, e.bsz, e.funs, e.frf, e.hok, e.bare⟩
  have hl := F.len _ _ _ _ hsp
  refine wpAny_call (codeAny_mono (F.run A X.stack s H ⟨us, []⟩ us vs _ E hr e0 (by
    have := hb s us I.kIn (by rw [List.append_nil, ← r.length]; exact hl)
    simpa using this) r hsp) fun r s' hq => ?_)
  cases r with
  | error e => exact hx pins σ H s e s' I hq
  | ok fl =>
    cases fl with
    | ret w => exact I.after hq
    | next => exact False.elim hq
    | brk => exact False.elim hq
    | cont => exact False.elim hq
/-- x == y by the own __eq__ of x's class; y of any kind -/
def rEqOwn (K : PySem.W.Frag) (C : Addr) (sp : Sp) (E : XK) : R2 := fun x y H Q => ∃ a dx fs t, x = .ref a ∧ H a = some (.ins C dx fs) ∧ TyX K H y t ∧ PySem.W.notFirst K C t = true ∧ sp [x, y] H Q E
theorem op_eqOwn {CX : CXT} {k : Nat} {C f : Addr} {fd : FuncData} {ps : List Str} {sp : Sp} {E : XK} (F : FnOk X.prog X.w X.K X.mg X.base CX k f fd ps sp) (hr : Room k X.A)
    (hs : PySem.W.findIn X.K (.ref C) "__eq__" = some (some (.ref f))) (hf : PySem.W.isFn X.K (.ref f) = true) (hb : Binds X.K fd ps []) (hx : Passes CX X E) : OpR X (compareOp .Eq) (rEqOwn X.K C sp E) := by
  intro pins s σ H x y v u Q I rx ry hq
  obtain ⟨a, dx, fs, t, rfl, ha, ty, hn, hsp⟩ := hq
  cases rx
  obtain ⟨mA, J, _⟩ := ins_get I.hok ha
  obtain ⟨od, J, _⟩ := J.look
  obtain ⟨m, hF⟩ := I.fr
  obtain ⟨P, Z, p, _⟩ := kit_of I ry ty
  show wpAny (model X.prog X.w) X.A (richCompare .Eq (.ref a) u) (EP X pins σ Q) X.xe s
  refine PySem.W.cmp_K (op := .Eq) (tb := t) hr.units0 hF I.ok.mod.kin J (Z.ty _ _ I.kIn p) hn hs hf ?_
  refine wpAny_mono (run_at F hr rfl hb hx I (.cons (show L2.RelV (V.ref a) (Value.ref a) from rfl) (.cons ry .nil)) hsp) (fun v s' hv => ?_) fun _ _ z => z
  cases v <;> first | exact hv | (obtain ⟨w, _, _, z, _⟩ := hv; exact (notImpl_no z).elim)
open Builtin in
theorem objNe_K {A : Around} {s : Shared} {a C f : Addr} {ox : Obj} {od : Option Obj} {u : Value} {E : Value → Shared → Prop} {Q : Fin → Shared → Prop} (hu : A.units < cLine) (XI : X.K.In s.heap) (J : PySem.W.InstAt s.heap a ox C od)
    (hs : PySem.W.findIn X.K (.ref C) "__eq__" = some (some (.ref f))) (hf : PySem.W.isFn X.K (.ref f) = true)
    (hcall : wpAny (model X.prog X.w) A (call (.ref f) [.ref a, u]) (fun v s' => ∃ b, v = .bool b ∧ Q (.done (.ret (.bool (!b)))) s') E s) :
    wpAny (model X.prog X.w) A (Builtin.«object.__ne__» ⟨[.ref a, u], []⟩) Q E s := by
  unfold Builtin.«object.__ne__»
  repeat (first
    | with_reducible refine wpAny_cRoomFor hu ?_
    | (refine wpAny_bind (m := callSpecialIfBound? (.ref a) (Str.ofString "__eq__") [u])
        (PySem.W.ifBound_K XI J hs hf (wpAny_mono hcall (fun r s' hr => by
          obtain ⟨b, rfl, hq⟩ := hr
          repeat (first | exact hq | exact wpAny_pure hq | exact wpAny_truthy_bool hq | (refine wpAny_bind (m := truthy (.bool _)) (wpAny_truthy_bool ?_)) | wp_step)) fun _ _ e => e)))
    | wp_step)
/-- x != y, the class says nothing of != -/
def rNeOwn (K : PySem.W.Frag) (C : Addr) (sp : Sp) (E : XK) : R2 := fun x y H Q => ∃ a dx fs t, x = .ref a ∧ H a = some (.ins C dx fs) ∧ TyX K H y t ∧ PySem.W.notFirst K C t = true ∧ sp [x, y] H (fun v H' => ∃ b, v = .bl b ∧ Q (.bl (!b)) H') E

theorem ifBound_B {M : Model} {A : Around} {s : Shared} {a C : Addr} {ox : Obj} {od : Option Obj} {name : Str} {id : String} {args : List Value} {E : Value → Shared → Prop} {Q : Option Value → Shared → Prop} (XI : X.K.In s.heap) (J : PySem.W.InstAt s.heap a ox C od)
    (hs : PySem.W.findIn X.K (.ref C) name = some (some (.builtin id))) (S : Slot "object" name id) (h : wpAny M A (call (.builtin id) (.ref a :: args)) (fun v => Q (some v)) E s) : wpAny M A (callSpecialIfBound? (.ref a) name args) Q E s := by
  have last : wpAny M A (call (.builtin id) ([.ref a] ++ args) >>= fun v => pure (some v)) Q E s := wpAny_bind (wpAny_mono h (fun _ _ z => wpAny_pure z) fun _ _ z => z)
  simp only [callSpecialIfBound?, bindSpecialIfBound?]
  refine wpAny_holding (wpAny_bind (wpAny_bind (wpAny_bind (J.type.here ((PySem.W.looks_findIn XI hs).here ?_)))))
  simp only [S.bind]
  refine wpAny_bind (wpAny_askSetting (wpAny_ite ?_))
  split
  · exact wpAny_bind (wpAny_pure (wpAny_pure last))
  · exact wpAny_tryCatch (wpAny_bind (wpAny_pure (wpAny_pure last)))
theorem op_neOwn {CX : CXT} {k : Nat} {C f : Addr} {fd : FuncData} {ps : List Str} {sp : Sp} {E : XK} (F : FnOk X.prog X.w X.K X.mg X.base CX k f fd ps sp) (hr : Room (k + 2) X.A) (hn0 : PySem.W.findIn X.K (.ref C) "__ne__" = some (some (.builtin "object.__ne__"))) (hm : PySem.W.mroIn X.K C (.type "object") = some true)
    (hs : PySem.W.findIn X.K (.ref C) "__eq__" = some (some (.ref f))) (hf : PySem.W.isFn X.K (.ref f) = true) (hb : Binds X.K fd ps []) (hx : Passes CX X E) : OpR X (compareOp .NotEq) (rNeOwn X.K C sp E) := by
  intro pins s σ H x y v u Q I rx ry hq
  obtain ⟨a, dx, fs, t, rfl, ha, ty, hn, hsp⟩ := hq
  cases rx
  obtain ⟨mA, J, _⟩ := ins_get I.hok ha
  obtain ⟨od, J, _⟩ := J.look
  obtain ⟨P, Z, p, _⟩ := kit_of I ry ty
  have LU := Z.ty (model X.prog X.w) _ I.kIn p
  have sub : PySem.W.Looks (model X.prog X.w) s.heap (isInstance (.ref a) (.type "object")) true := J.type.andThen (PySem.W.looks_mroIn I.kIn hm)
  have try1 : wpAny (model X.prog X.w) X.A (tryCompare (.ref a) "__ne__" u) (fun r s' => ∃ v, r = some v ∧ EP X pins σ Q v s') X.xe s := by
    unfold tryCompare
    refine wpAny_bind (ifBound_B I.kIn J hn0 PySem.F.cmp_object.ne (wpAny_call (codeAny_call_builtin PySem.F.cmp_object.ne.plain PySem.F.cmpEntry_ne
      (PySem.W.check_slot PySem.F.cmpKind_ne PySem.F.cmpSplit_ne sub (PySem.F.cmpArgs_ne _ _) ?_))))
    refine objNe_K (A := X.A.in1) hr.in1.units0 I.kIn J hs hf ?_
    refine wpAny_mono (run_at F (hr.in1.mono (by omega)) rfl hb hx I (.cons (show L2.RelV (V.ref a) (Value.ref a) from rfl) (.cons ry .nil)) hsp) (fun v s' hv => ?_) fun _ _ z => z
    obtain ⟨z, H', I', rz, b, rfl, q⟩ := hv
    have ev : v = .bool b := rz
    have fin : EP X pins σ Q (.bool (!b)) s' := ⟨.bl (!b), H', I', rfl, q⟩
    refine ⟨b, ev, ?_⟩
    first
      | exact wpAny_pure ⟨_, rfl, fin⟩
      | exact ⟨_, wpAny_pure ⟨_, rfl, fin⟩⟩
      | (show _ ∧ _; exact ⟨by simp, wpAny_pure ⟨_, rfl, fin⟩⟩)
  show wpAny (model X.prog X.w) X.A (richCompare .NotEq (.ref a) u) (EP X pins σ Q) X.xe s
  unfold richCompare
  simp only [oneThing_ref]
  refine wpAny_holding (wpAny_bind (wpAny_cRoomFor hr.units0 (wpAny_bind (J.type.here (wpAny_bind (LU.here ?_))))))
  have fin : ∀ r s', (∃ v, r = some v ∧ EP X pins σ Q v s') → wpAny (model X.prog X.w) X.A (match r with | some v => pure v | none => richCompare .NotEq (.ref a) u) (EP X pins σ Q) X.xe s' := fun r s' ⟨v, e, z⟩ => by subst e; exact wpAny_pure z
  split
  · rename_i q
    have e : PySem.W.subIn X.K t (.ref C) = some false := by
      cases Bool.or_eq_true_iff.mp hn with
      | inl e => rw [beq_iff_eq.mp e] at q; simp at q
      | inr e => exact beq_iff_eq.mp e
    refine wpAny_bind ((PySem.W.looks_subIn I.kIn e).here ?_)
    simp only [Bool.false_eq_true, if_false]
    refine wpAny_bind (wpAny_mono try1 (fun r s' ⟨v, e, z⟩ => ?_) fun _ _ z => z)
    subst e
    exact wpAny_pure z
  · refine wpAny_bind (wpAny_pure ?_)
    simp only [Bool.false_eq_true, if_false]
    refine wpAny_bind (wpAny_mono try1 (fun r s' ⟨v, e, z⟩ => ?_) fun _ _ z => z)
    subst e
    exact wpAny_pure z
/-- str(x) by an own __str__ -/
def rStrOwn (C : Addr) (sp : Sp) (E : XK) : List V → Hp → VK → Prop := fun xs H Q => ∃ a dx fs, xs = [.ref a] ∧ H a = some (.ins C dx fs) ∧ sp xs H (fun v H' => (∃ z, v = .str z) ∧ Q v H') E
theorem call_strOwn {CX : CXT} {k : Nat} {C f : Addr} {fd : FuncData} {ps : List Str} {sp : Sp} {E : XK} (F : FnOk X.prog X.w X.K X.mg X.base CX k f fd ps sp) (hr : Room (k + 2) X.A)
    (hs : PySem.W.findIn X.K (.ref C) "__str__" = some (some (.ref f))) (hf : PySem.W.isFn X.K (.ref f) = true) (hb : Binds X.K fd ps []) (hx : Passes CX X E) : CallR X (.type "str") (rStrOwn C sp E) := by
  intro pins s σ H xs us Q I r hq
  obtain ⟨a, dx, fs, rfl, ha, hsp⟩ := hq
  obtain ⟨u, rfl, ru⟩ := vals1 r
  cases ru
  obtain ⟨mA, J, _⟩ := ins_get I.hok ha
  obtain ⟨od, J, _⟩ := J.look
  refine PySem.W.kso_call hr.in1.in1.units0 I.kIn J hs hf ?_
  refine wpAny_mono (run_at F hr.in1.in1 rfl hb hx I r hsp) (fun v s' hv => ?_) fun _ _ z => z
  obtain ⟨w, H', I', rw', ⟨z, rfl⟩, q⟩ := hv
  obtain ⟨tk, e⟩ := rw'
  subst e
  exact ⟨.str z, H', I', ⟨tk, rfl⟩, q⟩
/-! ### a staticmethod of a class -/
structure SMet (K : PySem.W.Frag) (C : Addr) (mc : Value) (m : Str) (p g : Addr) : Prop where
  at_ : PySem.W.findCls K (.ref C) mc m = some (.get (.builtin "staticmethod.__get__") (.ref p) .none (.ref C))
  rc : ∃ rest, PySem.W.recIn K p "staticmethod" = some (.ref g :: rest)
def tSMeth (C : Addr) (sp : Sp) (E : XK) (ta : TE) (t : TA) : TE := fun σ H Q => ta σ H fun x H1 => x = .ref C ∧ t σ H1 fun vs H2 => sp vs H2 Q E
theorem pe_smeth {CX : CXT} {k : Nat} {C p g : Addr} {mc : Value} {fd : FuncData} {ps : List Str} {sp : Sp} {E : XK} {o e : Expr} {es : List Expr} {m : Str} {pos apos : Pos} {ta : TE} {t : TA} {pl : Sem Bool}
    (he : PE X o ta) (r : ClX.CRead X.K C mc) (c : SMet X.K C mc m p g) (F : FnOk X.prog X.w X.K X.mg X.base CX k g fd ps sp) (hk : PySem.W.keepIn X.K (.ref g) = true) (hr : Room k X.A) (hb : Binds X.K fd ps []) (hx : Passes CX X E) (ha : PA X (e :: es) t)
    (hst : starEach (e :: es) X.env = (false, eval e X.env) :: starEach es X.env := by rfl) (hpl : (backTo pos (starEach es X.env)).any (·.1) = false := by rfl)
    (ht : eval (.Call (.Attribute o m apos) (e :: es) [] pos) X.env = (do let ov ← eval o X.env; standAt apos.atName; let (f, first) ← holding [ov] (getMethod ov m pl); callWith pos f first (backTo pos (starEach (e :: es) X.env)) (backToKw pos (keywordEach [] X.env))) := by rfl) :
    PE X (.Call (.Attribute o m apos) (e :: es) [] pos) (tSMeth C sp E ta t) := by
  refine ⟨fun pins s σ H Q I h => PySem.W.methodCall_KW (pl := pl) (thn (he.run pins s σ H _ I h) fun u s1 ⟨x, H1, I1, rx, ex, q⟩ => ?_) ht⟩
  subst ex
  obtain rfl : u = Value.ref C := rx
  obtain ⟨rest, hp⟩ := c.rc
  refine PySem.W.method_cls I1.kIn r.ga (PySem.W.cls_bind I1.kIn r.rd c.at_ (wpAny_call (PySem.W.sm_get (s := { s1 with toks := s1.toks + 1 }) I1.kIn hp (PySem.W.handed_on rfl ?_))))
  have I2 := I1.tok (s1.toks + 1)
  refine PySem.W.callWith_K (h₀ := X.base) I2.ok.mod.kin hk (thn (ha.run pos pins _ σ H1 _ I2 q) fun us s3 ⟨vs, H2, I3, rv, q2⟩ => ⟨I3.kIn, ?_⟩) hst hpl
  exact run_at F hr rfl hb hx I3 rv q2
end
end GS
/-! Own rule: several except clauses, each with or without «as n». -/
namespace GS
open PySem PySem.Spec PyProof.Rows L2
abbrev Cl := Value × Option Nat × (Addr → Value → Option Addr → TS)
/-- the ends and the slots of a suite whose error's name has slot i -/
def asEnds (i : Nat) (D : Ends) : Ends := { nx := fun σ' H' => D.nx (σ'.set i none) H', rt := D.rt, bk := fun σ' H' => D.bk (σ'.set i none) H', ct := fun σ' H' => D.ct (σ'.set i none) H' }
def wCl (D : Ends) (q : Cl) (a : Addr) (cls : Value) (d : Option Addr) (σ : L2.St) (H : Hp) : Prop := match q.2.1 with
  | none => q.2.2 a cls d D σ H
  | some i => q.2.2 a cls d (asEnds i D) (σ.set i (some (.ref a))) H
def wCls (K : PySem.W.Frag) (Wout : WX) (D : Ends) : List Cl → WX
  | [] => Wout
  | q :: r => fun cls d σ H => ∃ b, PySem.W.exmOne K cls q.1 = some b ∧ (b = true → ∀ a, H a = none → wCl D q a cls d σ H) ∧ (b = false → wCls K Wout D r cls d σ H)
/-- one clause is as it is told -/
inductive ClOk (X : Cx) : ExceptHandler → Cl → Prop
  | bare {x : Str} {c : Value} {ts : Addr → Value → Option Addr → TS} {st : Stmt} {sts : List Stmt} {np pos' : Pos} (hc : Names X x c)
      (su : ∀ (a : Addr) (oe : Obj) (cls : Value) (d : Option Addr) (pn : List (Addr × Obj)), Zc cls d oe → (∃ vs, oe.data = .fields vs) → PSs (X.suite a ((a, oe) :: pn)) (st :: sts) (ts a cls d)) :
      ClOk X (.ExceptHandler (some (.Name x np)) none (st :: sts) pos') (c, none, ts)
  | as {x n : Str} {c : Value} {ts : Addr → Value → Option Addr → TS} {st : Stmt} {sts : List Stmt} {np pos' : Pos} {i : Nat} (hc : Names X x c) (hN : X.N.Nodup) (hi : X.N[i]? = some n) (hln : X.env.kindOf n = some .local)
      (su : ∀ (a : Addr) (oe : Obj) (cls : Value) (d : Option Addr) (pn : List (Addr × Obj)), Zc cls d oe → (∃ vs, oe.data = .fields vs) → PSs (X.suite a ((a, oe) :: pn)) (st :: sts) (ts a cls d)) :
      ClOk X (.ExceptHandler (some (.Name x np)) (some n) (st :: sts) pos') (c, some i, ts)
inductive ClsOk (X : Cx) : List ExceptHandler → List Cl → Prop
  | nil : ClsOk X [] []
  | cons {h : ExceptHandler} {q : Cl} {hs : List ExceptHandler} {qs : List Cl} (o : ClOk X h q) (r : ClsOk X hs qs) : ClsOk X (h :: hs) (q :: qs)

/-- the frame holds the error at a; sI: the body's last state -/
structure Caught (X : Cx) (pins : List (Addr × Obj)) (σ : L2.St) (H : Hp) (a : Addr) (B : Heap) (cls : Value) (d : Option Addr) (sI s : Shared) : Prop where
  inv : Inv X pins σ H sI
  nb : ∀ (b : Addr) (o : Obj), sI.heap.get? b = some o → ¬b ∈ frs X.stack → B.get? b = some o
  up : sI.heap.UpToSlots s.heap
  na : H a = none
  os : s.os = sI.os
  ag : AllBare s.gens
  fl : PySem.HandSPX.FlyingZ B (X.env :: X.outer) a (Zc cls d) s.heap
section
variable {X : Cx} {pins : List (Addr × Obj)} {σ : L2.St} {H : Hp} {s sI : Shared} {a : Addr} {B : Heap} {cls : Value} {d : Option Addr} {D : Ends} {Wout : WX}
theorem Caught.here (c : Caught X pins σ H a B cls d sI s) : Inv X pins σ H s := c.inv.landed c.nb c.fl.1 c.up c.os c.ag
theorem Caught.off (c : Caught X pins σ H a B cls d sI s) (hf : X.env.frame = some X.env.locals) : a ≠ X.env.locals ∧ ¬ a ∈ X.fs := by
  obtain ⟨oe, vs, e1, _, e3⟩ := c.fl.there
  have none_of : ∀ b, b ∈ frs (X.env :: X.outer) → b ≠ a := fun b hb z => by
    obtain ⟨_, o, ho, hnf⟩ := c.fl.2.2.1.mem hb
    rw [z, e1] at ho
    exact hnf vs (by rw [← Option.some.inj ho]; exact e3)
  refine ⟨fun z => none_of a ?_ rfl, fun z => none_of a ?_ rfl⟩
  · rw [z]; exact List.mem_filterMap.mpr ⟨X.env, List.mem_cons_self, hf⟩
  · obtain ⟨e, he, q⟩ := List.mem_filterMap.mp z
    exact List.mem_filterMap.mpr ⟨e, List.mem_cons_of_mem _ he, q⟩
/-- it flies again -/
theorem Caught.again {M : Model} {A : Around} {E : Value → Shared → Prop} {Q : Unit → Shared → Prop} (c : Caught X pins σ H a B cls d sI s) (k : ∀ s', Caught X pins σ H a B cls d sI s' → Q () s') : wpAny M A (setFlight (.ref a) none) Q E s :=
  PySem.HandSPX.lands_againZ c.fl fun h' f u => k _ ⟨c.inv, c.nb, c.up.trans u, c.na, c.os, c.ag, f⟩
/-- a suite, from what its reading says, to the ends -/
theorem Caught.suite {M : Model} (c : Caught X pins σ H a B cls d sI s) (hf : X.env.frame = some X.env.locals) : ∃ oe, Zc cls d oe ∧ (∃ vs, oe.data = .fields vs) ∧ Inv (X.suite a ((a, oe) :: (X.pn ++ pins))) [] σ H s := by
  obtain ⟨oe, vs, e1, e2, e3⟩ := c.fl.there
  obtain ⟨n1, n2⟩ := c.off hf
  exact ⟨oe, e2, ⟨vs, e3⟩, c.here.suite e1 e3 c.na n1 n2⟩
/-- the class named in a clause, evaluated -/
theorem names_eval {x : Str} {c0 : Value} {np : Pos} {Q : Value → Shared → Prop} {E : Value → Shared → Prop} (c : Caught X pins σ H a B cls d sI s) (hf : X.env.frame = some X.env.locals) (hc : Names X x c0) (q : Q c0 s) :
    wpAny (model X.prog X.w) (X.A.mark (some (.ref a))) (eval (.Name x np) X.env) Q E s := by
  obtain ⟨oe, _, _, S⟩ := c.suite (M := model X.prog X.w) hf
  obtain ⟨hg, hdb, hh⟩ := hc
  cases hh with
  | inl hm => exact ld_glob (X := X.suite a ((a, oe) :: (X.pn ++ pins))) S hg hm q hdb
  | inr hm => exact ld_blt (X := X.suite a ((a, oe) :: (X.pn ++ pins))) S hg hm.1 hm.2.1 q hm.2.2 hdb
theorem clauses {hs : List ExceptHandler} {qs : List Cl} (k : ClsOk X hs qs) (hst : X.stack = X.env :: X.outer) (hf : X.env.frame = some X.env.locals) (tk : Takes X Wout) :
    ∀ {s : Shared}, Caught X pins σ H a B cls d sI s → wCls X.K Wout D qs cls d σ H → wpAny (model X.prog X.w) X.A (handleBy (.ref a) X.env hs) (SP X pins D) X.xe s := by
  induction k with
  | nil =>
    intro s c w
    refine wpAny_handleBy_nil ?_
    obtain ⟨k1, k2, k3, oe, vs, T, oT, ts', he, hz, hd, h1, hr⟩ := id c.fl
    have out : wpAny (model X.prog X.w) X.A (setFlight (.ref a) X.env.frame) (fun _ s4 => wpAny (model X.prog X.w) X.A (throw (.ref a) : Sem Flow) (SP X pins D) X.xe s4) X.xe s := by
      rw [hf]
      exact PySem.HandSPX.setFlight_upZ c.fl fun h4 hh4 up4 => wpAny_throw (tk _ _ ⟨a, B, sI, pins, σ, H, cls, d, rfl, c.inv, c.nb, c.up.trans up4, .inr (.inr (by rw [hst]; exact hh4)), c.na, c.os, c.ag, w⟩)
    unfold PySem.passOn
    refine wpAny_bind (wpAny_field he hd h1 ?_)
    rw [if_neg (show ¬ ((Value.ref T == Value.none) = true) from by simp)]
    first
      | exact wpAny_bind (wpAny_pure (wpAny_bind out))
      | exact wpAny_bind out
  | @cons h q hs qs o r ih =>
    intro s c w
    obtain ⟨b, hb1, hyes, hno⟩ := w
    obtain ⟨oe0, vs0, e01, e02, e03⟩ := c.fl.there
    have LT : PySem.W.Looks (model X.prog X.w) s.heap (typeOf (.ref a)) cls := fun A Q E s' kk z => wpAny_typeOf_ref (kk _ _ e01) (by rw [e02.1]; exact z)
    have LM := PySem.W.exm_one (M := model X.prog X.w) c.here.kIn LT hb1
    cases o with
    | bare hc su =>
      refine wpAny_handleBy_cons (codeAny_handlers_test ?_) (by intro q; cases q)
      refine names_eval c hf hc (LM.here ?_)
      cases b with
      | false => exact ih c (hno rfl)
      | true =>
        refine codeAny_handlers_suite (c.again fun s4 c4 => ?_)
        obtain ⟨oe, z1, z2, S⟩ := c4.suite (M := model X.prog X.w) hf
        have ok := c4.here.ok
        refine wpAny_mono ((su a oe cls d (X.pn ++ pins) z1 z2).run [] _ _ H _ S (hyes rfl a c.na)) (fun f s6 hsp => ?_) (fun _ _ z => False.elim z)
        cases f with
        | next => exact let ⟨σ6, H6, S6, q6⟩ := hsp; ⟨_, _, S6.unsuite ok, q6⟩
        | brk => exact let ⟨σ6, H6, S6, q6⟩ := hsp; ⟨_, _, S6.unsuite ok, q6⟩
        | cont => exact let ⟨σ6, H6, S6, q6⟩ := hsp; ⟨_, _, S6.unsuite ok, q6⟩
        | ret u => exact let ⟨v6, σ6, H6, S6, r6, q6⟩ := hsp; ⟨_, _, _, S6.unsuite ok, r6, q6⟩
    | @as x n c0 ts st sts np pos' i hc hN hi hln su =>
      refine wpAny_handleBy_cons (codeAny_handlers_test ?_) (by intro q; cases q)
      refine names_eval c hf hc (LM.here ?_)
      cases b with
      | false => exact ih c (hno rfl)
      | true =>
        refine codeAny_handlers_suite_as (c.again fun s4 c4 => ?_)
        obtain ⟨oe, z1, z2, S⟩ := c4.suite (M := model X.prog X.w) hf
        have ok := c4.here.ok
        refine store_ok (X := X.suite a ((a, oe) :: (X.pn ++ pins))) (v := .ref a) S hN hi (.inl hln) rfl (fun s5 S5 => ?_) (.inr hln)
        refine wpAny_mono ((su a oe cls d (X.pn ++ pins) z1 z2).run [] s5 _ H (asEnds i D) S5 (hyes rfl a c.na)) (fun f s6 hsp => ?_) (fun _ _ z => False.elim z)
        cases f with
        | next => exact let ⟨σ6, H6, S6, q6⟩ := hsp; gone_ok (S6.unsuite ok) hN hi hln fun s7 J7 => ⟨_, _, J7, q6⟩
        | brk => exact let ⟨σ6, H6, S6, q6⟩ := hsp; gone_ok (S6.unsuite ok) hN hi hln fun s7 J7 => ⟨_, _, J7, q6⟩
        | cont => exact let ⟨σ6, H6, S6, q6⟩ := hsp; gone_ok (S6.unsuite ok) hN hi hln fun s7 J7 => ⟨_, _, J7, q6⟩
        | ret u => exact let ⟨v6, σ6, H6, S6, r6, q6⟩ := hsp; gone_ok (S6.unsuite ok) hN hi hln fun s7 J7 => ⟨_, _, _, J7, r6, q6⟩
/-- THE RULE: try .. except A as x: .. except B: .. -/
theorem ps_try_cls {body : List Stmt} {h₀ : ExceptHandler} {hds : List ExceptHandler} {qs : List Cl} {pos : Pos} {tb : WX → TS} (hst : X.stack = X.env :: X.outer) (hf : X.env.frame = some X.env.locals) (tk : Takes X Wout)
    (hb : ∀ (W : WX) (pn : List (Addr × Obj)) (xe : Value → Shared → Prop), Takes (X.tr pn xe) W → PassesOwn (model X.prog X.w) X.A X.env xe → PSs (X.tr pn xe) body (tb W)) (hh : ClsOk X (h₀ :: hds) qs) :
    PS X (.Try body (h₀ :: hds) [] [] pos) (fun D σ H => tb (wCls X.K Wout D qs) D σ H) := by
  refine ⟨fun pins s σ H D I h => wpAny_Try_except ?_⟩
  have ok := I.ok
  have fr : X.A.frames = some (X.env :: X.outer) := by rw [ok.frames, hst]
  have B0 := hb (wCls X.K Wout D qs) (X.pn ++ pins) (fun e s₁ => wpAny (model X.prog X.w) X.A (noteFrame e X.env) (fun _ s₂ => wpAny (model X.prog X.w) X.A (setFlight e none) (fun _ s₃ => wpAny (model X.prog X.w) X.A (handleBy e X.env (h₀ :: hds)) (SP X pins D) X.xe s₃) X.xe s₂) X.xe s₁)
    (fun u s' xx => by
      obtain ⟨a, B, sI, pins', σ', H', cls, d, rfl, J', nb, up, sky, na, os, ag, w⟩ := xx
      refine Sky.land Zc.steady fr hf (show Sky B (X.env :: X.outer) a (Zc cls d) X.env.locals s'.heap by rw [← hst]; exact sky) fun h3 fl3 up3 => ?_
      exact clauses hh hst hf tk ⟨J'.ofTry ok, nb, up.trans up3, na, os, ag, fl3⟩ w) PassesOwn.looking
  refine wpAny_mono (B0.run [] s σ H D (I.toTry _) h) (fun f s1 hsp => ?_) (fun _ _ z => z)
  cases f with
  | next => exact let ⟨σ', H', J', q⟩ := hsp; wpAny_execs_nil ⟨σ', H', J'.ofTry ok, q⟩
  | brk => exact let ⟨σ', H', J', q⟩ := hsp; ⟨σ', H', J'.ofTry ok, q⟩
  | cont => exact let ⟨σ', H', J', q⟩ := hsp; ⟨σ', H', J'.ofTry ok, q⟩
  | ret u => exact let ⟨v, σ', H', J', r, q⟩ := hsp; ⟨v, σ', H', J'.ofTry ok, r, q⟩
end
end GS
/-! What the head tells: a list of Bools of the written part, and the defs. -/
namespace GS
open PySem PySem.W PySem.Calls PyProof.Rows He
abbrev Chk := PySem.W.Frag → Bool
def obsM (fa : List He.Fa) (ex : List Chk) (fn : List He5.DefA) (K : PySem.W.Frag) : He.AlD := ((fa.all fun f => f.ok K) && ((ex.all fun f => f K) && fn.all fun d => d.ok K), fn.map fun d => He5.fnA K (d.at_ K))
def SaysM (fa : List He.Fa) (ex : List Chk) (fn : List He5.DefA) (K : PySem.W.Frag) : Prop := obsM fa ex fn K = He5.valA fn
def obsMG (n : Nat) (fa : List He.Fa) (ex : List Chk) (fn : List He5.DefA) (g : Addr → Option Obj) : He.AlD := obsM fa ex fn (frG g (He5.asA g n))
def hookM (n : Nat) (fa : List He.Fa) (ex : List Chk) (fn : List He5.DefA) : PySem.W.Hook where
  α := He.AlD
  obs s := obsMG n fa ex fn s.heap.get?
  val _ := He5.valA fn
  says _ h := ∃ K : PySem.W.Frag, K.In h ∧ SaysM fa ex fn K
  of _ _ e := ⟨_, frG_in, e⟩
  keeps := fun _ _ _ ⟨K, i, c⟩ k => ⟨K, Frag.In.keeps i k, c⟩
theorem obsMG_eq {n : Nat} {fa : List He.Fa} {ex : List Chk} {fn : List He5.DefA} {g : Addr → Option Obj} {s : Shared} (h : ∀ a, g a = s.heap.get? a) : obsMG n fa ex fn g = (hookM n fa ex fn).obs s := by
  obtain rfl : g = s.heap.get? := funext h
  rfl
section
variable {fa : List He.Fa} {ex : List Chk} {fn : List He5.DefA} {K : PySem.W.Frag}
theorem SaysM.fst (c : SaysM fa ex fn K) : (∀ f ∈ fa, f.ok K = true) ∧ (∀ f ∈ ex, f K = true) ∧ ∀ d ∈ fn, d.ok K = true := by
  have e : ((fa.all fun f => f.ok K) && ((ex.all fun f => f K) && fn.all fun d => d.ok K)) = true := congrArg (fun z : He.AlD => z.1) c
  obtain ⟨h1, h2⟩ := ba e
  obtain ⟨h3, h4⟩ := ba h2
  exact ⟨List.all_eq_true.mp h1, List.all_eq_true.mp h3, List.all_eq_true.mp h4⟩
theorem SaysM.fact (c : SaysM fa ex fn K) (i : Nat) {f : He.Fa} (h : fa[i]? = some f := by rfl) : f.ok K = true := c.fst.1 f (List.mem_of_getElem? h)
theorem SaysM.chk (c : SaysM fa ex fn K) (i : Nat) {f : Chk} (h : ex[i]? = some f := by rfl) : f K = true := c.fst.2.1 f (List.mem_of_getElem? h)
theorem SaysM.def_ (c : SaysM fa ex fn K) (i : Nat) {d : He5.DefA} (h : fn[i]? = some d := by rfl) : ∃ fd, L2.FunD K d.name d.qual d.params d.body d.scope (d.dvs K) (d.kws K) (d.at_ K) fd := by
  have e : fn.map (fun d => He5.fnA K (d.at_ K)) = fn.map He5.DefA.val := congrArg (fun z : He.AlD => z.2) c
  have e2 := congrArg (fun l => l[i]?) e
  simp only [List.getElem?_map, h, Option.map_some, Option.some.injEq] at e2
  exact He5.DefA.funD e2 (c.fst.2.2 d (List.mem_of_getElem? h))
end
/-! ### classes of errors -/
def oexB (K : PySem.W.Frag) (C : Addr) : Bool := (match K.lookup C with
    | some ⟨.type t, _, .cls cd, sl⟩ => (match cd.mro, sl.toList with
      | .ref c :: bm, [_, _, _, _, some (.builtin n), _] => decide (t = "type") && (decide (c = C) && (decide (n = "ValueError.__new__") && (!cd.hasDel && (cd.hasDict && PySem.HandSPX.refsVE bm))))
      | _, _ => false)
    | _ => false) && (eqO (findIn K (.ref C) "__setattr__") (some (some (.builtin "object.__setattr__"))) && (decide (subIn K (.ref C) (.type "BaseException") = some true) && (decide (typeIn K (.ref C) = some (.type "type")) && keepIn K (.ref C))))
theorem oexB_ok {K : PySem.W.Frag} {C : Addr} (h : oexB K C = true) : L2.OexC K C := by
  obtain ⟨h0, h⟩ := ba h
  obtain ⟨h1, h⟩ := ba h
  obtain ⟨h2, h⟩ := ba h
  obtain ⟨h3, h4⟩ := ba h
  refine ⟨?_, eqO_ok h1, of_decide_eq_true h2, of_decide_eq_true h3, h4⟩
  clear h1 h2 h3 h4 h
  split at h0
  · rename_i t dd cd sl ho
    split at h0
    · rename_i c bm k0 k1 k2 k3 n k5 hm hs
      obtain ⟨a1, a⟩ := ba h0
      obtain ⟨a2, a⟩ := ba a
      obtain ⟨a3, a⟩ := ba a
      obtain ⟨a4, a⟩ := ba a
      obtain ⟨a5, a6⟩ := ba a
      obtain ⟨nm, bs, mro, ns, qn, hd, sn, sub, ab, col, del⟩ := cd
      obtain ⟨l⟩ := sl
      dsimp only at hm hs a4 a5
      subst hm hs a5
      obtain rfl := of_decide_eq_true a1
      obtain rfl := of_decide_eq_true a2
      obtain rfl := of_decide_eq_true a3
      have a4' : del = false := by simpa using a4
      subst a4'
      exact ⟨nm, qn, ns, bs, bm, sn, sub, ab, col, dd, k0, k1, k2, k3, k5, ho, a6⟩
    · cases h0
  · cases h0
/-- an error class X with the fields fs: made by its own __init__, caught by the classes yes, not by the classes no; its fields are read -/
def errB (x : PySem.Str) (fs : List PySem.Str) (yes no : List PySem.Str) : Chk := fun K => oexB K (ga K x) && (L2.xfB K (ga K x) && ((fs.all fun f => eqO (findIn K (.ref (ga K x)) f) (some none)) &&
  ((yes.all fun y => decide (exmOne K (.ref (ga K x)) (.ref (ga K y)) = some true)) && ((no.all fun y => decide (exmOne K (.ref (ga K x)) (.ref (ga K y)) = some false)) &&
    (eqO (findIn K (.ref (ga K x)) "__init__") (some (some (.ref (ma K (ga K x) "__init__")))) && decide (typeIn K (.ref (ma K (ga K x) "__init__")) = some (.type "function")))))))
structure ErrC (K : PySem.W.Frag) (x : PySem.Str) (fs yes no : List PySem.Str) : Prop where
  o : L2.OexC K (ga K x)
  xf : L2.XfC K (ga K x)
  no_ : ∀ f ∈ fs, findIn K (.ref (ga K x)) f = some none
  y : ∀ c ∈ yes, exmOne K (.ref (ga K x)) (.ref (ga K c)) = some true
  n : ∀ c ∈ no, exmOne K (.ref (ga K x)) (.ref (ga K c)) = some false
  i : findIn K (.ref (ga K x)) "__init__" = some (some (.ref (ma K (ga K x) "__init__")))
  t : typeIn K (.ref (ma K (ga K x) "__init__")) = some (.type "function")
theorem errB_ok {K : PySem.W.Frag} {x : PySem.Str} {fs yes no : List PySem.Str} (h : errB x fs yes no K = true) : ErrC K x fs yes no := by
  obtain ⟨h1, h⟩ := ba h
  obtain ⟨h2, h⟩ := ba h
  obtain ⟨h3, h⟩ := ba h
  obtain ⟨h4, h⟩ := ba h
  obtain ⟨h5, h⟩ := ba h
  obtain ⟨h6, h7⟩ := ba h
  exact ⟨oexB_ok h1, L2.xfB_ok h2, fun f hf => eqO_ok (List.all_eq_true.mp h3 f hf), fun f hf => of_decide_eq_true (List.all_eq_true.mp h4 f hf), fun f hf => of_decide_eq_true (List.all_eq_true.mp h5 f hf), eqO_ok h6, of_decide_eq_true h7⟩
/-! ### own classes -/
/-- a class whose instances are asked by isinstance; values of built-in types are none of it, and it is none of them -/
def clsB (x : PySem.Str) (tys : List String) : Chk := fun K => eqO (findIn K (.ref (ga K x)) "__class__") (some (some (.builtin "object.__class__"))) && (decide (mroIn K (ga K x) (.type "object") = some true) &&
  ((tys.all fun t => decide (kitOne K (.type t) (.ref (ga K x)) = some false) && (decide (kitOne K (.ref (ga K x)) (.type t) = some false) && notFirst K (ga K x) (.type t))) &&
    (decide (kitOne K (.ref (ga K x)) (.ref (ga K x)) = some true) && notFirst K (ga K x) (.ref (ga K x)))))
structure ClsC (K : PySem.W.Frag) (x : PySem.Str) (tys : List String) : Prop where
  ha : findIn K (.ref (ga K x)) "__class__" = some (some (.builtin "object.__class__"))
  hm : mroIn K (ga K x) (.type "object") = some true
  ty : ∀ t ∈ tys, kitOne K (.type t) (.ref (ga K x)) = some false ∧ kitOne K (.ref (ga K x)) (.type t) = some false ∧ notFirst K (ga K x) (.type t) = true
  me : kitOne K (.ref (ga K x)) (.ref (ga K x)) = some true
  nf : notFirst K (ga K x) (.ref (ga K x)) = true
theorem clsB_ok {K : PySem.W.Frag} {x : PySem.Str} {tys : List String} (h : clsB x tys K = true) : ClsC K x tys := by
  obtain ⟨h1, h⟩ := ba h
  obtain ⟨h2, h⟩ := ba h
  obtain ⟨h3, h⟩ := ba h
  obtain ⟨h4, h5⟩ := ba h
  refine ⟨eqO_ok h1, of_decide_eq_true h2, fun t ht => ?_, of_decide_eq_true h4, h5⟩
  obtain ⟨a, b⟩ := ba (List.all_eq_true.mp h3 t ht)
  obtain ⟨b, c⟩ := ba b
  exact ⟨of_decide_eq_true a, of_decide_eq_true b, c⟩
/-- what holds of every program: how __class__ is read -/
def topB : Chk := fun K => eqO (specialIn K (.builtin "object.__class__") "__get__") (some (some (.builtin "getset_descriptor.__get__"))) && decide (takesIn K (.builtin "object.__class__") = some true)
/-- the class says nothing of != -/
def neB (x : PySem.Str) : Chk := fun K => eqO (findIn K (.ref (ga K x)) "__ne__") (some (some (.builtin "object.__ne__")))
/-- a staticmethod -/
def smB (x m : PySem.Str) : Chk := fun K => He5.wrapB K (ga K x) "staticmethod" "staticmethod.__get__" m && (readsIn K (ga K x) (.type "type") && (eqO (specialIn K (.ref (ga K x)) "__getattribute__") (some (some (.builtin "type.__getattribute__"))) && keepIn K (.ref (He5.wf K (ga K x) "staticmethod" m))))
theorem smB_ok {K : PySem.W.Frag} {x m : PySem.Str} (h : smB x m K = true) : SMet K (ga K x) (.type "type") m (ma K (ga K x) m) (He5.wf K (ga K x) "staticmethod" m) ∧ ClX.CRead K (ga K x) (.type "type") ∧ keepIn K (.ref (He5.wf K (ga K x) "staticmethod" m)) = true := by
  obtain ⟨h1, h⟩ := ba h
  obtain ⟨h2, h⟩ := ba h
  obtain ⟨h3, h4⟩ := ba h
  obtain ⟨a, b⟩ := He5.wrapB_ok h1
  exact ⟨⟨a, b⟩, ⟨h2, eqO_ok h3⟩, h4⟩
end GS
/-! Readings, step by step: one lemma a construct, and a step tactic. -/
namespace GS
open PySem PySem.Spec PyProof.Rows L2

/-! ### promises by the number of arguments -/
def sp1 (S : V → Hp → VK → XK → Prop) : Sp := fun vs H Q E => match vs with | [a] => S a H Q E | _ => False
def sp2 (S : V → V → Hp → VK → XK → Prop) : Sp := fun vs H Q E => match vs with | [a, b] => S a b H Q E | _ => False
def sp3 (S : V → V → V → Hp → VK → XK → Prop) : Sp := fun vs H Q E => match vs with | [a, b, c] => S a b c H Q E | _ => False
def sp4 (S : V → V → V → V → Hp → VK → XK → Prop) : Sp := fun vs H Q E => match vs with | [a, b, c, d] => S a b c d H Q E | _ => False
theorem sp1_len {S : V → Hp → VK → XK → Prop} : ∀ vs H Q E, sp1 S vs H Q E → vs.length = 1 := fun vs _ _ _ h => match vs, h with | [_], _ => rfl
theorem sp2_len {S : V → V → Hp → VK → XK → Prop} : ∀ vs H Q E, sp2 S vs H Q E → vs.length = 2 := fun vs _ _ _ h => match vs, h with | [_, _], _ => rfl
theorem sp3_len {S : V → V → V → Hp → VK → XK → Prop} : ∀ vs H Q E, sp3 S vs H Q E → vs.length = 3 := fun vs _ _ _ h => match vs, h with | [_, _, _], _ => rfl
theorem sp4_len {S : V → V → V → V → Hp → VK → XK → Prop} : ∀ vs H Q E, sp4 S vs H Q E → vs.length = 4 := fun vs _ _ _ h => match vs, h with | [_, _, _, _], _ => rfl
theorem sp1_is {S : V → Hp → VK → XK → Prop} {vs H Q E} (h : sp1 S vs H Q E) : ∃ a, vs = [a] ∧ S a H Q E := match vs, h with | [a], h => ⟨a, rfl, h⟩
theorem sp2_is {S : V → V → Hp → VK → XK → Prop} {vs H Q E} (h : sp2 S vs H Q E) : ∃ a b, vs = [a, b] ∧ S a b H Q E := match vs, h with | [a, b], h => ⟨a, b, rfl, h⟩
theorem sp3_is {S : V → V → V → Hp → VK → XK → Prop} {vs H Q E} (h : sp3 S vs H Q E) : ∃ a b c, vs = [a, b, c] ∧ S a b c H Q E := match vs, h with | [a, b, c], h => ⟨a, b, c, rfl, h⟩
theorem sp4_is {S : V → V → V → V → Hp → VK → XK → Prop} {vs H Q E} (h : sp4 S vs H Q E) : ∃ a b c d, vs = [a, b, c, d] ∧ S a b c d H Q E := match vs, h with | [a, b, c, d], h => ⟨a, b, c, d, rfl, h⟩

/-! ### heaps that grow -/
def Ex (H H' : Hp) : Prop := ∀ a o, H a = some o → H' a = some o
theorem Ex.refl (H : Hp) : Ex H H := fun _ _ h => h
theorem Ex.trans {H H1 H2 : Hp} (a : Ex H H1) (b : Ex H1 H2) : Ex H H2 := fun x o h => b x o (a x o h)
theorem Ex.new {H : Hp} {p : Addr} {o : HO} (h : H p = none) : Ex H (upd H p o) := fun a u e => by rw [upd_ne (ne_of_none e h)]; exact e
theorem Ex.get {H H' : Hp} {a : Addr} {o : HO} (e : Ex H H') (h : H a = some o) : H' a = some o := e _ _ h
theorem Ex.free {H H' : Hp} {p : Addr} (e : Ex H H') (h : H' p = none) : H p = none := by
  cases q : H p with
  | none => rfl
  | some o => rw [e _ _ q] at h; cases h
theorem Ex.sql {K : PySem.W.Frag} {H H' : Hp} {a : Addr} {xs : List V} (e : Ex H H') (h : SqL K H a xs) : SqL K H' a xs := Same.seq e h
theorem Ex.sqt {K : PySem.W.Frag} {H H' : Hp} {a : Addr} {xs : List V} (e : Ex H H') (h : SqT K H a xs) : SqT K H' a xs := SqT.ext h e
/-- the heap without what stands at b -/
def wo (H : Hp) (b : Addr) : Hp := fun a => if a = b then none else H a
theorem wo_ex (H : Hp) (b : Addr) : Ex (wo H b) H := fun a o h => by
  unfold wo at h
  split at h
  · cases h
  · exact h
theorem Ex.wo {H H' : Hp} (b : Addr) (e : Ex H H') : Ex (wo H b) (wo H' b) := fun a o h => by
  unfold GS.wo at h ⊢
  split at h
  · cases h
  · rename_i n
    rw [if_neg n]
    exact e _ _ h
theorem wo_at {H : Hp} {a b : Addr} {o u : HO} (h : H a = some o) (hb : H b = some u) (n : o ≠ u) : wo H b a = some o := by
  unfold wo
  rw [if_neg (ne_of h hb n)]
  exact h
theorem wo_upd {H : Hp} {b : Addr} {o : HO} : wo (upd H b o) b = wo H b := by
  funext a
  unfold wo upd
  split <;> rfl

/-- what is wished of a new instance -/
def mkK (C : Addr) (sp : Sp) (E : XK) (Q : VK) : List V → Hp → Prop := fun vs H1 => ∀ x dx, H1 x = none → H1 dx = none → dx ≠ x → sp (.ref x :: (vs ++ [])) (upd (upd H1 dx (.own x)) x (.ins C dx [])) (fun v H2 => v = .non ∧ Q (.ref x) H2) E
/-- what is wished of a new tuple, a new list -/
def newT (Q : VK) : List V → Hp → Prop := fun xs H1 => xs.length ≤ sizeLine ∧ ∀ p, H1 p = none → Q (.ref p) (upd H1 p (.tup xs))
def newL (Q : VK) : List V → Hp → Prop := fun xs H1 => xs.length ≤ sizeLine ∧ ∀ p, H1 p = none → Q (.ref p) (upd H1 p (.lst xs))
theorem r_newT {Q : VK} {xs : List V} {H : Hp} (hz : xs.length ≤ sizeLine) (q : ∀ p H', H p = none → Ex H H' → H' p = some (.tup xs) → Q (.ref p) H') : newT Q xs H := ⟨hz, fun p hp => q p _ hp (Ex.new hp) upd_same⟩
theorem r_newL {Q : VK} {xs : List V} {H : Hp} (hz : xs.length ≤ sizeLine) (q : ∀ p H', H p = none → Ex H H' → H' p = some (.lst xs) → Q (.ref p) H') : newL Q xs H := ⟨hz, fun p hp => q p _ hp (Ex.new hp) upd_same⟩
/-! ### expressions -/
section
variable {K : PySem.W.Frag} {σ : L2.St} {H : Hp} {Q : VK} {ta tb te tc : TE} {t u : TT} {v x y : V} {i j : Int}
theorem r_var {n : Nat} (h : σ[n]? = some (some v)) (q : Q v H) : tVar n σ H Q := ⟨v, h, q⟩
theorem r_var3 {n : Nat} (q : Q v H) (h : σ[n]? = some (some v)) : tVar n σ H Q := ⟨v, h, q⟩
theorem r_c (q : Q v H) : tC v σ H Q := q
theorem r_op {r : R2} (q : ta σ H fun x H1 => tb σ H1 fun y H2 => r x y H2 Q) : tOp r ta tb σ H Q := q
theorem r_un {r : V → Hp → VK → Prop} (q : ta σ H fun x H1 => r x H1 Q) : tUn r ta σ H Q := q
theorem r_I0 {g : Int → Int → V} (q : Q (g i j) H) : rI0 g (.int i) (.int j) H Q := ⟨i, j, rfl, rfl, q⟩
theorem r_I {C : Int → Int → Prop} {g : Int → Int → V} (c : C i j) (q : Q (g i j) H) : rI C g (.int i) (.int j) H Q := ⟨i, j, rfl, rfl, c, q⟩
theorem r_U {g : Int → V} (q : Q (g i) H) : rU g (.int i) H Q := ⟨i, rfl, q⟩
theorem r_eq (h : scal x y = true) (q : Q (.bl (decide (x = y))) H) : rEq x y H Q := ⟨h, q⟩
theorem r_eqI (q : Q (.bl (decide (i = j))) H) : rEq (.int i) (.int j) H Q := ⟨rfl, by rwa [show decide (V.int i = V.int j) = decide (i = j) from by simp]⟩
theorem r_neI (q : Q (.bl (!decide (i = j))) H) : rNe (.int i) (.int j) H Q := ⟨rfl, by rwa [show decide (V.int i = V.int j) = decide (i = j) from by simp]⟩
theorem r_ne (h : scal x y = true) (q : Q (.bl (!decide (x = y))) H) : rNe x y H Q := ⟨h, q⟩
theorem r_test {R : Bool → Hp → Prop} (q : ta σ H fun x H' => ∃ k, x = .bl k ∧ R k H') : tTest ta σ H R := q
theorem r_B {R : Bool → Hp → Prop} (q : ta σ H fun x H' => ∃ k, x = .bl k ∧ R k H') : tB ta σ H R := q
theorem r_k {b : Bool} {R : Bool → Hp → Prop} (q : R b H) : ∃ k, V.bl b = .bl k ∧ R k H := ⟨b, rfl, q⟩
theorem r_and {R : Bool → Hp → Prop} (q : t σ H fun c H1 => if c = true then u σ H1 R else R false H1) : tAnd t u σ H R := q
theorem r_or {R : Bool → Hp → Prop} (q : t σ H fun c H1 => if c = true then R true H1 else u σ H1 R) : tOr t u σ H R := q
theorem r_not {R : Bool → Hp → Prop} (q : t σ H fun c H1 => R (!c) H1) : tNot t σ H R := q
theorem r_andV (q : ta σ H fun x H1 => ∃ c, x = .bl c ∧ if c = true then tb σ H1 Q else Q (.bl false) H1) : tAndV ta tb σ H Q := q
theorem r_orV (q : ta σ H fun x H1 => ∃ c, x = .bl c ∧ if c = true then Q (.bl true) H1 else tb σ H1 Q) : tOrV ta tb σ H Q := q
theorem r_notV (q : ta σ H fun x H1 => ∃ c, x = .bl c ∧ Q (.bl (!c)) H1) : tNotV ta σ H Q := q
theorem r_kV {b : Bool} {R : Bool → Prop} (q : R b) : ∃ c, V.bl b = .bl c ∧ R c := ⟨b, rfl, q⟩
theorem r_if (q : t σ H fun c H1 => if c = true then ta σ H1 Q else tb σ H1 Q) : tIf t ta tb σ H Q := q
theorem r_nil {R : List V → Hp → Prop} (q : R [] H) : tNil σ H R := q
theorem r_cons {tr : TA} {R : List V → Hp → Prop} (q : ta σ H fun x H1 => tr σ H1 fun xs H2 => R (x :: xs) H2) : tCons ta tr σ H R := q
theorem r_cb {r : List V → Hp → VK → Prop} {tr : TA} (q : tr σ H fun vs H1 => r vs H1 Q) : tCB r tr σ H Q := q
theorem r_call {sp : Sp} {E : XK} {tr : TA} (q : tr σ H fun vs H1 => sp (vs ++ []) H1 Q E) : tCall sp [] E tr σ H Q := q
theorem r_make {C : Addr} {sp : Sp} {E : XK} {tr : TA} (q : tr σ H (mkK C sp E Q)) : tMake C sp [] E tr σ H Q := q
theorem r_fld {a C dx : Addr} {fs : List (Str × V)} {f : Str} (h : H a = some (.ins C dx fs)) (c : Cls K C) (n : NoAttr K C f) (l : fs.lookup f = some v) (q : Q v H) : ∃ a' C dx fs v, V.ref a = .ref a' ∧ H a' = some (.ins C dx fs) ∧ Cls K C ∧ NoAttr K C f ∧ fs.lookup f = some v ∧ Q v H :=
  ⟨a, C, dx, fs, v, rfl, h, c, n, l, q⟩
theorem r_tup {tr : TA} (q : tr σ H (newT Q)) : tTup tr σ H Q := q
theorem r_lst {tr : TA} (q : tr σ H (newL Q)) : tLst tr σ H Q := q
/-! ### statements -/
variable {D : Ends} {ts tu : TS}
theorem r_seq (q : ts { D with nx := tu D } σ H) : tSeq ts tu D σ H := q
theorem r_asg {n : Nat} (q : te σ H fun x H1 => D.nx (σ.set n (some x)) H1) : tAsg te (gName n) D σ H := q
theorem r_asgG {g : TG} (q : te σ H fun x H1 => g x σ H1 D.nx) : tAsg te g D σ H := q
theorem r_ret (q : te σ H D.rt) : tRet te D σ H := q
theorem r_drop (q : te σ H fun _ H1 => D.nx σ H1) : tDrop te D σ H := q
theorem r_next (q : D.nx σ H) : tNext D σ H := q
theorem r_ifS (q : t σ H fun b H1 => if b = true then ts D σ H1 else tu D σ H1) : tIfS t ts tu D σ H := q
theorem r_raise {W : WX} {X : L2.St → Hp → XK → Prop} (q : X σ H fun cls d H' => W cls d σ H') : (fun (_ : Ends) σ H => X σ H fun cls d H' => W cls d σ H') D σ H := q
end
theorem ite_t {c : Bool} {A B : Prop} (hc : c = true) (h : A) : if c = true then A else B := by rw [if_pos hc]; exact h
theorem ite_f {c : Bool} {A B : Prop} (hc : c = false) (h : B) : if c = true then A else B := by rw [hc, if_neg Bool.false_ne_true]; exact h
theorem ite_b {c : Bool} {A B : Prop} (h1 : c = true → A) (h2 : c = false → B) : if c = true then A else B := by
  cases c with
  | true => rw [if_pos rfl]; exact h1 rfl
  | false => rw [if_neg Bool.false_ne_true]; exact h2 rfl

/-! ### own rules that the layer lacks -/
section
variable {X : Cx}
theorem pe_gint {x : Str} {pos : Pos} {i : Int} (hg : Gl X x) (h : ∃ t, X.mg x = some (.int i t)) (hd : (x == ("__debug__" : Str)) = false := by decide) : PE X (.Name x pos) (tC (.int i)) := let ⟨t, e⟩ := h; pe_glob hg e ⟨t, rfl⟩ hd
theorem pe_gstr {x : Str} {pos : Pos} {z : Str} (hg : Gl X x) (h : ∃ t, X.mg x = some (.str z t)) (hd : (x == ("__debug__" : Str)) = false := by decide) : PE X (.Name x pos) (tC (.str z)) := let ⟨t, e⟩ := h; pe_glob hg e ⟨t, rfl⟩ hd
def CPowW (i j : Int) : Prop := 0 ≤ j ∧ (Builtin.Int.intBits i : Int) * j ≤ 2 ^ 27
theorem op_powW : OpR X (binaryOp .Pow) (rI CPowW fun i j => .int (i ^ j.toNat)) := opI fun _ _ _ _ _ _ _ hc q => pow_int hc.1 hc.2 q
theorem cpow_of {i : Int} {n k : Nat} (h : i.natAbs < 2 ^ n) (hk : n * k ≤ 2 ^ 27) : CPowW i (k : Int) := by
  refine ⟨by omega, ?_⟩
  have b : Builtin.Int.intBits i ≤ n := by
    unfold Builtin.Int.intBits
    split
    · exact Nat.zero_le _
    · rename_i h0
      have h1 : i ≠ 0 := by simpa using h0
      have : i.natAbs.log2 < n := (Nat.log2_lt (by omega)).mpr h
      omega
  have : Builtin.Int.intBits i * k ≤ 2 ^ 27 := Nat.le_trans (Nat.mul_le_mul_right k b) hk
  exact_mod_cast this
end
end GS
/-! Comprehensions whose turns only let the heap grow; integers as texts. -/
namespace GS
open PySem PySem.Spec PyProof.Rows L2 TL
/-- the body of a comprehension's reading -/
def lcB (J : It) (g : TG) (tt : TT) (te : TE) (vs : List Nat) (σ : L2.St) (Q : VK) : Hp → Prop := fun H1 => ∀ D, H1 D = none → ∃ W : Nat → Nat → Hp → Prop, (∃ m, W 0 m (upd H1 D (.lst []))) ∧ ∀ i m H, W i m H → (J.stop i H ∧ Q (.ref D) H) ∨
  (J.go i H ∧ ∃ Nx : Hp → Prop, (∀ H', Nx H' → ∃ m', m' < m ∧ W (i + 1) m' H') ∧ ∀ x H', J.yld i H x H' → g x (wipe σ vs) H' fun σ2 H2 => wipe σ2 vs = wipe σ vs ∧ tt σ2 H2 fun b H3 => if b = true then te σ2 H3 fun y H4 => ∃ acc, H4 D = some (.lst acc) ∧ acc.length < sizeLine ∧ Nx (upd H4 D (.lst (acc ++ [y]))) else Nx H3)
theorem r_lc {wi : TI} {g : TG} {tt : TT} {te : TE} {vs : List Nat} {σ : L2.St} {H : Hp} {Q : VK} (q : wi σ H fun J H1 => lcB J g tt te vs σ Q H1) : tLc wi g tt te vs σ H Q := q
theorem r_chain {r r' : R2} {ta tb tc : TE} {σ : L2.St} {H : Hp} {Q : VK} (q : ta σ H fun x H1 => tb σ H1 fun y H2 => r x y H2 fun z H3 => ∃ k, z = .bl k ∧ (if k = true then tc σ H3 fun w' H4 => r' y w' H4 Q else Q (.bl false) H3)) : tChain r r' ta tb tc σ H Q := q
theorem all_true {K : PySem.W.Frag} {H : Hp} {p : Addr} {n : Nat} {Q : VK} (h : H p = some (.lst ((List.range n).map fun _ => V.bl true))) (q : Q (.bl true) H) : rAll K [.ref p] H Q := by
  refine ⟨p, (List.range n).map fun _ => true, rfl, SqL.of (by rw [List.map_map]; exact h), ?_⟩
  have e : ((List.range n).map fun _ => true).all id = true := by simp
  rw [e]
  exact q
theorem r_pickS {c : Prop} [Decidable c] {σ : L2.St} {H : Hp} {Q : VK} {ta tb : TE} {i j : Str} (h1 : ∀ Q : VK, Q (.str i) H → ta σ H Q) (h2 : ∀ Q : VK, Q (.str j) H → tb σ H Q) (q : Q (.str (if c then i else j)) H) : if decide c = true then ta σ H Q else tb σ H Q := by
  by_cases h : c
  · rw [if_pos h] at q
    exact ite_t (decide_eq_true h) (h1 Q q)
  · rw [if_neg h] at q
    exact ite_f (decide_eq_false h) (h2 Q q)
theorem r_iT {K : PySem.W.Frag} {tl : TE} {σ : L2.St} {H : Hp} {R : It → Hp → Prop} (q : tl σ H fun x H1 => ∃ a, x = .ref a ∧ (∃ xs, SqT K H1 a xs) ∧ R (Itt K a) H1) : iTup K tl σ H R := q
theorem r_iL {K : PySem.W.Frag} {tl : TE} {σ : L2.St} {H : Hp} {R : It → Hp → Prop} (q : tl σ H fun x H1 => ∃ a, x = .ref a ∧ (∃ xs, SqL K H1 a xs) ∧ R (Itl K a) H1) : iList K tl σ H R := q
theorem r_iR1 {ta : TA} {σ : L2.St} {H : Hp} {R : It → Hp → Prop} (q : ta σ H fun vs H1 => ∃ j : Int, vs = [.int j] ∧ -(2 ^ 62) ≤ j ∧ j < 2 ^ 62 ∧ R (Itr 0 j.toNat) H1) : iRng1 ta σ H R := q
theorem Ex.mut {H H' : Hp} {p : Addr} {o : HO} (e : Ex H H') (h : H p = none) : Ex H (upd H' p o) := fun a u ha => by
  rw [upd_ne (ne_of_none ha h)]
  exact e a u ha
theorem sz_le {n : Nat} (h : n ≤ 100000) : n ≤ sizeLine := Nat.le_trans h (by decide)
theorem sz_lt {n : Nat} (h : n < 100000) : n < sizeLine := Nat.lt_of_lt_of_le h (by decide)
/-- the items that a filtered comprehension gives -/
def given (n : Nat) (t : Nat → Bool) (f : Nat → V) : List V := ((List.range n).filter t).map f
theorem given_len (n : Nat) (t : Nat → Bool) (f : Nat → V) : (given n t f).length ≤ n := by
  unfold given
  rw [List.length_map]
  exact Nat.le_trans (List.length_filter_le _ _) (by rw [List.length_range]; exact Nat.le_refl _)
theorem given_all (n : Nat) (f : Nat → V) : given n (fun _ => true) f = (List.range n).map f := by
  unfold given
  rw [List.filter_eq_self.mpr (fun _ _ => rfl)]
theorem given_succ (n : Nat) (t : Nat → Bool) (f : Nat → V) : given (n + 1) t f = if t n = true then given n t f ++ [f n] else given n t f := by
  unfold given
  rw [List.range_succ, List.filter_append, List.map_append, List.filter_cons]
  split
  · rfl
  · show _ ++ [] = _
    rw [List.append_nil]
/-- one name, k its slot -/
theorem r_lcF {J : It} {n : Nat} {G : Hp → Prop} {Y : Nat → Hp → V → Hp → Prop} {k : Nat} {tt : TT} {te : TE} {σ : L2.St} {H1 : Hp} {Q : VK} (w : Walk J n G Y) (t : Nat → Bool) (f : Nat → V) (hn : n ≤ 50000) (hG : ∀ H' : Hp, Ex H1 H' → G H')
    (hw : ∀ x, wipe ((wipe σ [k]).set k (some x)) [k] = wipe σ [k])
    (hs : ∀ i x H H', i < n → Ex H1 H → Y i H x H' → Ex H H' ∧ ∀ R : Bool → Hp → Prop, (∀ H3, Ex H' H3 → R (t i) H3) → tt ((wipe σ [k]).set k (some x)) H' R)
    (he : ∀ i x H, i < n → t i = true → Ex H1 H → (∃ H0 H2, Y i H0 x H2 ∧ Ex H1 H0 ∧ Ex H0 H2 ∧ Ex H2 H) → ∀ R : VK, (∀ H4, Ex H H4 → R (f i) H4) → te ((wipe σ [k]).set k (some x)) H R)
    (q : ∀ p H', H1 p = none → Ex H1 H' → H' p = some (.lst (given n t f)) → Q (.ref p) H') : lcB J (gName k) tt te [k] σ Q H1 := by
  intro D hD
  refine lc_it w (fun i H => Ex H1 H ∧ H D = some (.lst (given i t f))) ⟨Ex.mut (Ex.refl _) hD, upd_same⟩ (fun i H _ p => hG H p.1) ?_ (fun H p => q D H hD p.1 p.2)
  intro i x H H' hi p y
  obtain ⟨e1, ht⟩ := hs i x H H' hi p.1 y
  refine ⟨hw x, ht _ fun H3 e3 => ?_⟩
  have hD3 : H3 D = some (.lst (given i t f)) := e3 _ _ (e1 _ _ p.2)
  cases c : t i with
  | false =>
    refine ite_f rfl ⟨(p.1.trans e1).trans e3, ?_⟩
    rw [given_succ, c]
    exact hD3
  | true =>
    refine ite_t rfl (he i x H3 hi c ((p.1.trans e1).trans e3) ⟨H, H', y, p.1, e1, e3⟩ _ fun H4 e4 => ?_)
    refine ⟨_, e4 _ _ hD3, sz_lt (by have := given_len i t f; omega), Ex.mut (((p.1.trans e1).trans e3).trans e4) hD, ?_⟩
    rw [given_succ, c]
    exact upd_same
/-- without a test -/
theorem r_lcM {J : It} {n : Nat} {G : Hp → Prop} {Y : Nat → Hp → V → Hp → Prop} {k : Nat} {te : TE} {σ : L2.St} {H1 : Hp} {Q : VK} (w : Walk J n G Y) (f : Nat → V) (hn : n ≤ 50000) (hG : ∀ H' : Hp, Ex H1 H' → G H')
    (hw : ∀ x, wipe ((wipe σ [k]).set k (some x)) [k] = wipe σ [k])
    (he : ∀ i x H H', i < n → Ex H1 H → Y i H x H' → Ex H H' ∧ ∀ H3, Ex H' H3 → ∀ R : VK, (∀ H4, Ex H3 H4 → R (f i) H4) → te ((wipe σ [k]).set k (some x)) H3 R)
    (q : ∀ p H', H1 p = none → Ex H1 H' → H' p = some (.lst ((List.range n).map f)) → Q (.ref p) H') : lcB J (gName k) tYes te [k] σ Q H1 := by
  refine r_lcF w (fun _ => true) f hn hG hw (fun i x H H' hi e y => ⟨(he i x H H' hi e y).1, fun R r => r H' (Ex.refl _)⟩) ?_ (fun p H' h1 h2 h3 => q p H' h1 h2 (by rw [given_all] at h3; exact h3))
  rintro i x H hi - e ⟨H0, H2, y, e0, e1, e2⟩ R r
  exact (he i x H0 H2 hi e0 y).2 H e2 R r
/-! ### integers as texts -/
def nS (i : Int) : Str := Str.ofString (toString i)
def dg (i : Int) : List Nat := numL i.natAbs
theorem tl_nS_nn {i : Int} (h : 0 ≤ i) : tl (nS i) = dg i := by
  obtain ⟨n, rfl⟩ := Int.eq_ofNat_of_zero_le h
  exact tl_num n
theorem tl_nS_neg {i : Int} (h : i < 0) : tl (nS i) = 45 :: dg i := by
  unfold nS dg
  have e : (0 - i) = ((i.natAbs : Nat) : Int) := by omega
  have f := tl_num i.natAbs
  rw [tl_ofString] at f
  rw [toString_neg h, tl_ofString, String.toList_append, List.map_append, e, f]
  rfl
theorem dg_digits (i : Int) : NumText.AllDigits (dg i) := numL_digits _
theorem dg_ne (i : Int) : dg i ≠ [] := numL_ne _
theorem dg_len {i : Int} {k : Nat} (hk : 0 < k) (h : i.natAbs < 10 ^ k) : (dg i).length ≤ k := numL_len hk h
theorem str_ext {a b : Str} (h : tl a = tl b) : a = b := ext_toList h
theorem nS_len {i : Int} {k : Nat} (hk : 0 < k) (h : i.natAbs < 10 ^ k) : (nS i).length ≤ k + 1 := by
  rw [len_tl]
  by_cases c : 0 ≤ i
  · rw [tl_nS_nn c]
    exact Nat.le_trans (dg_len hk h) (Nat.le_succ _)
  · rw [tl_nS_neg (by omega), List.length_cons]
    exact Nat.succ_le_succ (dg_len hk h)
/-- the sign and the digits apart -/
theorem nS_abs (i : Int) : nS i = (if i < 0 then Str.ofString "-" else Str.ofString "") ++ nS i.natAbs := by
  refine str_ext ?_
  have e : tl (nS (i.natAbs : Int)) = dg i := tl_nS_nn (i := (i.natAbs : Int)) (by omega)
  rw [tl_append, e]
  by_cases c : i < 0
  · rw [if_pos c, tl_nS_neg c]
    rfl
  · rw [if_neg c, tl_nS_nn (by omega)]
    rfl
theorem nS_free {i : Int} {s : Nat} (h : s ≠ 45) (h2 : s < 48 ∨ 57 < s) : s ∉ tl (nS i) := by
  by_cases c : 0 ≤ i
  · rw [tl_nS_nn c]
    exact numL_free h2
  · rw [tl_nS_neg (by omega)]
    intro hm
    rcases List.mem_cons.mp hm with e | e
    · exact h e
    · exact numL_free h2 e
theorem nS_int {i : Int} (h : i.natAbs < 10 ^ 600) : intText? (nS i) = some i := by
  have l := nS_len (k := 600) (by decide) h
  have v : ((NumText.digitsVal (dg i) : Nat) : Int) = i.natAbs := by unfold dg; rw [numL_val]
  by_cases c : 0 ≤ i
  · have e : (nS i).cps.toList = dg i := tl_nS_nn c
    rw [intText_digits (by rw [e]; exact dg_digits i) (by rw [e]; exact dg_ne i) (by omega), e, v]
    congr 1
    omega
  · have e : (nS i).cps.toList = 45 :: dg i := tl_nS_neg (by omega)
    rw [intText_neg e (dg_digits i) (dg_ne i) (by omega), v]
    congr 1
    omega
end GS
/-! A law's bag of drawn numbers; more stepping lemmas. -/
namespace GS
open PySem PySem.Spec PyProof.Rows L2 TL
/-! ### * of very great integers -/
def CMulB (i j : Int) : Prop := i.natAbs.log2 + j.natAbs.log2 < 100000000
theorem CMulB.ok {i j : Int} (h : CMulB i j) : IntMulOk i j := by
  have b : ∀ x : Int, Builtin.Int.intBits x ≤ x.natAbs.log2 + 1 := fun x => by
    unfold Builtin.Int.intBits
    split <;> omega
  have h1 := b i
  have h2 := b j
  unfold CMulB at h
  have e : bitsLine = 134217728 := by decide
  unfold IntMulOk
  intro z
  have z2 := (Bool.and_eq_true_iff.mp z).2
  unfold Builtin.Int.intTooBig at z2
  have z3 := of_decide_eq_true z2
  omega
theorem op_mulB {X : Cx} : OpR X (binaryOp .Mult) (rI CMulB fun i j => .int (i * j)) := opI fun _ _ _ _ _ _ _ hc q => mul_int q hc.ok
theorem lg_lt {i : Int} {n : Nat} (h : i.natAbs < 2 ^ n) (hn : 0 < n) : i.natAbs.log2 < n := PySem.Flt.log2_lt_of hn h
theorem mulB_of {i j : Int} {a b : Nat} (ha : i.natAbs < 2 ^ a) (hb : j.natAbs < 2 ^ b) (h0 : 0 < a) (h1 : 0 < b) (h : a + b ≤ 100000000) : CMulB i j := by
  have x := lg_lt ha h0
  have y := lg_lt hb h1
  unfold CMulB
  omega
/-! ### steps -/
section
variable {K : PySem.W.Frag} {σ : L2.St} {H : Hp} {Q : VK} {i j : Int} {b : Bool} {p : Addr} {xs : List V} {v : V}
theorem r_ixL (h : H p = some (.lst xs)) (e : atI xs i = some v) (q : Q v H) : rIxL K (.ref p) (.int i) H Q := ⟨_, _, _, _, rfl, rfl, SqL.of h, e, q⟩
theorem r_ixT (h : H p = some (.tup xs)) (e : atI xs i = some v) (q : Q v H) : rIxT K (.ref p) (.int i) H Q := ⟨_, _, _, _, rfl, rfl, SqT.of h, e, q⟩
theorem r_gSub {to ti : TE} {t : TSet} {N : L2.St → Hp → Prop} (q : to σ H fun o H1 => ti σ H1 fun i H2 => t o i v H2 fun H3 => N σ H3) : gSub to ti t v σ H N := q
theorem r_setL {k : Int} {n : Nat} {N : Hp → Prop} (h : H p = some (.lst xs)) (e : ixN xs.length k = some n) (q : N (upd H p (.lst (xs.set n v)))) : rSetL (.ref p) (.int k) v H N := ⟨p, xs, k, n, rfl, rfl, h, e, q⟩
theorem r_pow {v k : Int} (c : CPowW i k) (e : i ^ k.toNat = v) (q : Q (.int v) H) : rI CPowW (fun i j => .int (i ^ j.toNat)) (.int i) (.int k) H Q := r_I c (by rw [e]; exact q)
/-- what is wished behind int(..), abs(..), len(..) -/
def intK (Q : VK) : List V → Hp → Prop := fun xs H => (∃ i, xs = [V.int i] ∧ Q (.int i) H) ∨ ∃ k, xs = [V.bl k] ∧ Q (.int (if k = true then 1 else 0)) H
def absK (Q : VK) : List V → Hp → Prop := fun xs H => ∃ i, xs = [V.int i] ∧ Q (.int (if i < 0 then -i else i)) H
def lenK (K : PySem.W.Frag) (Q : VK) : List V → Hp → Prop := fun xs H => ∃ p ys, xs = [V.ref p] ∧ (SqL K H p ys ∨ SqT K H p ys) ∧ Q (.int ys.length) H
theorem r_cbInt {tr : TA} (q : tr σ H (intK Q)) : tCB (fun xs H Q => (∃ i, xs = [V.int i] ∧ Q (V.int i) H) ∨ ∃ k, xs = [V.bl k] ∧ Q (V.int (if k = true then 1 else 0)) H) tr σ H Q := q
theorem r_cbAbs {tr : TA} (q : tr σ H (absK Q)) : tCB (fun xs H Q => ∃ i, xs = [V.int i] ∧ Q (V.int (if i < 0 then -i else i)) H) tr σ H Q := q
theorem r_cbLen {tr : TA} (q : tr σ H (lenK K Q)) : tCB (fun xs H Q => ∃ p ys, xs = [V.ref p] ∧ (SqL K H p ys ∨ SqT K H p ys) ∧ Q (V.int ys.length) H) tr σ H Q := q
theorem r_intI (q : Q (.int j) H) : intK Q [.int j] H := .inl ⟨_, rfl, q⟩
theorem r_intB (q : Q (.int (if b = true then 1 else 0)) H) : intK Q [.bl b] H := .inr ⟨_, rfl, q⟩
theorem r_absI (q : Q (.int (if j < 0 then -j else j)) H) : absK Q [.int j] H := ⟨_, rfl, q⟩
theorem r_lenL (h : H p = some (.lst xs)) (q : Q (.int xs.length) H) : lenK K Q [.ref p] H := ⟨_, _, rfl, .inl (SqL.of h), q⟩
end
/-- a place where ways join -/
theorem r_seqJ {D : Ends} {ts tu : TS} {σ : L2.St} {H : Hp} (P : L2.St → Hp → Prop) (h : ∀ N : L2.St → Hp → Prop, (∀ σ' H', P σ' H' → N σ' H') → ts { D with nx := N } σ H) (h2 : ∀ σ' H', P σ' H' → tu D σ' H') : tSeq ts tu D σ H := h (tu D) h2
/-! ### lists of integers against one another -/
theorem dp_ints {K : PySem.W.Frag} {H : Hp} : ∀ xs : List Int, DpAll K H (xs.map V.int) (xs.map PyData.int)
  | [] => .nil
  | x :: xs => .cons (.int x) (dp_ints xs)
theorem can_ints : ∀ xs : List Int, PyData.canLayAll0 (xs.map PyData.int) = true
  | [] => rfl
  | x :: xs => by
    rw [List.map_cons]
    show (PyData.canLay0 (.int x) && PyData.canLayAll0 (xs.map PyData.int)) = true
    rw [can_ints xs]
    rfl
theorem depth_ints : ∀ xs : List Int, PyData.depthAll (xs.map PyData.int) = 0
  | [] => rfl
  | x :: xs => by
    rw [List.map_cons]
    show max (PyData.depth (.int x)) (PyData.depthAll (xs.map PyData.int)) = 0
    rw [depth_ints xs]
    rfl
theorem shaped_ints (xs : List Int) : SeqAt.shaped (.list (xs.map PyData.int)) = true ∧ SeqAt.shaped (.tuple (xs.map PyData.int)) = true := by
  have h1 := can_ints xs
  have h2 := depth_ints xs
  constructor
  · show (PyData.canLayAll0 (xs.map PyData.int) && decide (PyData.depthAll (xs.map PyData.int) + 1 ≤ 64)) = true
    rw [h1, h2]
    rfl
  · show (PyData.canLayAll0 (xs.map PyData.int) && decide (PyData.depthAll (xs.map PyData.int) + 1 ≤ 64)) = true
    rw [h1, h2]
    rfl
theorem eqv_ints : ∀ xs ys : List Int, PyData.eqvAll (xs.map PyData.int) (ys.map PyData.int) = decide (xs = ys)
  | [], [] => rfl
  | [], y :: ys => rfl
  | x :: xs, [] => rfl
  | x :: xs, y :: ys => by
    rw [List.map_cons, List.map_cons]
    show ((x == y) && PyData.eqvAll (xs.map PyData.int) (ys.map PyData.int)) = _
    rw [eqv_ints xs ys]
    by_cases c : x = y <;> simp [c]
/-- xs != ys, lists of integers -/
theorem r_neInts {K : PySem.W.Frag} {H : Hp} {Q : VK} {p q : Addr} {xs ys : List Int} (h1 : H p = some (.lst (xs.map V.int))) (h2 : H q = some (.lst (ys.map V.int))) (k : Q (.bl (!decide (xs = ys))) H) : rNeD K (.ref p) (.ref q) H Q := by
  refine ⟨_, _, .lst (SqL.of h1) (dp_ints xs), .lst (SqL.of h2) (dp_ints ys), (shaped_ints xs).1, (shaped_ints ys).1, ?_⟩
  show Q (.bl (!PyData.eqvAll (xs.map PyData.int) (ys.map PyData.int))) H
  rw [eqv_ints]
  exact k
theorem r_eqInts {K : PySem.W.Frag} {H : Hp} {Q : VK} {p q : Addr} {xs ys : List Int} (h1 : H p = some (.tup (xs.map V.int))) (h2 : H q = some (.tup (ys.map V.int))) (k : Q (.bl (decide (xs = ys))) H) : rEqD K (.ref p) (.ref q) H Q := by
  refine ⟨_, _, .tup (SqT.of h1) (dp_ints xs), .tup (SqT.of h2) (dp_ints ys), (shaped_ints xs).2, (shaped_ints ys).2, ?_⟩
  show Q (.bl (PyData.eqvAll (xs.map PyData.int) (ys.map PyData.int))) H
  rw [eqv_ints]
  exact k
/-! ### all but p is kept -/
def Bu (p : Addr) (H H' : Hp) : Prop := ∀ b o, b ≠ p → H b = some o → H' b = some o
theorem Bu.refl (p : Addr) (H : Hp) : Bu p H H := fun _ _ _ h => h
theorem Bu.trans {p : Addr} {H H1 H2 : Hp} (a : Bu p H H1) (b : Bu p H1 H2) : Bu p H H2 := fun c o n h => b c o n (a c o n h)
theorem Bu.upd {p : Addr} {H : Hp} {o : HO} : Bu p H (upd H p o) := fun b u n h => by rw [upd_ne n]; exact h
theorem Bu.of {p : Addr} {H H' : Hp} (e : Ex H H') : Bu p H H' := fun b o _ h => e b o h
/-- sizes -/
def Z (n : Nat) (i : Int) : Prop := i.natAbs < 2 ^ n
theorem Z.mono {n m : Nat} {i : Int} (h : Z n i) (l : n ≤ m) : Z m i := Nat.lt_of_lt_of_le h (Nat.pow_le_pow_right (by omega) l)
theorem Z.mul {n m : Nat} {i j : Int} (a : Z n i) (b : Z m j) : Z (n + m) (i * j) := wide_lt a b
theorem Z.add {n : Nat} {i j : Int} (a : Z n i) (b : Z n j) : Z (n + 1) (i + j) := by
  unfold Z at *
  have : (2 : Nat) ^ (n + 1) = 2 ^ n + 2 ^ n := by rw [Nat.pow_succ]; omega
  omega
theorem Z.sub {n : Nat} {i j : Int} (a : Z n i) (b : Z n j) : Z (n + 1) (i - j) := by
  unfold Z at *
  have : (2 : Nat) ^ (n + 1) = 2 ^ n + 2 ^ n := by rw [Nat.pow_succ]; omega
  omega
theorem Z.sq {n : Nat} {i : Int} (a : Z n i) : Z (n + n) (i ^ 2) := by rw [int_pow_two]; exact a.mul a
theorem mulOk {n m : Nat} {i j : Int} (a : Z n i) (b : Z m j) (hn : 0 < n) (hm : 0 < m) (h : n + m ≤ 1000000) : CMulW i j := wide_mul a b hn hm h
/-! ### the bag -/
structure Bag (H : Hp) (b : Addr) (n : Int) : Prop where
  is : ∃ (L : Addr) (xs : List Int) (at_ left : Int), H b = some (.lst [.ref L, .int at_, .int left]) ∧ H L = some (.lst (xs.map V.int)) ∧ L ≠ b ∧ 0 ≤ at_ ∧ at_ ≤ n ∧ 0 ≤ left ∧ xs.length ≤ 60 ∧ ∀ x ∈ xs, Z 2000000 x
theorem Bag.ex {H H' : Hp} {b : Addr} {n : Int} (h : Bag H b n) (e : Ex H H') : Bag H' b n := by
  obtain ⟨L, xs, a, l, h1, h2, h3⟩ := h.is
  exact ⟨L, xs, a, l, e _ _ h1, e _ _ h2, h3⟩
theorem Bag.le {H : Hp} {b : Addr} {n m : Int} (h : Bag H b n) (e : n ≤ m) : Bag H b m := by
  obtain ⟨L, xs, a, l, h1, h2, h3, h4, h5, h6⟩ := h.is
  exact ⟨L, xs, a, l, h1, h2, h3, h4, Int.le_trans h5 e, h6⟩
theorem Bag.ne {H : Hp} {b a : Addr} {n : Int} {o : HO} (h : Bag H b n) (ha : H a = some o) (ho : ∀ L x y, o ≠ .lst [.ref L, .int x, .int y]) : a ≠ b := by
  obtain ⟨L, xs, x, y, h1, _⟩ := h.is
  rintro rfl
  rw [ha] at h1
  exact ho _ _ _ (Option.some.inj h1)
/-- what a draw promises -/
def spDraw : Sp := sp2 fun b m H Q _ => ∃ p m' n, b = .ref p ∧ m = .int m' ∧ 0 < m' ∧ Z 1000 m' ∧ n ≤ 100000 ∧ Bag H p n ∧ ∀ r H', 0 ≤ r → r < m' → Bu p H H' → Bag H' p (n + 1) → Q (.int r) H'
theorem r_Draw {H : Hp} {Q : VK} {E : XK} {p : Addr} {m n : Int} (hb : Bag H p n) (hn : n ≤ 100000) (h0 : 0 < m) (hm : Z 1000 m) (k : ∀ r H', 0 ≤ r → r < m → Bu p H H' → Bag H' p (n + 1) → Q (.int r) H') : spDraw ([.ref p, .int m] ++ []) H Q E :=
  ⟨p, m, n, rfl, rfl, h0, hm, hn, hb, k⟩
end GS
/-! Calls by keywords alone; making an instance inside try. -/
namespace GS
open PySem PySem.Spec PyProof.Rows L2 TL
/-- the arguments in the parameters' order -/
def pm (ix : List Nat) {α : Type} (us ws : List α) : List α := ix.filterMap fun i => (us ++ ws)[i]?
theorem pm_vals (ix : List Nat) {vs zs : List V} {us ws : List Value} (a : Vals vs us) (b : Vals zs ws) : Vals (pm ix vs zs) (pm ix us ws) := by
  have c := a.append b
  unfold pm
  generalize vs ++ zs = l at c
  generalize us ++ ws = m at c
  induction ix with
  | nil => exact .nil
  | cons i ix ih =>
    cases h : l[i]? with
    | none =>
      rw [List.filterMap_cons_none h, List.filterMap_cons_none (c.none_of h)]
      exact ih
    | some x =>
      obtain ⟨u, hu, r⟩ := c.get h
      rw [List.filterMap_cons_some h, List.filterMap_cons_some hu]
      exact .cons r ih
theorem kb_of {K : PySem.W.Frag} {x qual : Str} {params : Arguments} {body : List Stmt} {scope : Scope} {kws : List (Str × V)} {f : Addr} {fd : FuncData} {ps : List Str} (F : FunD K x qual params body scope [] kws f fd) (n : Nat) (ks : List Str) (ix : List Nat)
    (h : ∀ (kV doc pmv : Value) (an : Option Addr) (cdv ct : Value) (us ws : List Value), us.length = n → ws.length = ks.length → bindArgs (PySem.W.fnOf x qual params body scope .none kV doc pmv an cdv ct) ⟨us, ks.zip ws⟩ = pure (ps.zip (pm ix us ws))) : KBn K fd ps n ks (pm ix) (pm ix) := by
  obtain ⟨oc, od, dV, kV, doc, pmv, an, cdv, ct, osl, rfl, lk, hcd, hD, hK⟩ := F.ex
  rcases hD with ⟨-, rfl⟩ | ⟨no, -⟩
  · exact ⟨fun s us ws _ l1 l2 => .of_eq (h kV doc pmv an cdv ct us ws l1 l2), pm_vals ix⟩
  · exact absurd rfl no
section
variable {X : Cx} {CX : CXT} {k : Nat} {f C : Addr} {fd : FuncData} {ps ks : List Str} {sp : Sp} {x : Str} {p pos : Pos} {g : List Value → List Value → List Value} {gV : List V → List V → List V}
/-- f(k = v, ..) -/
theorem pe_callK0 {E : XK} {kws : List Keyword} {tk : TA} (F : FnOk X.prog X.w X.K X.mg X.base CX k f fd ps sp) (hr : Room k X.A) (hg : Gl X x) (hm : X.mg x = some (.ref f)) (keep : PySem.W.keepIn X.K (.ref f) = true) (kb : KBn X.K fd ps 0 ks g gV) (hx : Passes CX X E) (hw : PK X kws tk)
    (named : (backToKw pos (keywordEach kws X.env)).all (·.1.isSome) = true := by rfl) (names : (backToKw pos (keywordEach kws X.env)).filterMap (·.1) = ks := by rfl) (nodb : (x == ("__debug__" : Str)) = false := by decide)
    (plain : ((backTo pos (starEach [] X.env)).any (·.1) || (backToKw pos (keywordEach kws X.env)).any (·.1.isNone)) = false := by rfl) : PE X (.Call (.Name x p) [] kws pos) (tCallN 0 ks.length sp gV E tNil tk) := by
  refine ⟨fun pins s σ H Q I h => wpAny_Call_Name_kw (ld_glob I hg hm ?_ nodb)⟩
  refine PySem.W.callWith_KW0 (h₀ := X.base) I.ok.mod.kin keep named (thn (hw.run pos pins s σ H _ I h) fun ws s2 ⟨zs, H2, I2, rz, m1, m2, q⟩ => ⟨I2.kIn, ?_⟩) plain
  rw [names]
  exact run_fnN F hr kb hx I2 .nil rz m1 m2 q
/-- C(e, ..) inside try: what passes may lean on the slots -/
def tMakeS (C : Addr) (sp : Sp) (E : L2.St → XK) (t : TA) : TE := fun σ H Q => t σ H (mkK C sp (E σ) Q)
theorem pe_makeS {E : L2.St → XK} {e : Expr} {es : List Expr} {t : TA} (M : Mk X.K C f) (F : FnOk X.prog X.w X.K X.mg X.base CX k f fd ps sp) (hr : Room (k + 1) X.A) (hg : Gl X x) (hm : X.mg x = some (.ref C)) (hb : Binds X.K fd ps []) (hx : ∀ σ, PassesAt CX X σ (E σ)) (ha : PA X (e :: es) t)
    (nodb : (x == ("__debug__" : Str)) = false := by decide) (st : starEach (e :: es) X.env = (false, eval e X.env) :: starEach es X.env := by rfl) (plain : (backTo pos (starEach es X.env)).any (·.1) = false := by rfl) :
    PE X (.Call (.Name x p) (e :: es) [] pos) (tMakeS C sp E t) := by
  refine ⟨fun pins s σ H Q I h => wpAny_Call_Name_kw (ld_glob I hg hm ?_ nodb)⟩
  refine PySem.W.callWith_K (h₀ := X.base) I.ok.mod.kin M.kp (thn (ha.run pos pins s σ H _ I h) fun us s1 ⟨vs, H1, I1, r, q⟩ => ⟨I1.kIn, ?_⟩) st plain
  have n0 := I1.hok.fresh (Nat.le_refl s1.heap.objs.size)
  have n1 := I1.hok.fresh (Nat.le_succ s1.heap.objs.size)
  have w1 := q _ _ n1 n0 (Nat.ne_of_lt (Nat.lt_succ_self _))
  have J := Inv.made (C := C) I1
  have rs : Vals (V.ref (s1.heap.objs.size + 1) :: (vs ++ [])) (Value.ref (s1.heap.objs.size + 1) :: us) := by
    rw [List.append_nil]
    exact .cons rfl r
  have many : (Value.ref (s1.heap.objs.size + 1) :: us).length = ps.length := rs.length.symm.trans (F.len _ _ _ _ w1)
  have bound := hb _ (Value.ref (s1.heap.objs.size + 1) :: us) J.kIn (by rw [List.append_nil]; exact many)
  rw [List.append_nil] at bound
  refine wpAny_call (make_map (f := f) I1.kIn M.makes M.init (beq_iff_eq.mp M.fn) (codeAny_mono (F.run _ X.stack _ _ ⟨_ :: us, []⟩ _ _ _ (E σ) (hr.make C us []) (J.env0.make C us []) bound rs w1) fun out s' got => ?_))
  match out, got with
  | .error y, got => exact hx σ pins _ _ y s' J got
  | .ok (.ret u), got =>
    obtain ⟨v, H3, J3, rv, ⟨nv, fine⟩⟩ := J.after got
    rw [nv] at rv
    exact ⟨rv, V.ref (s1.heap.objs.size + 1), H3, J3, rfl, fine⟩
/-! steps -/
variable {σ : L2.St} {H : Hp} {Q : VK} {E : XK} {m : Nat} {t tk : TA}
def clKN (m : Nat) (sp : Sp) (gV : List V → List V → List V) (E : XK) (Q : VK) : List V → Hp → Prop := fun zs H2 => ([] : List V).length = 0 ∧ zs.length = m ∧ sp (gV [] zs) H2 Q E
theorem r_callN0 (q : tk σ H (clKN m sp gV E Q)) : tCallN 0 m sp gV E tNil tk σ H Q := q
theorem r_clKN {zs vs : List V} (l : zs.length = m) (e : gV [] zs = vs) (q : sp (vs ++ []) H Q E) : clKN m sp gV E Q zs H := ⟨rfl, l, by rw [e]; rwa [List.append_nil] at q⟩
def mkKN (m : Nat) (C : Addr) (sp : Sp) (gV : List V → List V → List V) (E : XK) (Q : VK) : List V → Hp → Prop := fun zs H2 => ([] : List V).length = 0 ∧ zs.length = m ∧ ∀ x dx, H2 x = none → H2 dx = none → dx ≠ x → sp (gV [.ref x] zs) (upd (upd H2 dx (.own x)) x (.ins C dx [])) (fun v H3 => v = .non ∧ Q (.ref x) H3) E
theorem r_makeK0 (q : tk σ H (mkKN m C sp gV E Q)) : tMakeK C 0 m sp gV E tNil tk σ H Q := q
theorem r_mkKN {zs vs : List V} (l : zs.length = m) (e : ∀ x, gV [.ref x] zs = .ref x :: (vs ++ [])) (q : mkK C sp E Q vs H) : mkKN m C sp gV E Q zs H := ⟨rfl, l, fun x dx h1 h2 h3 => by rw [e]; exact q x dx h1 h2 h3⟩
theorem r_makeS {E : L2.St → XK} (q : t σ H (mkK C sp (E σ) Q)) : tMakeS C sp E t σ H Q := q
theorem r_callS {E : L2.St → XK} (q : t σ H fun vs H1 => sp vs H1 Q (E σ)) : tCallS sp E t σ H Q := q
end
theorem r_gCons {g : TG} {gs : TGs} {x : V} {xs : List V} {σ : L2.St} {H : Hp} {N : L2.St → Hp → Prop} (q : g x σ H fun σ' H' => gs xs σ' H' N) : gCons g gs (x :: xs) σ H N := ⟨x, xs, rfl, q⟩
theorem r_gNil {σ : L2.St} {H : Hp} {N : L2.St → Hp → Prop} (q : N σ H) : gNil [] σ H N := ⟨rfl, q⟩
theorem r_gName {n : Nat} {x : V} {σ : L2.St} {H : Hp} {N : L2.St → Hp → Prop} (q : N (σ.set n (some x)) H) : gName n x σ H N := q
theorem r_gTup {K : PySem.W.Frag} {n : Nat} {gs : TGs} {p : Addr} {xs : List V} {σ : L2.St} {H : Hp} {N : L2.St → Hp → Prop} (h : H p = some (.tup xs)) (l : xs.length = n) (q : gs xs σ H N) : gTup K n gs (.ref p) σ H N := ⟨p, xs, rfl, SqT.of h, l, q⟩
/-- a, b = c, d -/
def parK (i j : Nat) (σ : L2.St) (N : L2.St → Hp → Prop) : List V → Hp → Prop := fun vs H1 => ∃ v w, vs = [v, w] ∧ N ((σ.set i (some v)).set j (some w)) H1
theorem r_par {i j : Nat} {ta : TA} {D : Ends} {σ : L2.St} {H : Hp} (q : ta σ H (parK i j σ D.nx)) : tPar i j ta D σ H := q
theorem r_parK {i j : Nat} {N : L2.St → Hp → Prop} {σ : L2.St} {H : Hp} {v w : V} (q : N ((σ.set i (some v)).set j (some w)) H) : parK i j σ N [v, w] H := ⟨v, w, rfl, q⟩
/-! clauses -/
theorem r_wAs {D : Ends} {c : Value} {i : Nat} {ts : Addr → Value → Option Addr → TS} {a : Addr} {cls : Value} {d : Option Addr} {σ : L2.St} {H : Hp} (q : ts a cls d (asEnds i D) (σ.set i (some (.ref a))) H) : wCl D (c, some i, ts) a cls d σ H := q
theorem r_cl1 {K : PySem.W.Frag} {Wout : WX} {D : Ends} {c : Value} {o : Option Nat} {ts : Addr → Value → Option Addr → TS} {r : List Cl} {cls : Value} {d : Option Addr} {σ : L2.St} {H : Hp} (y : PySem.W.exmOne K cls c = some true) (q : ∀ a, H a = none → wCl D (c, o, ts) a cls d σ H) : wCls K Wout D ((c, o, ts) :: r) cls d σ H := ⟨true, y, fun _ => q, fun z => by cases z⟩
theorem r_cl0 {K : PySem.W.Frag} {Wout : WX} {D : Ends} {c : Value} {o : Option Nat} {ts : Addr → Value → Option Addr → TS} {r : List Cl} {cls : Value} {d : Option Addr} {σ : L2.St} {H : Hp} (n : PySem.W.exmOne K cls c = some false) (q : wCls K Wout D r cls d σ H) : wCls K Wout D ((c, o, ts) :: r) cls d σ H := ⟨false, n, fun z => (by cases z), fun _ => q⟩
theorem r_xf {a C dd : Addr} {f : Str} {te : TE} {σ : L2.St} {H : Hp} {Q : VK} {fs : List (Str × V)} {v : V} (h : H dd = some (.xd fs)) (l : fs.lookup f = some v) (s : te σ H (fun x H1 => x = .ref a ∧ H1 = H)) (m : ∀ {P P' : VK}, te σ H P → (∀ x H1, P x H1 → P' x H1) → te σ H P') (q : Q v H) : tXf a (.ref C) (some dd) C f te σ H Q :=
  m s fun x H1 e => ⟨e.1, rfl, dd, fs, v, rfl, by rw [e.2]; exact h, l, by rw [e.2]; exact q⟩
theorem r_smeth {C : Addr} {sp : Sp} {E : XK} {t : TA} {σ : L2.St} {H : Hp} {Q : VK} (q : t σ H fun vs H2 => sp vs H2 Q E) : tSMeth C sp E (tC (.ref C)) t σ H Q := ⟨rfl, q⟩
theorem r_yes {σ : L2.St} {H : Hp} {R : Bool → Hp → Prop} (q : R true H) : tYes σ H R := q
/-- each turn gives a new tuple of the same items -/
theorem r_lcT {J : It} {n : Nat} {G : Hp → Prop} {Y : Nat → Hp → V → Hp → Prop} {k : Nat} {te : TE} {σ : L2.St} {H1 : Hp} {Q : VK} (w : Walk J n G Y) (o : List V) (hn : n ≤ 50000) (hG : ∀ H' : Hp, Ex H1 H' → G H')
    (hw : ∀ x, wipe ((wipe σ [k]).set k (some x)) [k] = wipe σ [k])
    (he : ∀ i x H H', i < n → Ex H1 H → Y i H x H' → Ex H H' ∧ ∀ R : VK, (∀ t H4, Ex H' H4 → H4 t = some (.tup o) → R (.ref t) H4) → te ((wipe σ [k]).set k (some x)) H' R)
    (q : ∀ p ys H', H1 p = none → Ex H1 H' → H' p = some (.lst ys) → ys.length = n → (∀ y ∈ ys, ∃ t, y = .ref t ∧ H' t = some (.tup o)) → Q (.ref p) H') : lcB J (gName k) tYes te [k] σ Q H1 := by
  intro D hD
  refine lc_it w (fun i H => Ex H1 H ∧ ∃ ys, H D = some (.lst ys) ∧ ys.length = i ∧ ∀ y ∈ ys, ∃ t, y = .ref t ∧ H t = some (.tup o)) ⟨Ex.mut (Ex.refl _) hD, [], upd_same, rfl, fun _ z => by cases z⟩ (fun i H _ p => hG H p.1) ?_ (fun H p => let ⟨ys, h1, h2, h3⟩ := p.2; q D ys H hD p.1 h1 h2 h3)
  intro i x H H' hi p y
  obtain ⟨p1, ys, p2, p3, p4⟩ := p
  obtain ⟨e1, hte⟩ := he i x H H' hi p1 y
  refine ⟨hw x, ?_⟩
  refine r_yes ?_
  rw [if_pos rfl]
  refine hte _ fun t H4 e4 h4 => ⟨ys, e4 _ _ (e1 _ _ p2), sz_lt (by omega), Ex.mut ((p1.trans e1).trans e4) hD, ys ++ [.ref t], upd_same, (by rw [List.length_append, p3]; rfl), fun z hz => ?_⟩
  have keep' : ∀ {t : Addr} (l : List V), H4 t = some (.tup o) → upd H4 D (.lst l) t = some (.tup o) := fun {t} l ht => by
    rw [upd_ne (fun e => ?_)]
    · exact ht
    · rw [e, e4 _ _ (e1 _ _ p2)] at ht
      cases ht
  rcases List.mem_append.mp hz with hz | hz
  · obtain ⟨t', rfl, ht'⟩ := p4 z hz
    exact ⟨t', rfl, keep' _ (e4 _ _ (e1 _ _ ht'))⟩
  · obtain rfl := List.mem_singleton.mp hz
    exact ⟨t, rfl, keep' _ h4⟩
/-- the same, the items told by the turn -/
theorem r_lcI {J : It} {n : Nat} {G : Hp → Prop} {Y : Nat → Hp → V → Hp → Prop} {k : Nat} {te : TE} {σ : L2.St} {H1 : Hp} {Q : VK} (w : Walk J n G Y) (o : Nat → List V) (hn : n ≤ 50000) (hG : ∀ H' : Hp, Ex H1 H' → G H')
    (hw : ∀ x, wipe ((wipe σ [k]).set k (some x)) [k] = wipe σ [k])
    (he : ∀ i x H H', i < n → Ex H1 H → Y i H x H' → Ex H H' ∧ ∀ R : VK, (∀ t H4, Ex H' H4 → H4 t = some (.tup (o i)) → R (.ref t) H4) → te ((wipe σ [k]).set k (some x)) H' R)
    (q : ∀ p ys H', H1 p = none → Ex H1 H' → H' p = some (.lst ys) → ys.length = n → (∀ i y, ys[i]? = some y → ∃ t, y = .ref t ∧ H' t = some (.tup (o i))) → Q (.ref p) H') : lcB J (gName k) tYes te [k] σ Q H1 := by
  intro D hD
  refine lc_it w (fun i H => Ex H1 H ∧ ∃ ys, H D = some (.lst ys) ∧ ys.length = i ∧ ∀ j y, ys[j]? = some y → ∃ t, y = .ref t ∧ H t = some (.tup (o j))) ⟨Ex.mut (Ex.refl _) hD, [], upd_same, rfl, fun j y z => by simp at z⟩ (fun i H _ p => hG H p.1) ?_ (fun H p => let ⟨ys, h1, h2, h3⟩ := p.2; q D ys H hD p.1 h1 h2 h3)
  intro i x H H' hi p y
  obtain ⟨p1, ys, p2, p3, p4⟩ := p
  obtain ⟨e1, hte⟩ := he i x H H' hi p1 y
  refine ⟨hw x, ?_⟩
  refine r_yes ?_
  rw [if_pos rfl]
  refine hte _ fun t H4 e4 h4 => ⟨ys, e4 _ _ (e1 _ _ p2), sz_lt (by omega), Ex.mut ((p1.trans e1).trans e4) hD, ys ++ [.ref t], upd_same, (by rw [List.length_append, p3]; rfl), fun j z hz => ?_⟩
  have keep' : ∀ {t : Addr} {u : List V} (l : List V), H4 t = some (.tup u) → upd H4 D (.lst l) t = some (.tup u) := fun {t u} l ht => by
    rw [upd_ne (fun e => ?_)]
    · exact ht
    · rw [e, e4 _ _ (e1 _ _ p2)] at ht
      cases ht
  by_cases hj : j < ys.length
  · rw [List.getElem?_append_left hj] at hz
    obtain ⟨t', rfl, ht'⟩ := p4 j z hz
    exact ⟨t', rfl, keep' _ (e4 _ _ (e1 _ _ ht'))⟩
  · rw [List.getElem?_append_right (by omega)] at hz
    have : j - ys.length = 0 := by
      have := (List.getElem?_eq_some_iff.mp hz).1
      simp at this
      omega
    rw [this] at hz
    have hz' : V.ref t = z := Option.some.inj hz
    have : j = i := by omega
    subst this
    exact ⟨t, hz'.symm, keep' _ h4⟩
/-- the body of a for's reading -/
def forB (J : It) (g : TG) (tb : TS) (D : Ends) (σ : L2.St) (H1 : Hp) : Prop := ∃ W : Nat → Nat → L2.St → Hp → Prop, (∃ m, W 0 m σ H1) ∧ ∀ i m σ H, W i m σ H →
  (J.stop i H ∧ D.nx σ H) ∨ (J.go i H ∧ ∃ N : L2.St → Hp → Prop, (∀ σ' H', N σ' H' → ∃ m', m' < m ∧ W (i + 1) m' σ' H') ∧ ∀ x H', J.yld i H x H' → g x σ H' fun σ2 H2 => tb { D with nx := N, ct := N, bk := D.nx } σ2 H2)
theorem r_for {wi : TI} {g : TG} {tb : TS} {D : Ends} {σ : L2.St} {H : Hp} (q : wi σ H fun J H1 => forB J g tb D σ H1) : tFor wi g tb D σ H := q
theorem for_of {J : It} {n : Nat} {G : Hp → Prop} {Y : Nat → Hp → V → Hp → Prop} (w : Walk J n G Y) {g : TG} {tb : TS} {D : Ends} {σ : L2.St} {H : Hp} (Pv : Nat → L2.St → Hp → Prop) (h0 : Pv 0 σ H) (hG : ∀ i σ H, i ≤ n → Pv i σ H → G H)
    (hs : ∀ i x σ H H', i < n → Pv i σ H → Y i H x H' → g x σ H' fun σ2 H2 => tb { D with nx := Pv (i + 1), ct := Pv (i + 1), bk := D.nx } σ2 H2) (hd : ∀ σ H, Pv n σ H → D.nx σ H) : forB J g tb D σ H := for_it w Pv h0 hG hs hd
theorem cr_isi {X : Cx} {K : PySem.W.Frag} (h : X.K = K) : CallR X (.builtin "isinstance") (rIsi K) := by
  subst h
  exact call_isi
end GS
namespace K03
open PySem PySem.Spec PyProof.Rows L2 GS
def topS (i : Nat) : Stmt := PySem.Challenge.pw_goodsigns_k03_bounds_by_own_squares.main.body.getD i (.Pass ⟨0, 0, 0, 0⟩)
abbrev s_BadNumber_init : Stmt := inClass (topS 2) 0
abbrev s_BadBound_init : Stmt := inClass (topS 3) 0
abbrev s_Misfit_init : Stmt := inClass (topS 4) 0
abbrev s_BadText_init : Stmt := inClass (topS 5) 0
abbrev s_is_integer : Stmt := topS 8
abbrev s_is_within : Stmt := topS 9
abbrev s_need_integer : Stmt := topS 10
abbrev s_items_of : Stmt := topS 13
abbrev s_is_integer_text : Stmt := topS 14
abbrev s_integer_at : Stmt := topS 15
abbrev s_need_end : Stmt := topS 16
abbrev s_integer_text : Stmt := topS 17
abbrev s_Bound_init : Stmt := inClass (topS 19) 0
abbrev s_Bound_eq : Stmt := inClass (topS 19) 1
abbrev s_Bound_str : Stmt := inClass (topS 19) 2
abbrev s_Bound_read : Stmt := inClass (topS 19) 3
abbrev s_need_bound : Stmt := topS 20
abbrev s_common_under : Stmt := topS 21
abbrev s_sign_of_integer : Stmt := topS 22
abbrev s_sign_of : Stmt := topS 23
abbrev s_added : Stmt := topS 24
abbrev s_multiplied : Stmt := topS 25
abbrev s_at_most : Stmt := topS 26
abbrev s__law_bag : Stmt := topS 28
abbrev s__law_draw : Stmt := topS 29
abbrev s__law_pick : Stmt := topS 30
abbrev s__law_great : Stmt := topS 31
abbrev s__law_signed : Stmt := topS 32
abbrev s__law_root : Stmt := topS 33
abbrev s__law_sign : Stmt := topS 34
abbrev s__law_told : Stmt := topS 35
abbrev s__law_is : Stmt := topS 36
abbrev s__law_one_right : Stmt := topS 37
abbrev s__law_other : Stmt := topS 38
abbrev s__law_common : Stmt := topS 39
abbrev s__law_done : Stmt := topS 40
abbrev s__law_two_right : Stmt := topS 41
abbrev s__law_made : Stmt := topS 42
abbrev s__law_refused : Stmt := topS 43
abbrev s_law : Stmt := topS 44
theorem sc_BadNumber_init : FnScope ["self", "part"] ["self", "part"] (defScope s_BadNumber_init) := ⟨rfl, rfl, rfl, by decide +kernel, rfl, by decide +kernel, by decide +kernel⟩
theorem sc_BadBound_init : FnScope ["self", "part"] ["self", "part"] (defScope s_BadBound_init) := ⟨rfl, rfl, rfl, by decide +kernel, rfl, by decide +kernel, by decide +kernel⟩
theorem sc_Misfit_init : FnScope ["self", "part"] ["self", "part"] (defScope s_Misfit_init) := ⟨rfl, rfl, rfl, by decide +kernel, rfl, by decide +kernel, by decide +kernel⟩
theorem sc_BadText_init : FnScope ["self", "line", "item"] ["self", "line", "item"] (defScope s_BadText_init) := ⟨rfl, rfl, rfl, by decide +kernel, rfl, by decide +kernel, by decide +kernel⟩
theorem sc_is_integer : FnScope ["value"] ["value"] (defScope s_is_integer) := ⟨rfl, rfl, rfl, by decide +kernel, rfl, by decide +kernel, by decide +kernel⟩
theorem sc_is_within : FnScope ["value", "least", "most"] ["value", "least", "most"] (defScope s_is_within) := ⟨rfl, rfl, rfl, by decide +kernel, rfl, by decide +kernel, by decide +kernel⟩
theorem sc_need_integer : FnScope ["value", "part", "least", "most"] ["value", "part", "least", "most"] (defScope s_need_integer) := ⟨rfl, rfl, rfl, by decide +kernel, rfl, by decide +kernel, by decide +kernel⟩
theorem sc_items_of : FnScope ["text"] ["text"] (defScope s_items_of) := ⟨rfl, rfl, rfl, by decide +kernel, rfl, by decide +kernel, by decide +kernel⟩
theorem sc_is_integer_text : FnScope ["item", "digits", "each"] ["item"] (defScope s_is_integer_text) := ⟨rfl, rfl, rfl, by decide +kernel, rfl, by decide +kernel, by decide +kernel⟩
theorem sc_integer_at : FnScope ["items", "at", "least", "most", "number"] ["items", "at", "least", "most"] (defScope s_integer_at) := ⟨rfl, rfl, rfl, by decide +kernel, rfl, by decide +kernel, by decide +kernel⟩
theorem sc_need_end : FnScope ["items", "many"] ["items", "many"] (defScope s_need_end) := ⟨rfl, rfl, rfl, by decide +kernel, rfl, by decide +kernel, by decide +kernel⟩
theorem sc_integer_text : FnScope ["number", "chunk", "left", "parts", "sign"] ["number"] (defScope s_integer_text) := ⟨rfl, rfl, rfl, by decide +kernel, rfl, by decide +kernel, by decide +kernel⟩
theorem sc_Bound_init : FnScope ["self", "whole", "part", "under"] ["self", "whole", "part", "under"] (defScope s_Bound_init) := ⟨rfl, rfl, rfl, by decide +kernel, rfl, by decide +kernel, by decide +kernel⟩
theorem sc_Bound_eq : FnScope ["self", "other"] ["self", "other"] (defScope s_Bound_eq) := ⟨rfl, rfl, rfl, by decide +kernel, rfl, by decide +kernel, by decide +kernel⟩
theorem sc_Bound_str : FnScope ["self", "each"] ["self"] (defScope s_Bound_str) := ⟨rfl, rfl, rfl, by decide +kernel, rfl, by decide +kernel, by decide +kernel⟩
theorem sc_Bound_read : FnScope ["text", "items", "whole", "part", "under"] ["text"] (defScope s_Bound_read) := ⟨rfl, rfl, rfl, by decide +kernel, rfl, by decide +kernel, by decide +kernel⟩
theorem sc_need_bound : FnScope ["value", "part"] ["value", "part"] (defScope s_need_bound) := ⟨rfl, rfl, rfl, by decide +kernel, rfl, by decide +kernel, by decide +kernel⟩
theorem sc_common_under : FnScope ["one", "other"] ["one", "other"] (defScope s_common_under) := ⟨rfl, rfl, rfl, by decide +kernel, rfl, by decide +kernel, by decide +kernel⟩
theorem sc_sign_of_integer : FnScope ["number"] ["number"] (defScope s_sign_of_integer) := ⟨rfl, rfl, rfl, by decide +kernel, rfl, by decide +kernel, by decide +kernel⟩
theorem sc_sign_of : FnScope ["bound", "whole", "part", "rooted"] ["bound"] (defScope s_sign_of) := ⟨rfl, rfl, rfl, by decide +kernel, rfl, by decide +kernel, by decide +kernel⟩
theorem sc_added : FnScope ["one", "other"] ["one", "other"] (defScope s_added) := ⟨rfl, rfl, rfl, by decide +kernel, rfl, by decide +kernel, by decide +kernel⟩
theorem sc_multiplied : FnScope ["one", "other", "under", "whole"] ["one", "other"] (defScope s_multiplied) := ⟨rfl, rfl, rfl, by decide +kernel, rfl, by decide +kernel, by decide +kernel⟩
theorem sc_at_most : FnScope ["one", "other", "under"] ["one", "other"] (defScope s_at_most) := ⟨rfl, rfl, rfl, by decide +kernel, rfl, by decide +kernel, by decide +kernel⟩
theorem sc__law_bag : FnScope ["script", "cell"] ["script"] (defScope s__law_bag) := ⟨rfl, rfl, rfl, by decide +kernel, rfl, by decide +kernel, by decide +kernel⟩
theorem sc__law_draw : FnScope ["bag", "many", "left", "at", "cell", "mixed"] ["bag", "many"] (defScope s__law_draw) := ⟨rfl, rfl, rfl, by decide +kernel, rfl, by decide +kernel, by decide +kernel⟩
theorem sc__law_pick : FnScope ["bag", "some"] ["bag", "some"] (defScope s__law_pick) := ⟨rfl, rfl, rfl, by decide +kernel, rfl, by decide +kernel, by decide +kernel⟩
theorem sc__law_great : FnScope ["bag"] ["bag"] (defScope s__law_great) := ⟨rfl, rfl, rfl, by decide +kernel, rfl, by decide +kernel, by decide +kernel⟩
theorem sc__law_signed : FnScope ["bag", "number"] ["bag", "number"] (defScope s__law_signed) := ⟨rfl, rfl, rfl, by decide +kernel, rfl, by decide +kernel, by decide +kernel⟩
theorem sc__law_root : FnScope ["number", "near"] ["number"] (defScope s__law_root) := ⟨rfl, rfl, rfl, by decide +kernel, rfl, by decide +kernel, by decide +kernel⟩
theorem sc__law_sign : FnScope ["told", "whole", "part", "under", "square", "low"] ["told"] (defScope s__law_sign) := ⟨rfl, rfl, rfl, by decide +kernel, rfl, by decide +kernel, by decide +kernel⟩
theorem sc__law_told : FnScope ["bag", "way", "part", "under", "near", "root"] ["bag"] (defScope s__law_told) := ⟨rfl, rfl, rfl, by decide +kernel, rfl, by decide +kernel, by decide +kernel⟩
theorem sc__law_is : FnScope ["bound", "told", "part"] ["bound", "told"] (defScope s__law_is) := ⟨rfl, rfl, rfl, by decide +kernel, rfl, by decide +kernel, by decide +kernel⟩
theorem sc__law_one_right : FnScope ["bag", "told", "whole", "part", "under", "bound", "other"] ["bag", "told"] (defScope s__law_one_right) := ⟨rfl, rfl, rfl, by decide +kernel, rfl, by decide +kernel, by decide +kernel⟩
theorem sc__law_other : FnScope ["bag", "told", "way", "other"] ["bag", "told"] (defScope s__law_other) := ⟨rfl, rfl, rfl, by decide +kernel, rfl, by decide +kernel, by decide +kernel⟩
theorem sc__law_common : FnScope ["one", "other"] ["one", "other"] (defScope s__law_common) := ⟨rfl, rfl, rfl, by decide +kernel, rfl, by decide +kernel, by decide +kernel⟩
theorem sc__law_done : FnScope ["way", "one", "other", "error"] ["way", "one", "other"] (defScope s__law_done) := ⟨rfl, rfl, rfl, by decide +kernel, rfl, by decide +kernel, by decide +kernel⟩
theorem sc__law_two_right : FnScope ["bag", "one", "other", "mine", "its", "under", "told", "way", "total", "product", "left", "gain"] ["bag", "one", "other"] (defScope s__law_two_right) := ⟨rfl, rfl, rfl, by decide +kernel, rfl, by decide +kernel, by decide +kernel⟩
theorem sc__law_made : FnScope ["whole", "part", "under", "error"] ["whole", "part", "under"] (defScope s__law_made) := ⟨rfl, rfl, rfl, by decide +kernel, rfl, by decide +kernel, by decide +kernel⟩
theorem sc__law_refused : FnScope ["bag", "told", "whole", "part", "under", "odd", "one", "other", "below", "made", "word", "bound", "strange", "way", "told_errors", "error"] ["bag", "told"] (defScope s__law_refused) := ⟨rfl, rfl, rfl, by decide +kernel, rfl, by decide +kernel, by decide +kernel⟩
theorem sc_law : FnScope ["script", "bag", "turn", "told", "other"] ["script"] (defScope s_law) := ⟨rfl, rfl, rfl, by decide +kernel, rfl, by decide +kernel, by decide +kernel⟩
abbrev tys : List String := ["int", "bool", "str", "NoneType", "list", "tuple", "dict"]
def fa_0 : List He.Fa := [.glo "is_integer",
  .glo "is_within",
  .glo "need_integer",
  .glo "items_of",
  .glo "is_integer_text",
  .glo "integer_at",
  .glo "need_end",
  .glo "integer_text",
  .glo "need_bound",
  .glo "common_under",
  .glo "sign_of_integer",
  .glo "sign_of",
  .glo "added",
  .glo "multiplied",
  .glo "at_most",
  .glo "_law_bag",
  .glo "_law_draw",
  .glo "_law_pick",
  .glo "_law_great",
  .glo "_law_signed",
  .glo "_law_root",
  .glo "_law_sign",
  .glo "_law_told",
  .glo "_law_is",
  .glo "_law_one_right",
  .glo "_law_other",
  .glo "_law_common",
  .glo "_law_done",
  .glo "_law_two_right",
  .glo "_law_made"]
def fa_1 : List He.Fa := [.glo "_law_refused",
  .glo "law",
  .glo "SignsError",
  .glo "BadNumber",
  .glo "BadBound",
  .glo "Misfit",
  .glo "BadText",
  .glo "Bound",
  .keep "is_integer",
  .keep "is_within",
  .keep "need_integer",
  .keep "items_of",
  .keep "is_integer_text",
  .keep "integer_at",
  .keep "need_end",
  .keep "integer_text",
  .keep "need_bound",
  .keep "common_under",
  .keep "sign_of_integer",
  .keep "sign_of",
  .keep "added",
  .keep "multiplied",
  .keep "at_most",
  .keep "_law_bag",
  .keep "_law_draw",
  .keep "_law_pick",
  .keep "_law_great",
  .keep "_law_signed",
  .keep "_law_root",
  .keep "_law_sign"]
def fa_2 : List He.Fa := [.keep "_law_told",
  .keep "_law_is",
  .keep "_law_one_right",
  .keep "_law_other",
  .keep "_law_common",
  .keep "_law_done",
  .keep "_law_two_right",
  .keep "_law_made",
  .keep "_law_refused",
  .keep "law",
  .free "isinstance",
  .free "int",
  .free "bool",
  .free "str",
  .free "list",
  .free "len",
  .free "abs",
  .free "range",
  .free "all",
  .str "DIGITS" "0123456789",
  .int "MOST_DIGITS" 60,
  .cls "Bound",
  .noat "Bound" "whole",
  .noat "Bound" "part",
  .noat "Bound" "under",
  .mkr "Bound",
  .meth "Bound" "__eq__",
  .meth "Bound" "__str__"]
def fa_all : List He.Fa := fa_0 ++ fa_1 ++ fa_2
def ex_0 : List Chk := [clsB "Bound" tys,
  neB "Bound",
  smB "Bound" "read",
  topB,
  errB "BadNumber" ["part"] ["BadNumber", "SignsError"] ["BadBound", "Misfit"],
  errB "BadBound" ["part"] ["BadBound", "SignsError"] ["Misfit", "BadNumber"],
  errB "Misfit" ["part"] ["Misfit", "SignsError"] ["BadBound", "BadNumber"],
  errB "BadText" ["line", "item"] ["SignsError"] []]
def ex_all : List Chk := ex_0
def fn_0 : List He5.DefA := [⟨fun K => He.ma K (He.ga K "BadNumber") "__init__", "__init__", "BadNumber.__init__", defArgs s_BadNumber_init, defBody s_BadNumber_init, defScope s_BadNumber_init, [], []⟩,
  ⟨fun K => He.ma K (He.ga K "BadBound") "__init__", "__init__", "BadBound.__init__", defArgs s_BadBound_init, defBody s_BadBound_init, defScope s_BadBound_init, [], []⟩,
  ⟨fun K => He.ma K (He.ga K "Misfit") "__init__", "__init__", "Misfit.__init__", defArgs s_Misfit_init, defBody s_Misfit_init, defScope s_Misfit_init, [], []⟩,
  ⟨fun K => He.ma K (He.ga K "BadText") "__init__", "__init__", "BadText.__init__", defArgs s_BadText_init, defBody s_BadText_init, defScope s_BadText_init, [], []⟩,
  ⟨fun K => He.ga K "is_integer", "is_integer", "is_integer", defArgs s_is_integer, defBody s_is_integer, defScope s_is_integer, [], []⟩,
  ⟨fun K => He.ga K "is_within", "is_within", "is_within", defArgs s_is_within, defBody s_is_within, defScope s_is_within, [], []⟩,
  ⟨fun K => He.ga K "need_integer", "need_integer", "need_integer", defArgs s_need_integer, defBody s_need_integer, defScope s_need_integer, [], []⟩,
  ⟨fun K => He.ga K "items_of", "items_of", "items_of", defArgs s_items_of, defBody s_items_of, defScope s_items_of, [], []⟩,
  ⟨fun K => He.ga K "is_integer_text", "is_integer_text", "is_integer_text", defArgs s_is_integer_text, defBody s_is_integer_text, defScope s_is_integer_text, [], []⟩,
  ⟨fun K => He.ga K "integer_at", "integer_at", "integer_at", defArgs s_integer_at, defBody s_integer_at, defScope s_integer_at, [], []⟩,
  ⟨fun K => He.ga K "need_end", "need_end", "need_end", defArgs s_need_end, defBody s_need_end, defScope s_need_end, [], []⟩,
  ⟨fun K => He.ga K "integer_text", "integer_text", "integer_text", defArgs s_integer_text, defBody s_integer_text, defScope s_integer_text, [], []⟩,
  ⟨fun K => He.ma K (He.ga K "Bound") "__init__", "__init__", "Bound.__init__", defArgs s_Bound_init, defBody s_Bound_init, defScope s_Bound_init, [], []⟩,
  ⟨fun K => He.ma K (He.ga K "Bound") "__eq__", "__eq__", "Bound.__eq__", defArgs s_Bound_eq, defBody s_Bound_eq, defScope s_Bound_eq, [], []⟩,
  ⟨fun K => He.ma K (He.ga K "Bound") "__str__", "__str__", "Bound.__str__", defArgs s_Bound_str, defBody s_Bound_str, defScope s_Bound_str, [], []⟩,
  ⟨fun K => He5.wf K (He.ga K "Bound") "staticmethod" "read", "read", "Bound.read", defArgs s_Bound_read, defBody s_Bound_read, defScope s_Bound_read, [], []⟩,
  ⟨fun K => He.ga K "need_bound", "need_bound", "need_bound", defArgs s_need_bound, defBody s_need_bound, defScope s_need_bound, [], []⟩,
  ⟨fun K => He.ga K "common_under", "common_under", "common_under", defArgs s_common_under, defBody s_common_under, defScope s_common_under, [], []⟩,
  ⟨fun K => He.ga K "sign_of_integer", "sign_of_integer", "sign_of_integer", defArgs s_sign_of_integer, defBody s_sign_of_integer, defScope s_sign_of_integer, [], []⟩,
  ⟨fun K => He.ga K "sign_of", "sign_of", "sign_of", defArgs s_sign_of, defBody s_sign_of, defScope s_sign_of, [], []⟩,
  ⟨fun K => He.ga K "added", "added", "added", defArgs s_added, defBody s_added, defScope s_added, [], []⟩,
  ⟨fun K => He.ga K "multiplied", "multiplied", "multiplied", defArgs s_multiplied, defBody s_multiplied, defScope s_multiplied, [], []⟩,
  ⟨fun K => He.ga K "at_most", "at_most", "at_most", defArgs s_at_most, defBody s_at_most, defScope s_at_most, [], []⟩,
  ⟨fun K => He.ga K "_law_bag", "_law_bag", "_law_bag", defArgs s__law_bag, defBody s__law_bag, defScope s__law_bag, [], []⟩,
  ⟨fun K => He.ga K "_law_draw", "_law_draw", "_law_draw", defArgs s__law_draw, defBody s__law_draw, defScope s__law_draw, [], []⟩,
  ⟨fun K => He.ga K "_law_pick", "_law_pick", "_law_pick", defArgs s__law_pick, defBody s__law_pick, defScope s__law_pick, [], []⟩,
  ⟨fun K => He.ga K "_law_great", "_law_great", "_law_great", defArgs s__law_great, defBody s__law_great, defScope s__law_great, [], []⟩,
  ⟨fun K => He.ga K "_law_signed", "_law_signed", "_law_signed", defArgs s__law_signed, defBody s__law_signed, defScope s__law_signed, [], []⟩,
  ⟨fun K => He.ga K "_law_root", "_law_root", "_law_root", defArgs s__law_root, defBody s__law_root, defScope s__law_root, [], []⟩,
  ⟨fun K => He.ga K "_law_sign", "_law_sign", "_law_sign", defArgs s__law_sign, defBody s__law_sign, defScope s__law_sign, [], []⟩]
def fn_1 : List He5.DefA := [⟨fun K => He.ga K "_law_told", "_law_told", "_law_told", defArgs s__law_told, defBody s__law_told, defScope s__law_told, [], []⟩,
  ⟨fun K => He.ga K "_law_is", "_law_is", "_law_is", defArgs s__law_is, defBody s__law_is, defScope s__law_is, [], []⟩,
  ⟨fun K => He.ga K "_law_one_right", "_law_one_right", "_law_one_right", defArgs s__law_one_right, defBody s__law_one_right, defScope s__law_one_right, [], []⟩,
  ⟨fun K => He.ga K "_law_other", "_law_other", "_law_other", defArgs s__law_other, defBody s__law_other, defScope s__law_other, [], []⟩,
  ⟨fun K => He.ga K "_law_common", "_law_common", "_law_common", defArgs s__law_common, defBody s__law_common, defScope s__law_common, [], []⟩,
  ⟨fun K => He.ga K "_law_done", "_law_done", "_law_done", defArgs s__law_done, defBody s__law_done, defScope s__law_done, [], []⟩,
  ⟨fun K => He.ga K "_law_two_right", "_law_two_right", "_law_two_right", defArgs s__law_two_right, defBody s__law_two_right, defScope s__law_two_right, [], []⟩,
  ⟨fun K => He.ga K "_law_made", "_law_made", "_law_made", defArgs s__law_made, defBody s__law_made, defScope s__law_made, [], []⟩,
  ⟨fun K => He.ga K "_law_refused", "_law_refused", "_law_refused", defArgs s__law_refused, defBody s__law_refused, defScope s__law_refused, [], []⟩,
  ⟨fun K => He.ga K "law", "law", "law", defArgs s_law, defBody s_law, defScope s_law, [], []⟩]
def fn_all : List He5.DefA := fn_0 ++ fn_1
structure Txt (K : PySem.W.Frag) (mg : Str → Option Value) : Prop where
  g_is_integer : mg "is_integer" = some (.ref (He.ga K "is_integer"))
  g_is_within : mg "is_within" = some (.ref (He.ga K "is_within"))
  g_need_integer : mg "need_integer" = some (.ref (He.ga K "need_integer"))
  g_items_of : mg "items_of" = some (.ref (He.ga K "items_of"))
  g_is_integer_text : mg "is_integer_text" = some (.ref (He.ga K "is_integer_text"))
  g_integer_at : mg "integer_at" = some (.ref (He.ga K "integer_at"))
  g_need_end : mg "need_end" = some (.ref (He.ga K "need_end"))
  g_integer_text : mg "integer_text" = some (.ref (He.ga K "integer_text"))
  g_need_bound : mg "need_bound" = some (.ref (He.ga K "need_bound"))
  g_common_under : mg "common_under" = some (.ref (He.ga K "common_under"))
  g_sign_of_integer : mg "sign_of_integer" = some (.ref (He.ga K "sign_of_integer"))
  g_sign_of : mg "sign_of" = some (.ref (He.ga K "sign_of"))
  g_added : mg "added" = some (.ref (He.ga K "added"))
  g_multiplied : mg "multiplied" = some (.ref (He.ga K "multiplied"))
  g_at_most : mg "at_most" = some (.ref (He.ga K "at_most"))
  g__law_bag : mg "_law_bag" = some (.ref (He.ga K "_law_bag"))
  g__law_draw : mg "_law_draw" = some (.ref (He.ga K "_law_draw"))
  g__law_pick : mg "_law_pick" = some (.ref (He.ga K "_law_pick"))
  g__law_great : mg "_law_great" = some (.ref (He.ga K "_law_great"))
  g__law_signed : mg "_law_signed" = some (.ref (He.ga K "_law_signed"))
  g__law_root : mg "_law_root" = some (.ref (He.ga K "_law_root"))
  g__law_sign : mg "_law_sign" = some (.ref (He.ga K "_law_sign"))
  g__law_told : mg "_law_told" = some (.ref (He.ga K "_law_told"))
  g__law_is : mg "_law_is" = some (.ref (He.ga K "_law_is"))
  g__law_one_right : mg "_law_one_right" = some (.ref (He.ga K "_law_one_right"))
  g__law_other : mg "_law_other" = some (.ref (He.ga K "_law_other"))
  g__law_common : mg "_law_common" = some (.ref (He.ga K "_law_common"))
  g__law_done : mg "_law_done" = some (.ref (He.ga K "_law_done"))
  g__law_two_right : mg "_law_two_right" = some (.ref (He.ga K "_law_two_right"))
  g__law_made : mg "_law_made" = some (.ref (He.ga K "_law_made"))
  g__law_refused : mg "_law_refused" = some (.ref (He.ga K "_law_refused"))
  g_law : mg "law" = some (.ref (He.ga K "law"))
  g_SignsError : mg "SignsError" = some (.ref (He.ga K "SignsError"))
  g_BadNumber : mg "BadNumber" = some (.ref (He.ga K "BadNumber"))
  g_BadBound : mg "BadBound" = some (.ref (He.ga K "BadBound"))
  g_Misfit : mg "Misfit" = some (.ref (He.ga K "Misfit"))
  g_BadText : mg "BadText" = some (.ref (He.ga K "BadText"))
  g_Bound : mg "Bound" = some (.ref (He.ga K "Bound"))
  k_is_integer : PySem.W.keepIn K (.ref (He.ga K "is_integer")) = true
  k_is_within : PySem.W.keepIn K (.ref (He.ga K "is_within")) = true
  k_need_integer : PySem.W.keepIn K (.ref (He.ga K "need_integer")) = true
  k_items_of : PySem.W.keepIn K (.ref (He.ga K "items_of")) = true
  k_is_integer_text : PySem.W.keepIn K (.ref (He.ga K "is_integer_text")) = true
  k_integer_at : PySem.W.keepIn K (.ref (He.ga K "integer_at")) = true
  k_need_end : PySem.W.keepIn K (.ref (He.ga K "need_end")) = true
  k_integer_text : PySem.W.keepIn K (.ref (He.ga K "integer_text")) = true
  k_need_bound : PySem.W.keepIn K (.ref (He.ga K "need_bound")) = true
  k_common_under : PySem.W.keepIn K (.ref (He.ga K "common_under")) = true
  k_sign_of_integer : PySem.W.keepIn K (.ref (He.ga K "sign_of_integer")) = true
  k_sign_of : PySem.W.keepIn K (.ref (He.ga K "sign_of")) = true
  k_added : PySem.W.keepIn K (.ref (He.ga K "added")) = true
  k_multiplied : PySem.W.keepIn K (.ref (He.ga K "multiplied")) = true
  k_at_most : PySem.W.keepIn K (.ref (He.ga K "at_most")) = true
  k__law_bag : PySem.W.keepIn K (.ref (He.ga K "_law_bag")) = true
  k__law_draw : PySem.W.keepIn K (.ref (He.ga K "_law_draw")) = true
  k__law_pick : PySem.W.keepIn K (.ref (He.ga K "_law_pick")) = true
  k__law_great : PySem.W.keepIn K (.ref (He.ga K "_law_great")) = true
  k__law_signed : PySem.W.keepIn K (.ref (He.ga K "_law_signed")) = true
  k__law_root : PySem.W.keepIn K (.ref (He.ga K "_law_root")) = true
  k__law_sign : PySem.W.keepIn K (.ref (He.ga K "_law_sign")) = true
  k__law_told : PySem.W.keepIn K (.ref (He.ga K "_law_told")) = true
  k__law_is : PySem.W.keepIn K (.ref (He.ga K "_law_is")) = true
  k__law_one_right : PySem.W.keepIn K (.ref (He.ga K "_law_one_right")) = true
  k__law_other : PySem.W.keepIn K (.ref (He.ga K "_law_other")) = true
  k__law_common : PySem.W.keepIn K (.ref (He.ga K "_law_common")) = true
  k__law_done : PySem.W.keepIn K (.ref (He.ga K "_law_done")) = true
  k__law_two_right : PySem.W.keepIn K (.ref (He.ga K "_law_two_right")) = true
  k__law_made : PySem.W.keepIn K (.ref (He.ga K "_law_made")) = true
  k__law_refused : PySem.W.keepIn K (.ref (He.ga K "_law_refused")) = true
  k_law : PySem.W.keepIn K (.ref (He.ga K "law")) = true
  b_isinstance : mg "isinstance" = none
  b_int : mg "int" = none
  b_bool : mg "bool" = none
  b_str : mg "str" = none
  b_list : mg "list" = none
  b_len : mg "len" = none
  b_abs : mg "abs" = none
  b_range : mg "range" = none
  b_all : mg "all" = none
  c_DIGITS : ∃ t, mg "DIGITS" = some (.str "0123456789" t)
  c_MOST_DIGITS : ∃ t, mg "MOST_DIGITS" = some (.int 60 t)
  cl_Bound : Cls K (He.ga K "Bound")
  na_Bound_whole : NoAttr K (He.ga K "Bound") "whole"
  na_Bound_part : NoAttr K (He.ga K "Bound") "part"
  na_Bound_under : NoAttr K (He.ga K "Bound") "under"
  mk_Bound : Mk K (He.ga K "Bound") (He.ma K (He.ga K "Bound") "__init__")
  me_Bound_eq : Meth K (He.ga K "Bound") "__eq__" (He.ma K (He.ga K "Bound") "__eq__")
  me_Bound_str : Meth K (He.ga K "Bound") "__str__" (He.ma K (He.ga K "Bound") "__str__")
  cc_Bound : ClsC K "Bound" tys
  ne_Bound : PySem.W.findIn K (.ref (He.ga K "Bound")) "__ne__" = some (some (.builtin "object.__ne__"))
  sm_Bound_read : SMet K (He.ga K "Bound") (.type "type") "read" (He.ma K (He.ga K "Bound") "read") (He5.wf K (He.ga K "Bound") "staticmethod" "read") ∧ ClX.CRead K (He.ga K "Bound") (.type "type") ∧ PySem.W.keepIn K (.ref (He5.wf K (He.ga K "Bound") "staticmethod" "read")) = true
  top : topB K = true
  e_BadNumber : ErrC K "BadNumber" ["part"] ["BadNumber", "SignsError"] ["BadBound", "Misfit"]
  e_BadBound : ErrC K "BadBound" ["part"] ["BadBound", "SignsError"] ["Misfit", "BadNumber"]
  e_Misfit : ErrC K "Misfit" ["part"] ["Misfit", "SignsError"] ["BadBound", "BadNumber"]
  e_BadText : ErrC K "BadText" ["line", "item"] ["SignsError"] []
  d_BadNumber_init : ∃ fd, FunD K "__init__" "BadNumber.__init__" (defArgs s_BadNumber_init) (defBody s_BadNumber_init) (defScope s_BadNumber_init) [] [] (He.ma K (He.ga K "BadNumber") "__init__") fd
  d_BadBound_init : ∃ fd, FunD K "__init__" "BadBound.__init__" (defArgs s_BadBound_init) (defBody s_BadBound_init) (defScope s_BadBound_init) [] [] (He.ma K (He.ga K "BadBound") "__init__") fd
  d_Misfit_init : ∃ fd, FunD K "__init__" "Misfit.__init__" (defArgs s_Misfit_init) (defBody s_Misfit_init) (defScope s_Misfit_init) [] [] (He.ma K (He.ga K "Misfit") "__init__") fd
  d_BadText_init : ∃ fd, FunD K "__init__" "BadText.__init__" (defArgs s_BadText_init) (defBody s_BadText_init) (defScope s_BadText_init) [] [] (He.ma K (He.ga K "BadText") "__init__") fd
  d_is_integer : ∃ fd, FunD K "is_integer" "is_integer" (defArgs s_is_integer) (defBody s_is_integer) (defScope s_is_integer) [] [] (He.ga K "is_integer") fd
  d_is_within : ∃ fd, FunD K "is_within" "is_within" (defArgs s_is_within) (defBody s_is_within) (defScope s_is_within) [] [] (He.ga K "is_within") fd
  d_need_integer : ∃ fd, FunD K "need_integer" "need_integer" (defArgs s_need_integer) (defBody s_need_integer) (defScope s_need_integer) [] [] (He.ga K "need_integer") fd
  d_items_of : ∃ fd, FunD K "items_of" "items_of" (defArgs s_items_of) (defBody s_items_of) (defScope s_items_of) [] [] (He.ga K "items_of") fd
  d_is_integer_text : ∃ fd, FunD K "is_integer_text" "is_integer_text" (defArgs s_is_integer_text) (defBody s_is_integer_text) (defScope s_is_integer_text) [] [] (He.ga K "is_integer_text") fd
  d_integer_at : ∃ fd, FunD K "integer_at" "integer_at" (defArgs s_integer_at) (defBody s_integer_at) (defScope s_integer_at) [] [] (He.ga K "integer_at") fd
  d_need_end : ∃ fd, FunD K "need_end" "need_end" (defArgs s_need_end) (defBody s_need_end) (defScope s_need_end) [] [] (He.ga K "need_end") fd
  d_integer_text : ∃ fd, FunD K "integer_text" "integer_text" (defArgs s_integer_text) (defBody s_integer_text) (defScope s_integer_text) [] [] (He.ga K "integer_text") fd
  d_Bound_init : ∃ fd, FunD K "__init__" "Bound.__init__" (defArgs s_Bound_init) (defBody s_Bound_init) (defScope s_Bound_init) [] [] (He.ma K (He.ga K "Bound") "__init__") fd
  d_Bound_eq : ∃ fd, FunD K "__eq__" "Bound.__eq__" (defArgs s_Bound_eq) (defBody s_Bound_eq) (defScope s_Bound_eq) [] [] (He.ma K (He.ga K "Bound") "__eq__") fd
  d_Bound_str : ∃ fd, FunD K "__str__" "Bound.__str__" (defArgs s_Bound_str) (defBody s_Bound_str) (defScope s_Bound_str) [] [] (He.ma K (He.ga K "Bound") "__str__") fd
  d_Bound_read : ∃ fd, FunD K "read" "Bound.read" (defArgs s_Bound_read) (defBody s_Bound_read) (defScope s_Bound_read) [] [] (He5.wf K (He.ga K "Bound") "staticmethod" "read") fd
  d_need_bound : ∃ fd, FunD K "need_bound" "need_bound" (defArgs s_need_bound) (defBody s_need_bound) (defScope s_need_bound) [] [] (He.ga K "need_bound") fd
  d_common_under : ∃ fd, FunD K "common_under" "common_under" (defArgs s_common_under) (defBody s_common_under) (defScope s_common_under) [] [] (He.ga K "common_under") fd
  d_sign_of_integer : ∃ fd, FunD K "sign_of_integer" "sign_of_integer" (defArgs s_sign_of_integer) (defBody s_sign_of_integer) (defScope s_sign_of_integer) [] [] (He.ga K "sign_of_integer") fd
  d_sign_of : ∃ fd, FunD K "sign_of" "sign_of" (defArgs s_sign_of) (defBody s_sign_of) (defScope s_sign_of) [] [] (He.ga K "sign_of") fd
  d_added : ∃ fd, FunD K "added" "added" (defArgs s_added) (defBody s_added) (defScope s_added) [] [] (He.ga K "added") fd
  d_multiplied : ∃ fd, FunD K "multiplied" "multiplied" (defArgs s_multiplied) (defBody s_multiplied) (defScope s_multiplied) [] [] (He.ga K "multiplied") fd
  d_at_most : ∃ fd, FunD K "at_most" "at_most" (defArgs s_at_most) (defBody s_at_most) (defScope s_at_most) [] [] (He.ga K "at_most") fd
  d__law_bag : ∃ fd, FunD K "_law_bag" "_law_bag" (defArgs s__law_bag) (defBody s__law_bag) (defScope s__law_bag) [] [] (He.ga K "_law_bag") fd
  d__law_draw : ∃ fd, FunD K "_law_draw" "_law_draw" (defArgs s__law_draw) (defBody s__law_draw) (defScope s__law_draw) [] [] (He.ga K "_law_draw") fd
  d__law_pick : ∃ fd, FunD K "_law_pick" "_law_pick" (defArgs s__law_pick) (defBody s__law_pick) (defScope s__law_pick) [] [] (He.ga K "_law_pick") fd
  d__law_great : ∃ fd, FunD K "_law_great" "_law_great" (defArgs s__law_great) (defBody s__law_great) (defScope s__law_great) [] [] (He.ga K "_law_great") fd
  d__law_signed : ∃ fd, FunD K "_law_signed" "_law_signed" (defArgs s__law_signed) (defBody s__law_signed) (defScope s__law_signed) [] [] (He.ga K "_law_signed") fd
  d__law_root : ∃ fd, FunD K "_law_root" "_law_root" (defArgs s__law_root) (defBody s__law_root) (defScope s__law_root) [] [] (He.ga K "_law_root") fd
  d__law_sign : ∃ fd, FunD K "_law_sign" "_law_sign" (defArgs s__law_sign) (defBody s__law_sign) (defScope s__law_sign) [] [] (He.ga K "_law_sign") fd
  d__law_told : ∃ fd, FunD K "_law_told" "_law_told" (defArgs s__law_told) (defBody s__law_told) (defScope s__law_told) [] [] (He.ga K "_law_told") fd
  d__law_is : ∃ fd, FunD K "_law_is" "_law_is" (defArgs s__law_is) (defBody s__law_is) (defScope s__law_is) [] [] (He.ga K "_law_is") fd
  d__law_one_right : ∃ fd, FunD K "_law_one_right" "_law_one_right" (defArgs s__law_one_right) (defBody s__law_one_right) (defScope s__law_one_right) [] [] (He.ga K "_law_one_right") fd
  d__law_other : ∃ fd, FunD K "_law_other" "_law_other" (defArgs s__law_other) (defBody s__law_other) (defScope s__law_other) [] [] (He.ga K "_law_other") fd
  d__law_common : ∃ fd, FunD K "_law_common" "_law_common" (defArgs s__law_common) (defBody s__law_common) (defScope s__law_common) [] [] (He.ga K "_law_common") fd
  d__law_done : ∃ fd, FunD K "_law_done" "_law_done" (defArgs s__law_done) (defBody s__law_done) (defScope s__law_done) [] [] (He.ga K "_law_done") fd
  d__law_two_right : ∃ fd, FunD K "_law_two_right" "_law_two_right" (defArgs s__law_two_right) (defBody s__law_two_right) (defScope s__law_two_right) [] [] (He.ga K "_law_two_right") fd
  d__law_made : ∃ fd, FunD K "_law_made" "_law_made" (defArgs s__law_made) (defBody s__law_made) (defScope s__law_made) [] [] (He.ga K "_law_made") fd
  d__law_refused : ∃ fd, FunD K "_law_refused" "_law_refused" (defArgs s__law_refused) (defBody s__law_refused) (defScope s__law_refused) [] [] (He.ga K "_law_refused") fd
  d_law : ∃ fd, FunD K "law" "law" (defArgs s_law) (defBody s_law) (defScope s_law) [] [] (He.ga K "law") fd
theorem txt_of {K : PySem.W.Frag} {mg : Str → Option Value} {h : Heap} (X : K.In h) (G : h.Ns mainGlobals mg) (c : SaysM fa_all ex_all fn_all K) : Txt K mg where
  g_is_integer := He.glo_ok X G (c.fact 0)
  g_is_within := He.glo_ok X G (c.fact 1)
  g_need_integer := He.glo_ok X G (c.fact 2)
  g_items_of := He.glo_ok X G (c.fact 3)
  g_is_integer_text := He.glo_ok X G (c.fact 4)
  g_integer_at := He.glo_ok X G (c.fact 5)
  g_need_end := He.glo_ok X G (c.fact 6)
  g_integer_text := He.glo_ok X G (c.fact 7)
  g_need_bound := He.glo_ok X G (c.fact 8)
  g_common_under := He.glo_ok X G (c.fact 9)
  g_sign_of_integer := He.glo_ok X G (c.fact 10)
  g_sign_of := He.glo_ok X G (c.fact 11)
  g_added := He.glo_ok X G (c.fact 12)
  g_multiplied := He.glo_ok X G (c.fact 13)
  g_at_most := He.glo_ok X G (c.fact 14)
  g__law_bag := He.glo_ok X G (c.fact 15)
  g__law_draw := He.glo_ok X G (c.fact 16)
  g__law_pick := He.glo_ok X G (c.fact 17)
  g__law_great := He.glo_ok X G (c.fact 18)
  g__law_signed := He.glo_ok X G (c.fact 19)
  g__law_root := He.glo_ok X G (c.fact 20)
  g__law_sign := He.glo_ok X G (c.fact 21)
  g__law_told := He.glo_ok X G (c.fact 22)
  g__law_is := He.glo_ok X G (c.fact 23)
  g__law_one_right := He.glo_ok X G (c.fact 24)
  g__law_other := He.glo_ok X G (c.fact 25)
  g__law_common := He.glo_ok X G (c.fact 26)
  g__law_done := He.glo_ok X G (c.fact 27)
  g__law_two_right := He.glo_ok X G (c.fact 28)
  g__law_made := He.glo_ok X G (c.fact 29)
  g__law_refused := He.glo_ok X G (c.fact 30)
  g_law := He.glo_ok X G (c.fact 31)
  g_SignsError := He.glo_ok X G (c.fact 32)
  g_BadNumber := He.glo_ok X G (c.fact 33)
  g_BadBound := He.glo_ok X G (c.fact 34)
  g_Misfit := He.glo_ok X G (c.fact 35)
  g_BadText := He.glo_ok X G (c.fact 36)
  g_Bound := He.glo_ok X G (c.fact 37)
  k_is_integer := He.keep_ok (c.fact 38)
  k_is_within := He.keep_ok (c.fact 39)
  k_need_integer := He.keep_ok (c.fact 40)
  k_items_of := He.keep_ok (c.fact 41)
  k_is_integer_text := He.keep_ok (c.fact 42)
  k_integer_at := He.keep_ok (c.fact 43)
  k_need_end := He.keep_ok (c.fact 44)
  k_integer_text := He.keep_ok (c.fact 45)
  k_need_bound := He.keep_ok (c.fact 46)
  k_common_under := He.keep_ok (c.fact 47)
  k_sign_of_integer := He.keep_ok (c.fact 48)
  k_sign_of := He.keep_ok (c.fact 49)
  k_added := He.keep_ok (c.fact 50)
  k_multiplied := He.keep_ok (c.fact 51)
  k_at_most := He.keep_ok (c.fact 52)
  k__law_bag := He.keep_ok (c.fact 53)
  k__law_draw := He.keep_ok (c.fact 54)
  k__law_pick := He.keep_ok (c.fact 55)
  k__law_great := He.keep_ok (c.fact 56)
  k__law_signed := He.keep_ok (c.fact 57)
  k__law_root := He.keep_ok (c.fact 58)
  k__law_sign := He.keep_ok (c.fact 59)
  k__law_told := He.keep_ok (c.fact 60)
  k__law_is := He.keep_ok (c.fact 61)
  k__law_one_right := He.keep_ok (c.fact 62)
  k__law_other := He.keep_ok (c.fact 63)
  k__law_common := He.keep_ok (c.fact 64)
  k__law_done := He.keep_ok (c.fact 65)
  k__law_two_right := He.keep_ok (c.fact 66)
  k__law_made := He.keep_ok (c.fact 67)
  k__law_refused := He.keep_ok (c.fact 68)
  k_law := He.keep_ok (c.fact 69)
  b_isinstance := He.free_ok X G (c.fact 70)
  b_int := He.free_ok X G (c.fact 71)
  b_bool := He.free_ok X G (c.fact 72)
  b_str := He.free_ok X G (c.fact 73)
  b_list := He.free_ok X G (c.fact 74)
  b_len := He.free_ok X G (c.fact 75)
  b_abs := He.free_ok X G (c.fact 76)
  b_range := He.free_ok X G (c.fact 77)
  b_all := He.free_ok X G (c.fact 78)
  c_DIGITS := He.str_ok X G (c.fact 79)
  c_MOST_DIGITS := He.int_ok X G (c.fact 80)
  cl_Bound := He.cls_ok (c.fact 81)
  na_Bound_whole := He.noat_ok (c.fact 82)
  na_Bound_part := He.noat_ok (c.fact 83)
  na_Bound_under := He.noat_ok (c.fact 84)
  mk_Bound := He.mkr_ok (c.fact 85)
  me_Bound_eq := He.meth_ok (c.fact 86)
  me_Bound_str := He.meth_ok (c.fact 87)
  cc_Bound := clsB_ok (c.chk 0)
  ne_Bound := He.eqO_ok (c.chk 1)
  sm_Bound_read := smB_ok (c.chk 2)
  top := c.chk 3
  e_BadNumber := errB_ok (c.chk 4)
  e_BadBound := errB_ok (c.chk 5)
  e_Misfit := errB_ok (c.chk 6)
  e_BadText := errB_ok (c.chk 7)
  d_BadNumber_init := c.def_ 0
  d_BadBound_init := c.def_ 1
  d_Misfit_init := c.def_ 2
  d_BadText_init := c.def_ 3
  d_is_integer := c.def_ 4
  d_is_within := c.def_ 5
  d_need_integer := c.def_ 6
  d_items_of := c.def_ 7
  d_is_integer_text := c.def_ 8
  d_integer_at := c.def_ 9
  d_need_end := c.def_ 10
  d_integer_text := c.def_ 11
  d_Bound_init := c.def_ 12
  d_Bound_eq := c.def_ 13
  d_Bound_str := c.def_ 14
  d_Bound_read := c.def_ 15
  d_need_bound := c.def_ 16
  d_common_under := c.def_ 17
  d_sign_of_integer := c.def_ 18
  d_sign_of := c.def_ 19
  d_added := c.def_ 20
  d_multiplied := c.def_ 21
  d_at_most := c.def_ 22
  d__law_bag := c.def_ 23
  d__law_draw := c.def_ 24
  d__law_pick := c.def_ 25
  d__law_great := c.def_ 26
  d__law_signed := c.def_ 27
  d__law_root := c.def_ 28
  d__law_sign := c.def_ 29
  d__law_told := c.def_ 30
  d__law_is := c.def_ 31
  d__law_one_right := c.def_ 32
  d__law_other := c.def_ 33
  d__law_common := c.def_ 34
  d__law_done := c.def_ 35
  d__law_two_right := c.def_ 36
  d__law_made := c.def_ 37
  d__law_refused := c.def_ 38
  d_law := c.def_ 39
end K03
namespace K03
open PySem PySem.Spec PyProof.Rows L2 GS
/-! ### values -/
def bf (w p u : Int) : List (Str × V) := [("whole", .int w), ("part", .int p), ("under", .int u)]
def Bd (K : PySem.W.Frag) (H : Hp) (a : Addr) (w p u : Int) : Prop := 0 ≤ u ∧ ∃ dx, H a = some (.ins (He.ga K "Bound") dx (bf w p u))
theorem Bd.ex {K : PySem.W.Frag} {H H' : Hp} {a : Addr} {w p u : Int} (h : Bd K H a w p u) (e : Ex H H') : Bd K H' a w p u := let ⟨hu, dx, h⟩ := h; ⟨hu, dx, e _ _ h⟩
/-- a value whose kind is known -/
def Kn (K : PySem.W.Frag) (H : Hp) (v : V) : Prop := (∃ T ∈ tys, TyOf K H v (.type T)) ∨ ∃ a w p u, v = .ref a ∧ Bd K H a w p u
theorem TyOf.ex' {K : PySem.W.Frag} {H H' : Hp} {v : V} {T : String} (b : TyOf K H v (.type T)) (e : ∀ a, v = .ref a → ∀ o, H a = some o → H' a = some o) : TyOf K H' v (.type T) := by
  cases b with
  | non => exact .non
  | bl b => exact .bl b
  | int i => exact .int i
  | str i => exact .str i
  | flt i => exact .flt i
  | lst q => exact .lst (e _ rfl _ q)
  | frz q => exact .frz (e _ rfl _ q)
  | tup q => exact .tup (e _ rfl _ q)
  | dK q => exact .dK (e _ rfl _ q)
  | dT q => exact .dT (e _ rfl _ q)
theorem TyOf.there {K : PySem.W.Frag} {H : Hp} {a : Addr} {T : String} (b : TyOf K H (.ref a) (.type T)) : ∃ o, H a = some o ∧ ∀ C dx fs, o ≠ .ins C dx fs := by
  cases b with
  | lst q => exact ⟨_, q, fun _ _ _ z => by cases z⟩
  | frz q => exact ⟨_, q, fun _ _ _ z => by cases z⟩
  | tup q => exact ⟨_, q, fun _ _ _ z => by cases z⟩
  | dK q => exact ⟨_, q, fun _ _ _ z => by cases z⟩
  | dT q => exact ⟨_, q, fun _ _ _ z => by cases z⟩
theorem Kn.ex {K : PySem.W.Frag} {H H' : Hp} {v : V} (h : Kn K H v) (e : Ex H H') : Kn K H' v := by
  rcases h with ⟨T, hT, h⟩ | ⟨a, w, p, u, h, b⟩
  · exact .inl ⟨T, hT, TyOf.ex' h fun a _ o q => e a o q⟩
  · exact .inr ⟨a, w, p, u, h, b.ex e⟩
theorem kn_int {K : PySem.W.Frag} {H : Hp} (i : Int) : Kn K H (.int i) := .inl ⟨"int", by decide, .int i⟩
def isI : V → Bool
  | .int _ => true
  | _ => false
/-- the class Bound, for isinstance -/
theorem ty_bd {K : PySem.W.Frag} {mg : Str → Option Value} {H : Hp} {a : Addr} {w p u : Int} (T : Txt K mg) (h : Bd K H a w p u) : TyX K H (.ref a) (.ref (He.ga K "Bound")) := by
  obtain ⟨_, dx, h⟩ := h
  obtain ⟨h1, h2⟩ := He.ba T.top
  exact .base (.ins h T.cl_Bound T.cc_Bound.ha (He.eqO_ok h1) (of_decide_eq_true h2) T.cc_Bound.hm)
def kitR (T1 T0 : String) : Bool := decide (T1 = T0) || (decide (T1 = "bool") && decide (T0 = "int"))
theorem kit_all : ∀ T1 ∈ tys, ∀ T0 ∈ tys, kitB T1 T0 = some (kitR T1 T0) := by decide +kernel
/-- isinstance(v, T0), T0 built-in -/
theorem kn_kit {K : PySem.W.Frag} {mg : Str → Option Value} {H : Hp} {v : V} (T : Txt K mg) (h : Kn K H v) {T0 : String} (h0 : T0 ∈ tys) : ∃ t b, TyX K H v t ∧ PySem.W.kitOne K t (.type T0) = some b ∧ ((∃ T1 ∈ tys, t = .type T1 ∧ kitR T1 T0 = b) ∨ (t = .ref (He.ga K "Bound") ∧ b = false ∧ ∃ a w p u, v = .ref a ∧ Bd K H a w p u)) := by
  rcases h with ⟨T1, hT, h⟩ | ⟨a, w, p, u, rfl, b⟩
  · exact ⟨_, _, .base h, kit_ty (kit_all T1 hT T0 h0), .inl ⟨T1, hT, rfl, rfl⟩⟩
  · exact ⟨_, false, ty_bd T b, (T.cc_Bound.ty T0 h0).2.1, .inr ⟨rfl, rfl, a, w, p, u, rfl, b⟩⟩
/-- the type of an int is int; what has the type int is one -/
theorem ty_int {K : PySem.W.Frag} {H : Hp} {v : V} {T : String} (h : TyX K H v (.type T)) : (T = "int") ↔ isI v = true := by
  cases h with
  | base b => cases b <;> simp [isI]
  | _ => simp [isI]
def isBl : V → Bool
  | .bl _ => true
  | _ => false
theorem ty_bool {K : PySem.W.Frag} {H : Hp} {v : V} {T : String} (h : TyX K H v (.type T)) : (T = "bool") ↔ isBl v = true := by
  cases h with
  | base b => cases b <;> simp [isBl]
  | _ => simp [isBl]
/-! ### errors -/
def spErr (K : PySem.W.Frag) (x f : Str) : Sp := sp2 fun a v H Q _ => ∃ e, a = .ref e ∧ H e = some (exo e (He.ga K x) none) ∧ ∀ dx, H dx = none → dx ≠ e → Q .non (upd (upd H dx (exd dx [(f, v)])) e (exo e (He.ga K x) (some dx)))
/-- an error of the class x with its field -/
def Raised (K : PySem.W.Frag) (x f : Str) (v : V) (H : Hp) (E : XK) : Prop := ∀ d H', Ex H H' → H' d = some (.xd [(f, v)]) → E (.ref (He.ga K x)) (some d) H'
theorem r_err {K : PySem.W.Frag} {x f : Str} {v : V} {H : Hp} {E : XK} {vs : List V} (hv : vs = [v]) (q : Raised K x f v H E) : vs.length ≤ 1000 ∧ ∀ a, H a = none → spErr K x f (.ref a :: (vs ++ [])) (upd H a (exo a (He.ga K x) none))
    (fun v H2 => v = .non ∧ ∃ (d : Addr) (fs : List (Str × V)), H2 a = some (exo a (He.ga K x) (some d)) ∧ H2 d = some (exd d fs) ∧ H d = none ∧ E (.ref (He.ga K x)) (some d) (upd (del H2 a) d (.xd fs))) (fun _ _ _ => False) := by
  subst hv
  refine ⟨by simp, fun a ha => ⟨a, rfl, upd_same, fun dx hd hne => ⟨rfl, dx, [(f, v)], upd_same, ?_, ?_, ?_⟩⟩⟩
  · rw [upd_ne hne, upd_same]
  · rw [upd_ne hne] at hd
    exact hd
  · rw [upd_ne hne] at hd
    refine q dx _ (fun b o hb => ?_) upd_same
    have n1 : b ≠ dx := ne_of_none hb hd
    have n2 : b ≠ a := ne_of_none hb ha
    rw [upd_ne n1, del_ne n2, upd_ne n2, upd_ne n1, upd_ne n2]
    exact hb
theorem ok_BadNumber_init {P : Program} {w : World} {K : PySem.W.Frag} {mg : Str → Option Value} {base : Heap} (T : Txt K mg) : ∃ fd, FnOk P w K mg base (L2.CX P w) 1 (He.ma K (He.ga K "BadNumber") "__init__") fd ["self", "part"] (spErr K "BadNumber" "part") ∧ Binds K fd ["self", "part"] [] := by
  obtain ⟨fd, F⟩ := T.d_BadNumber_init
  refine ⟨fd, F.ok sc_BadNumber_init sp2_len (fun cdv A outer s H vs Q E hr h => ?_), F.bindsN fun _ _ _ _ _ _ us hl => match us, hl with | [_, _], _ => rfl⟩
  obtain ⟨a, v, rfl, e, rfl, he, k⟩ := sp2_is h
  refine ⟨_, (pss_one (ps_ost (pv 0) (pv 1))), ?_⟩
  exact ⟨_, rfl, _, rfl, e, _, rfl, T.e_BadNumber.o, T.e_BadNumber.no_ _ (by simp), .inl ⟨he, fun dx h1 h2 => k dx h1 h2⟩⟩
theorem ok_BadBound_init {P : Program} {w : World} {K : PySem.W.Frag} {mg : Str → Option Value} {base : Heap} (T : Txt K mg) : ∃ fd, FnOk P w K mg base (L2.CX P w) 1 (He.ma K (He.ga K "BadBound") "__init__") fd ["self", "part"] (spErr K "BadBound" "part") ∧ Binds K fd ["self", "part"] [] := by
  obtain ⟨fd, F⟩ := T.d_BadBound_init
  refine ⟨fd, F.ok sc_BadBound_init sp2_len (fun cdv A outer s H vs Q E hr h => ?_), F.bindsN fun _ _ _ _ _ _ us hl => match us, hl with | [_, _], _ => rfl⟩
  obtain ⟨a, v, rfl, e, rfl, he, k⟩ := sp2_is h
  refine ⟨_, (pss_one (ps_ost (pv 0) (pv 1))), ?_⟩
  exact ⟨_, rfl, _, rfl, e, _, rfl, T.e_BadBound.o, T.e_BadBound.no_ _ (by simp), .inl ⟨he, fun dx h1 h2 => k dx h1 h2⟩⟩
theorem ok_Misfit_init {P : Program} {w : World} {K : PySem.W.Frag} {mg : Str → Option Value} {base : Heap} (T : Txt K mg) : ∃ fd, FnOk P w K mg base (L2.CX P w) 1 (He.ma K (He.ga K "Misfit") "__init__") fd ["self", "part"] (spErr K "Misfit" "part") ∧ Binds K fd ["self", "part"] [] := by
  obtain ⟨fd, F⟩ := T.d_Misfit_init
  refine ⟨fd, F.ok sc_Misfit_init sp2_len (fun cdv A outer s H vs Q E hr h => ?_), F.bindsN fun _ _ _ _ _ _ us hl => match us, hl with | [_, _], _ => rfl⟩
  obtain ⟨a, v, rfl, e, rfl, he, k⟩ := sp2_is h
  refine ⟨_, (pss_one (ps_ost (pv 0) (pv 1))), ?_⟩
  exact ⟨_, rfl, _, rfl, e, _, rfl, T.e_Misfit.o, T.e_Misfit.no_ _ (by simp), .inl ⟨he, fun dx h1 h2 => k dx h1 h2⟩⟩
/-! ### checks -/
def spIsInt (K : PySem.W.Frag) : Sp := sp1 fun v H Q _ => Kn K H v ∧ Q (.bl (isI v)) H
theorem ok_is_integer {P : Program} {w : World} {K : PySem.W.Frag} {mg : Str → Option Value} {base : Heap} (T : Txt K mg) : ∃ fd, FnOk P w K mg base (L2.CX P w) 1 (He.ga K "is_integer") fd ["value"] (spIsInt K) ∧ Binds K fd ["value"] [] := by
  obtain ⟨fd, F⟩ := T.d_is_integer
  refine ⟨fd, F.ok sc_is_integer sp1_len (fun cdv A outer s H vs Q E hr h => ?_), F.bindsN fun _ _ _ _ _ _ us hl => match us, hl with | [_], _ => rfl⟩
  obtain ⟨v, rfl, kv, q⟩ := sp1_is h
  refine ⟨_, (pss_one (ps_ret (pe_and (pe_callB call_isi (by rfl) T.b_isinstance (by decide +kernel) (pa_cons (pv 0) (pa_cons (pe_bltn (v := .ty "int") (by rfl) T.b_int (by decide +kernel) rfl) pa_nil))) (pe_one (pe_not (pe_callB call_isi (by rfl) T.b_isinstance (by decide +kernel) (pa_cons (pv 0) (pa_cons (pe_bltn (v := .ty "bool") (by rfl) T.b_bool (by decide +kernel) rfl) pa_nil)))))))), ?_⟩
  obtain ⟨t, b, ht, hb, hc⟩ := kn_kit T kv (T0 := "int") (by decide)
  obtain ⟨t', b', ht', hb', hc'⟩ := kn_kit T kv (T0 := "bool") (by decide)
  have e : (b && !b') = isI v := by
    rcases hc with ⟨T1, m1, rfl, rfl⟩ | ⟨rfl, rfl, a, w, p, u, rfl, _⟩
    · have c1 := ty_int ht
      rcases hc' with ⟨T2, m2, rfl, rfl⟩ | ⟨rfl, rfl, a, w, p, u, rfl, _⟩
      · have c2 := ty_int ht'
        cases hv : isI v with
        | true =>
          obtain rfl := c1.mpr hv
          obtain rfl := c2.mpr hv
          decide
        | false =>
          have n1 : T1 ≠ "int" := fun z => by have := c1.mp z; rw [hv] at this; cases this
          have n2 : T1 = "bool" → T2 = "bool" := fun z => (ty_bool ht').mpr ((ty_bool ht).mp z)
          by_cases z : T1 = "bool"
          · obtain rfl := n2 z
            subst z
            decide
          · simp [kitR, n1, z]
      · cases hv : isI (V.ref a) with
        | true => cases hv
        | false =>
          have n1 : T1 ≠ "int" := fun z => by have := c1.mp z; rw [hv] at this; cases this
          have n2 : T1 ≠ "bool" := fun z => by have := (ty_bool ht).mp z; cases this
          simp [kitR, n1, n2]
    · simp [isI]
  refine ⟨_, rfl, v, .ty "int", t, _, b, rfl, .ty "int", ht, hb, b, rfl, ?_⟩
  cases b with
  | false =>
    rw [if_neg Bool.false_ne_true]
    rw [← e] at q
    exact q
  | true =>
    rw [if_pos rfl]
    rw [← e] at q
    exact ⟨_, rfl, v, .ty "bool", t', _, b', rfl, .ty "bool", ht', hb', b', rfl, q⟩
/-- least, most: none or a bound -/
def bnd : V → Option (Option Int)
  | .non => some none
  | .int i => some (some i)
  | _ => none
def loB (i : Int) : Option Int → Bool
  | none => true
  | some l => decide (l ≤ i)
def upB (i : Int) : Option Int → Bool
  | none => true
  | some m => decide (i ≤ m)
def inB (v : V) (l m : Option Int) : Bool := match v with
  | .int i => loB i l && upB i m
  | _ => false
def spWithin (K : PySem.W.Frag) : Sp := sp3 fun v l m H Q _ => Kn K H v ∧ ∃ l' m', bnd l = some l' ∧ bnd m = some m' ∧ Q (.bl (inB v l' m')) H
theorem bnd_is {v : V} {l : Option Int} (h : bnd v = some l) : (v = .non ∧ l = none) ∨ ∃ i, v = .int i ∧ l = some i := by
  cases v <;> simp [bnd] at h <;> subst h <;> simp
theorem ok_is_within {P : Program} {w : World} {K : PySem.W.Frag} {mg : Str → Option Value} {base : Heap} (T : Txt K mg) : ∃ fd, FnOk P w K mg base (L2.CX P w) 2 (He.ga K "is_within") fd ["value", "least", "most"] (spWithin K) ∧ Binds K fd ["value", "least", "most"] [] := by
  obtain ⟨fd, F⟩ := T.d_is_within
  obtain ⟨fd_is_integer, F_is_integer, B_is_integer⟩ := ok_is_integer (P := P) (w := w) (base := base) T
  refine ⟨fd, F.ok sc_is_within sp3_len (fun cdv A outer s H vs Q E hr h => ?_), F.bindsN fun _ _ _ _ _ _ us hl => match us, hl with | [_, _, _], _ => rfl⟩
  have hr_is_integer : Room 1 _ := hr.mono (by decide)
  obtain ⟨v, l, m, rfl, kv, l', m', hl, hm, q⟩ := sp3_is h
  refine ⟨_, (pss_cons (ps_if (PW.pt (pw_or (pt_not (pt_val (pe_call F_is_integer hr_is_integer (by rfl) T.g_is_integer T.k_is_integer B_is_integer .nil passL (pa_cons (pv 0) pa_nil)))) (pw_or1 (PW.pt (pw_and (pt_cmpR op_notN (pv 1) pe_non (nomark _)) (pw_and1 (pt_cmpR op_lt (pv 0) (pv 1) (nomark _)))))))) (pss_one (ps_ret pe_bl)) pss_nil)
      (pss_one (ps_ret (pe_or (pe_cmpR op_isN (pv 2) pe_non (nomark _)) (pe_one (pe_cmpR op_le (pv 0) (pv 2) (nomark _))))))), ?_⟩
  refine ⟨_, rfl, kv, ⟨_, rfl, ?_⟩⟩
  cases hv : isI v with
  | false =>
    have e : inB v l' m' = false := by cases v <;> first | rfl | cases hv
    rw [e] at q
    exact ite_t rfl (ite_t rfl q)
  | true =>
    obtain ⟨i, rfl⟩ : ∃ i, v = .int i := by cases v <;> first | exact ⟨_, rfl⟩ | cases hv
    refine ite_f rfl ?_
    have last : ∀ {Q' : VK}, Q' (.bl (upB i m')) H → (tOrV (tOp (fun x y H Q => y = .non ∧ Q (.bl (decide (x = .non))) H) (tVar 2) (tC .non)) (tOp (rI0 fun i j => .bl (decide (i ≤ j))) (tVar 0) (tVar 2))) [some (.int i), some l, some m] H Q' := fun {Q'} q' => by
      refine ⟨_, rfl, rfl, _, rfl, ?_⟩
      rcases bnd_is hm with ⟨rfl, rfl⟩ | ⟨j, rfl, rfl⟩
      · exact ite_t (by simp) q'
      · exact ite_f (by simp) ⟨_, rfl, _, rfl, i, j, rfl, rfl, q'⟩
    rcases bnd_is hl with ⟨rfl, rfl⟩ | ⟨j, rfl, rfl⟩
    · refine ⟨_, rfl, rfl, _, rfl, ite_f (by simp) (ite_f rfl (last ?_))⟩
      simpa [inB, loB] using q
    · refine ⟨_, rfl, rfl, _, rfl, ite_t (by simp) ⟨_, rfl, _, rfl, i, j, rfl, rfl, _, rfl, ?_⟩⟩
      by_cases c : i < j
      · refine ite_t (by simp [c]) ?_
        have e : inB (.int i) (some j) m' = false := by simp [inB, loB, show ¬ j ≤ i by omega]
        rw [e] at q
        exact q
      · refine ite_f (by simp [c]) (last ?_)
        have e : inB (.int i) (some j) m' = upB i m' := by simp [inB, loB, show j ≤ i by omega]
        rw [← e]
        exact q
def spNeed (K : PySem.W.Frag) : Sp := sp4 fun v z l m H Q E => Kn K H v ∧ ∃ l' m' s, z = .str s ∧ bnd l = some l' ∧ bnd m = some m' ∧ (inB v l' m' = true → Q v H) ∧ (inB v l' m' = false → Raised K "BadNumber" "part" (.str s) H E)
theorem ok_need_integer {P : Program} {w : World} {K : PySem.W.Frag} {mg : Str → Option Value} {base : Heap} (T : Txt K mg) : ∃ fd, FnOk P w K mg base (L2.CX P w) 3 (He.ga K "need_integer") fd ["value", "part", "least", "most"] (spNeed K) ∧ Binds K fd ["value", "part", "least", "most"] [] := by
  obtain ⟨fd, F⟩ := T.d_need_integer
  obtain ⟨fd_is_within, F_is_within, B_is_within⟩ := ok_is_within (P := P) (w := w) (base := base) T
  obtain ⟨fd_BadNumber_init, F_BadNumber_init, B_BadNumber_init⟩ := ok_BadNumber_init (P := P) (w := w) (base := base) T
  refine ⟨fd, F.ok sc_need_integer sp4_len (fun cdv A outer s H vs Q E hr h => ?_), F.bindsN fun _ _ _ _ _ _ us hl => match us, hl with | [_, _, _, _], _ => rfl⟩
  have hr_is_within : Room 2 _ := hr.mono (by decide)
  have hr_BadNumber_init : Room 2 _ := hr.mono (by decide)
  obtain ⟨v, z, l, m, rfl, kv, l', m', z', rfl, hl, hm, q1, q2⟩ := sp4_is h
  refine ⟨_, (pss_cons (ps_if (pt_not (pt_val (pe_call F_is_within hr_is_within (by rfl) T.g_is_within T.k_is_within B_is_within .nil passL (pa_cons (pv 0) (pa_cons (pv 2) (pa_cons (pv 3) pa_nil)))))) (pss_one (ps_raise rfl (takes_of rfl rfl rfl rfl) (pmk_oex T.e_BadNumber.o T.e_BadNumber.i T.e_BadNumber.t F_BadNumber_init hr_BadNumber_init B_BadNumber_init .nil passL rfl T.g_BadNumber (pa_cons (pv 1) pa_nil)))) pss_nil)
      (pss_one (ps_ret (pv 0)))), ?_⟩
  refine ⟨_, rfl, _, rfl, _, rfl, kv, l', m', hl, hm, _, rfl, ?_⟩
  cases hv : inB v l' m' with
  | true => exact ite_f rfl ⟨_, rfl, q1 hv⟩
  | false => exact ite_t rfl ⟨_, rfl, r_err rfl (q2 hv)⟩
end K03
namespace K03
open PySem PySem.Spec PyProof.Rows L2 GS
def RaisedB (K : PySem.W.Frag) (p : Addr) (z : Str) (H : Hp) (E : XK) : Prop := ∀ d H', Bu p H H' → H' d = some (.xd [(("part" : Str), .str z)]) → E (.ref (He.ga K "BadNumber")) (some d) H'
def spBInit (K : PySem.W.Frag) : Sp := sp4 fun a x y z H Q E => ∃ p dx, a = .ref p ∧ H p = some (.ins (He.ga K "Bound") dx []) ∧ (isI x = false → Kn K H x ∧ RaisedB K p "whole" H E) ∧ (isI x = true → isI y = false → Kn K H y ∧ RaisedB K p "part" H E) ∧
  (isI x = true → isI y = true → inB z (some 0) none = false → Kn K H z ∧ RaisedB K p "under" H E) ∧
  ∀ i j k, x = .int i → y = .int j → z = .int k → 0 ≤ k → ∀ H', Bu p H H' → H' p = some (.ins (He.ga K "Bound") dx (bf i j k)) → Q .non H'
theorem isI_is {v : V} (h : isI v = true) : ∃ i, v = .int i := by cases v <;> first | exact ⟨_, rfl⟩ | cases h
theorem Kn.bu {K : PySem.W.Frag} {p : Addr} {H H' : Hp} {v : V} (h : Kn K H v) (hv : v ≠ .ref p) (e : Bu p H H') : Kn K H' v := by
  have e' : ∀ a, v = .ref a → ∀ o, H a = some o → H' a = some o := fun a z o q => e a o (fun n => hv (by rw [z, n])) q
  rcases h with ⟨T, hT, h⟩ | ⟨a, w, p, u, h, hu, dx, b⟩
  · exact .inl ⟨T, hT, TyOf.ex' h e'⟩
  · exact .inr ⟨a, w, p, u, h, hu, dx, e' a h _ b⟩
/-- an instance without fields is no argument -/
theorem Kn.not {K : PySem.W.Frag} {C p dx : Addr} {H : Hp} {v : V} (h : Kn K H v) (hp : H p = some (.ins C dx [])) : v ≠ .ref p := by
  rintro rfl
  rcases h with ⟨T, hT, h⟩ | ⟨a, w, q, u, h, _, dx, b⟩
  · obtain ⟨o, h1, h2⟩ := TyOf.there h
    rw [hp] at h1
    exact h2 _ _ _ (Option.some.inj h1).symm
  · cases h
    rw [hp] at b
    cases b
theorem inB_free {v : V} : inB v none none = isI v := by cases v <;> rfl
theorem kn_of_isI {K : PySem.W.Frag} {H : Hp} {v : V} (h : isI v = true) : Kn K H v := by obtain ⟨i, rfl⟩ := isI_is h; exact kn_int i
theorem ok_Bound_init {P : Program} {w : World} {K : PySem.W.Frag} {mg : Str → Option Value} {base : Heap} (T : Txt K mg) : ∃ fd, FnOk P w K mg base (L2.CX P w) 4 (He.ma K (He.ga K "Bound") "__init__") fd ["self", "whole", "part", "under"] (spBInit K) ∧ Binds K fd ["self", "whole", "part", "under"] [] ∧ KBn K fd ["self", "whole", "part", "under"] 1 ["under", "whole", "part"] (pm [0, 2, 3, 1]) (pm [0, 2, 3, 1]) := by
  obtain ⟨fd, F⟩ := T.d_Bound_init
  obtain ⟨fd_need_integer, F_need_integer, B_need_integer⟩ := ok_need_integer (P := P) (w := w) (base := base) T
  refine ⟨fd, F.ok sc_Bound_init sp4_len (fun cdv A outer s H vs Q E hr h => ?_), F.bindsN fun _ _ _ _ _ _ us hl => match us, hl with | [_, _, _, _], _ => rfl, kb_of F 1 ["under", "whole", "part"] [0, 2, 3, 1] (fun _ _ _ _ _ _ us ws h1 h2 => match us, ws, h1, h2 with | [_], [_, _, _], _, _ => rfl)⟩
  have hr_need_integer : Room 3 _ := hr.mono (by decide)
  obtain ⟨a, x, y, z, rfl, p, dx, rfl, hp, h1, h2, h3, h4⟩ := sp4_is h
  refine ⟨_, (pss_cons (ps_fld (pv 0) (pe_call F_need_integer hr_need_integer (by rfl) T.g_need_integer T.k_need_integer B_need_integer .nil (passes_call (takes_of rfl rfl rfl rfl) (fun _ _ _ _ h => h)) (pa_cons (pv 1) (pa_cons pe_str (pa_cons pe_non (pa_cons pe_non pa_nil))))) rfl)
      (pss_cons (ps_fld (pv 0) (pe_call F_need_integer hr_need_integer (by rfl) T.g_need_integer T.k_need_integer B_need_integer .nil (passes_call (takes_of rfl rfl rfl rfl) (fun _ _ _ _ h => h)) (pa_cons (pv 2) (pa_cons pe_str (pa_cons pe_non (pa_cons pe_non pa_nil))))) rfl)
      (pss_one (ps_fld (pv 0) (pe_call F_need_integer hr_need_integer (by rfl) T.g_need_integer T.k_need_integer B_need_integer .nil (passes_call (takes_of rfl rfl rfl rfl) (fun _ _ _ _ h => h)) (pa_cons (pv 3) (pa_cons pe_str (pa_cons pe_int (pa_cons pe_non pa_nil))))) rfl)))), ?_⟩
  have kx : Kn K H x := by cases c : isI x with | true => exact kn_of_isI c | false => exact (h1 c).1
  refine ⟨_, rfl, kx, none, none, _, rfl, rfl, rfl, fun c1 => ?_, fun c1 d H' e hd => ?_⟩
  · rw [inB_free] at c1
    obtain ⟨i, rfl⟩ := isI_is c1
    refine ⟨_, rfl, p, _, dx, [], rfl, hp, T.cl_Bound, T.na_Bound_whole, by decide, ?_⟩
    have ky : Kn K (upd H p (.ins (He.ga K "Bound") dx (putF "whole" (.int i) []))) y := by
      cases c : isI y with
      | true => exact kn_of_isI c
      | false => exact (h2 c1 c).1.bu ((h2 c1 c).1.not hp) Bu.upd
    refine ⟨_, rfl, ky, none, none, _, rfl, rfl, rfl, fun c2 => ?_, fun c2 d H' e hd => ?_⟩
    · rw [inB_free] at c2
      obtain ⟨j, rfl⟩ := isI_is c2
      refine ⟨_, rfl, p, _, dx, _, rfl, upd_same, T.cl_Bound, T.na_Bound_part, (by show 1 < 1000; decide), ?_⟩
      have kz : Kn K (upd (upd H p (.ins (He.ga K "Bound") dx (putF "whole" (.int i) []))) p (.ins (He.ga K "Bound") dx (putF "part" (.int j) (putF "whole" (.int i) [])))) z := by
        cases c : inB z (some 0) none with
        | true => cases z <;> first | exact kn_int _ | cases c
        | false => exact (h3 c1 c2 c).1.bu ((h3 c1 c2 c).1.not hp) (Bu.upd.trans Bu.upd)
      refine ⟨_, rfl, kz, some 0, none, _, rfl, rfl, rfl, fun c3 => ?_, fun c3 d H' e hd => ?_⟩
      · obtain ⟨k, rfl⟩ : ∃ k, z = .int k := by cases z <;> first | exact ⟨_, rfl⟩ | cases c3
        refine ⟨_, rfl, p, _, dx, _, rfl, upd_same, T.cl_Bound, T.na_Bound_under, (by show 2 < 1000; decide), ?_⟩
        refine h4 i j k rfl rfl rfl ?_ _ ((Bu.upd.trans Bu.upd).trans Bu.upd) ?_
        · simpa [inB, loB, upB] using c3
        · rw [upd_same]
          rfl
      · exact (h3 c1 c2 c3).2 d H' ((Bu.upd.trans Bu.upd).trans (Bu.of e)) hd
    · rw [inB_free] at c2
      exact (h2 c1 c2).2 d H' (Bu.upd.trans (Bu.of e)) hd
  · rw [inB_free] at c1
    exact (h1 c1).2 d H' (Bu.of e) hd
/-! ### what a caller sees -/
theorem put_own {H : Hp} {x dx : Addr} {o u : HO} (h1 : H x = none) (h2 : H dx = none) : Ex H (upd (upd H dx o) x u) := fun a v h => by
  rw [upd_ne (ne_of_none h h1), upd_ne (ne_of_none h h2)]
  exact h
theorem bu_ex {p : Addr} {H H0 H' : Hp} (e0 : Ex H H0) (hp : H p = none) (e : Bu p H0 H') : Ex H H' := fun a o h => e a o (ne_of_none h hp) (e0 a o h)
/-- Bound(i, j, k) -/
theorem r_Bound {K : PySem.W.Frag} {H : Hp} {Q : VK} {E : XK} {i j k : Int} (hk : 0 ≤ k) (q : ∀ p H', H p = none → Ex H H' → Bd K H' p i j k → Q (.ref p) H') :
    mkK (He.ga K "Bound") (spBInit K) E Q [.int i, .int j, .int k] H := by
  intro x dx hx hd hn
  refine ⟨x, dx, rfl, upd_same, (fun z => by cases z), (fun _ z => by cases z), (fun _ _ z => by simp [inB, loB, upB, hk] at z), fun i' j' k' e1 e2 e3 _ H' e hb => ⟨rfl, ?_⟩⟩
  cases e1; cases e2; cases e3
  exact q x H' hx (bu_ex (put_own hx hd) hx e) ⟨hk, dx, hb⟩
end K03
namespace K03
open PySem PySem.Spec PyProof.Rows L2 GS
local macro_rules | `(tactic| walk_at "rd") => `(tactic| (repeat (first
  | with_reducible refine r_next ?_
  | with_reducible refine r_seq ?_
  | with_reducible refine r_ret ?_
  | with_reducible refine r_ifS ?_
  | with_reducible refine r_asg ?_
  | with_reducible refine r_drop ?_
  | with_reducible refine r_op ?_
  | with_reducible refine r_un ?_
  | with_reducible refine r_cb ?_
  | with_reducible refine r_call ?_
  | with_reducible refine r_cons ?_
  | with_reducible refine r_nil ?_
  | with_reducible refine r_test ?_
  | with_reducible refine r_B ?_
  | with_reducible refine r_and ?_
  | with_reducible refine r_or ?_
  | with_reducible refine r_not ?_
  | with_reducible refine r_andV ?_
  | with_reducible refine r_orV ?_
  | with_reducible refine r_notV ?_
  | with_reducible refine r_if ?_
  | with_reducible refine r_tup ?_
  | with_reducible refine r_lst ?_
  | with_reducible refine r_c ?_
  | with_reducible refine r_k ?_
  | with_reducible refine r_kV ?_
  | ((with_reducible show tVar _ _ _ _); refine r_var3 ?_ (by rfl))
  | with_reducible refine r_I0 ?_
  | with_reducible refine r_U ?_
  | with_reducible refine r_eqI ?_
  | with_reducible refine r_neI ?_
  | dsimp only)))
theorem bf_w (w p u : Int) : (bf w p u).lookup ("whole" : Str) = some (.int w) := by rfl
theorem bf_p (w p u : Int) : (bf w p u).lookup ("part" : Str) = some (.int p) := by rfl
theorem bf_u (w p u : Int) : (bf w p u).lookup ("under" : Str) = some (.int u) := by rfl
/-- a value of a built-in kind -/
def Kt (K : PySem.W.Frag) (H : Hp) (v : V) : Prop := ∃ T ∈ tys, TyOf K H v (.type T)
/-- isinstance(v, Bound) -/
theorem kt_not {K : PySem.W.Frag} {mg : Str → Option Value} {H : Hp} {v : V} (T : Txt K mg) (h : Kt K H v) : ∃ t, TyX K H v t ∧ PySem.W.kitOne K t (.ref (He.ga K "Bound")) = some false := by
  obtain ⟨T1, h1, h2⟩ := h
  exact ⟨_, .base h2, (T.cc_Bound.ty T1 h1).1⟩
theorem r_fw {K : PySem.W.Frag} {mg : Str → Option Value} {H : Hp} {σ : L2.St} {n : Nat} {a : Addr} {w p u : Int} {Q : VK} (T : Txt K mg) (h : Bd K H a w p u) (q : Q (.int w) H) (hs : σ[n]? = some (some (.ref a)) := by rfl) : tFld K (tVar n) "whole" σ H Q := by
  obtain ⟨_, dx, h⟩ := h
  exact ⟨_, hs, a, _, dx, _, _, rfl, h, T.cl_Bound, T.na_Bound_whole, bf_w w p u, q⟩
theorem r_fp {K : PySem.W.Frag} {mg : Str → Option Value} {H : Hp} {σ : L2.St} {n : Nat} {a : Addr} {w p u : Int} {Q : VK} (T : Txt K mg) (h : Bd K H a w p u) (q : Q (.int p) H) (hs : σ[n]? = some (some (.ref a)) := by rfl) : tFld K (tVar n) "part" σ H Q := by
  obtain ⟨_, dx, h⟩ := h
  exact ⟨_, hs, a, _, dx, _, _, rfl, h, T.cl_Bound, T.na_Bound_part, bf_p w p u, q⟩
theorem r_fu {K : PySem.W.Frag} {mg : Str → Option Value} {H : Hp} {σ : L2.St} {n : Nat} {a : Addr} {w p u : Int} {Q : VK} (T : Txt K mg) (h : Bd K H a w p u) (q : Q (.int u) H) (hs : σ[n]? = some (some (.ref a)) := by rfl) : tFld K (tVar n) "under" σ H Q := by
  obtain ⟨_, dx, h⟩ := h
  exact ⟨_, hs, a, _, dx, _, _, rfl, h, T.cl_Bound, T.na_Bound_under, bf_u w p u, q⟩
def spBEq (K : PySem.W.Frag) : Sp := sp2 fun a b H Q _ => ∃ p w1 p1 u1, a = .ref p ∧ Bd K H p w1 p1 u1 ∧ ((∃ q w2 p2 u2, b = .ref q ∧ Bd K H q w2 p2 u2 ∧ Q (.bl (decide (w1 = w2 ∧ p1 = p2 ∧ u1 = u2))) H) ∨ (Kt K H b ∧ Q (.bl false) H))
theorem ok_Bound_eq {P : Program} {w : World} {K : PySem.W.Frag} {mg : Str → Option Value} {base : Heap} (T : Txt K mg) : ∃ fd, FnOk P w K mg base (L2.CX P w) 1 (He.ma K (He.ga K "Bound") "__eq__") fd ["self", "other"] (spBEq K) ∧ Binds K fd ["self", "other"] [] := by
  obtain ⟨fd, F⟩ := T.d_Bound_eq
  refine ⟨fd, F.ok sc_Bound_eq sp2_len (fun cdv A outer s H vs Q E hr h => ?_), F.bindsN fun _ _ _ _ _ _ us hl => match us, hl with | [_, _], _ => rfl⟩
  obtain ⟨a, b, rfl, p, w1, p1, u1, rfl, hp, h⟩ := sp2_is h
  refine ⟨_, (pss_cons (ps_if (pt_not (pt_val (pe_callB call_isi (by rfl) T.b_isinstance (by decide +kernel) (pa_cons (pv 1) (pa_cons (pe_glob (v := .ref (He.ga K "Bound")) rfl T.g_Bound rfl) pa_nil))))) (pss_one (ps_ret pe_bl)) pss_nil)
      (pss_one (ps_ret (pe_and (pe_cmpR op_eq (pe_fld (pv 0) rfl) (pe_fld (pv 1) rfl) (nomark _)) (pe_and (pe_cmpR op_eq (pe_fld (pv 0) rfl) (pe_fld (pv 1) rfl) (nomark _)) (pe_one (pe_cmpR op_eq (pe_fld (pv 0) rfl) (pe_fld (pv 1) rfl) (nomark _)))))))), ?_⟩
  walk_at "rd"
  rcases h with ⟨q, w2, p2, u2, rfl, hq, k⟩ | ⟨hb, k⟩
  · skip
    refine ⟨_, _, _, _, true, rfl, .own _, ty_bd T hq, T.cc_Bound.me, ?_⟩
    walk_at "rd"
    refine ite_f rfl ?_
    walk_at "rd"
    refine r_fw T hp ?_
    refine r_fw T hq ?_
    walk_at "rd"
    by_cases c1 : w1 = w2
    · refine ite_t (by simp [c1]) ?_
      walk_at "rd"
      refine r_fp T hp ?_
      refine r_fp T hq ?_
      walk_at "rd"
      by_cases c2 : p1 = p2
      · refine ite_t (by simp [c2]) ?_
        walk_at "rd"
        refine r_fu T hp ?_
        refine r_fu T hq ?_
        walk_at "rd"
        simpa [c1, c2] using k
      · refine ite_f (by simp [c2]) ?_
        simpa [c1, c2] using k
    · refine ite_f (by simp [c1]) ?_
      simpa [c1] using k
  · obtain ⟨t, ht, hk⟩ := kt_not T hb
    refine ⟨_, _, _, _, false, rfl, .own _, ht, hk, ?_⟩
    walk_at "rd"
    exact ite_t rfl k
def spNB (K : PySem.W.Frag) : Sp := sp2 fun v z H Q E => ∃ s, z = .str s ∧ ((∃ a w p u, v = .ref a ∧ Bd K H a w p u ∧ Q v H) ∨ (Kt K H v ∧ Raised K "BadBound" "part" (.str s) H E))
theorem ok_need_bound {P : Program} {w : World} {K : PySem.W.Frag} {mg : Str → Option Value} {base : Heap} (T : Txt K mg) : ∃ fd, FnOk P w K mg base (L2.CX P w) 3 (He.ga K "need_bound") fd ["value", "part"] (spNB K) ∧ Binds K fd ["value", "part"] [] := by
  obtain ⟨fd, F⟩ := T.d_need_bound
  obtain ⟨fd_BadBound_init, F_BadBound_init, B_BadBound_init⟩ := ok_BadBound_init (P := P) (w := w) (base := base) T
  refine ⟨fd, F.ok sc_need_bound sp2_len (fun cdv A outer s H vs Q E hr h => ?_), F.bindsN fun _ _ _ _ _ _ us hl => match us, hl with | [_, _], _ => rfl⟩
  have hr_BadBound_init : Room 2 _ := hr.mono (by decide)
  obtain ⟨v, z, rfl, z', rfl, hh⟩ := sp2_is h
  refine ⟨_, (pss_cons (ps_if (pt_not (pt_val (pe_callB call_isi (by rfl) T.b_isinstance (by decide +kernel) (pa_cons (pv 0) (pa_cons (pe_glob (v := .ref (He.ga K "Bound")) rfl T.g_Bound rfl) pa_nil))))) (pss_one (ps_raise rfl (takes_of rfl rfl rfl rfl) (pmk_oex T.e_BadBound.o T.e_BadBound.i T.e_BadBound.t F_BadBound_init hr_BadBound_init B_BadBound_init .nil passL rfl T.g_BadBound (pa_cons (pv 1) pa_nil)))) pss_nil)
      (pss_one (ps_ret (pv 0)))), ?_⟩
  walk_at "rd"
  rcases hh with ⟨a, w1, p1, u1, rfl, hq, k⟩ | ⟨hb, k⟩
  · refine ⟨_, _, _, _, true, rfl, .own _, ty_bd T hq, T.cc_Bound.me, ?_⟩
    walk_at "rd"
    refine ite_f rfl ?_
    walk_at "rd"
    exact k
  · obtain ⟨t, ht, hk⟩ := kt_not T hb
    refine ⟨_, _, _, _, false, rfl, .own _, ht, hk, ?_⟩
    walk_at "rd"
    refine ite_t rfl ?_
    exact ⟨_, rfl, r_err rfl k⟩
/-- the common under of two bounds -/
def cmu (p1 u1 p2 u2 : Int) : Option Int := if u1 ≠ u2 ∧ p1 ≠ 0 ∧ p2 ≠ 0 then none else some (if p2 = 0 then u1 else u2)
def spCU (K : PySem.W.Frag) : Sp := sp2 fun a b H Q E => ∃ p w1 p1 u1 q w2 p2 u2, a = .ref p ∧ Bd K H p w1 p1 u1 ∧ b = .ref q ∧ Bd K H q w2 p2 u2 ∧ (∀ c, cmu p1 u1 p2 u2 = some c → Q (.int c) H) ∧ (cmu p1 u1 p2 u2 = none → Raised K "Misfit" "part" (.str "under") H E)
theorem ok_common_under {P : Program} {w : World} {K : PySem.W.Frag} {mg : Str → Option Value} {base : Heap} (T : Txt K mg) : ∃ fd, FnOk P w K mg base (L2.CX P w) 3 (He.ga K "common_under") fd ["one", "other"] (spCU K) ∧ Binds K fd ["one", "other"] [] := by
  obtain ⟨fd, F⟩ := T.d_common_under
  obtain ⟨fd_Misfit_init, F_Misfit_init, B_Misfit_init⟩ := ok_Misfit_init (P := P) (w := w) (base := base) T
  refine ⟨fd, F.ok sc_common_under sp2_len (fun cdv A outer s H vs Q E hr h => ?_), F.bindsN fun _ _ _ _ _ _ us hl => match us, hl with | [_, _], _ => rfl⟩
  have hr_Misfit_init : Room 2 _ := hr.mono (by decide)
  obtain ⟨a, b, rfl, p, w1, p1, u1, q, w2, p2, u2, rfl, hp, rfl, hq, k1, k2⟩ := sp2_is h
  refine ⟨_, (pss_cons (ps_if (PW.pt (pw_and (pt_cmpR op_ne (pe_fld (pv 0) rfl) (pe_fld (pv 1) rfl) (nomark _)) (pw_and (pt_cmpR op_ne (pe_fld (pv 0) rfl) pe_int (nomark _)) (pw_and1 (pt_cmpR op_ne (pe_fld (pv 1) rfl) pe_int (nomark _)))))) (pss_one (ps_raise rfl (takes_of rfl rfl rfl rfl) (pmk_oex T.e_Misfit.o T.e_Misfit.i T.e_Misfit.t F_Misfit_init hr_Misfit_init B_Misfit_init .nil passL rfl T.g_Misfit (pa_cons pe_str pa_nil)))) pss_nil)
      (pss_one (ps_ret (pe_ifExp (pt_cmpR op_eq (pe_fld (pv 1) rfl) pe_int (nomark _)) (pe_fld (pv 0) rfl) (pe_fld (pv 1) rfl))))), ?_⟩
  have last : ¬ (u1 ≠ u2 ∧ p1 ≠ 0 ∧ p2 ≠ 0) → (tRet (tIf (tTest (tOp rEq (tFld K (tVar 1) "part") (tC (.int 0)))) (tFld K (tVar 0) "under") (tFld K (tVar 1) "under"))) { nx := fun _ H' => Q .non H', rt := Q } [some (.ref p), some (.ref q)] H := fun n => by
    walk_at "rd"
    refine r_fp T hq ?_
    walk_at "rd"
    have k1' := k1 (if p2 = 0 then u1 else u2) (by unfold cmu; rw [if_neg n])
    by_cases c : p2 = 0
    · rw [if_pos c] at k1'
      refine ite_t (by simp [c]) ?_
      exact r_fu T hp k1'
    · rw [if_neg c] at k1'
      refine ite_f (by simp [c]) ?_
      exact r_fu T hq k1'
  walk_at "rd"
  refine r_fu T hp ?_
  refine r_fu T hq ?_
  walk_at "rd"
  by_cases c1 : u1 = u2
  · exact ite_f (by simp [c1]) (ite_f rfl (last fun z => z.1 c1))
  · refine ite_t (by simp [c1]) ?_
    walk_at "rd"
    refine r_fp T hp ?_
    walk_at "rd"
    by_cases c2 : p1 = 0
    · exact ite_f (by simp [c2]) (ite_f rfl (last fun z => z.2.1 c2))
    · refine ite_t (by simp [c2]) ?_
      walk_at "rd"
      refine r_fp T hq ?_
      walk_at "rd"
      by_cases c3 : p2 = 0
      · exact ite_f (by simp [c3]) (last fun z => z.2.2 c3)
      · exact ite_t (by simp [c3]) (r_err rfl (k2 (by unfold cmu; rw [if_pos ⟨c1, c2, c3⟩])))
end K03
namespace K03
open PySem PySem.Spec PyProof.Rows L2 GS
local macro_rules | `(tactic| walk_at "rd") => `(tactic| (repeat (first
  | with_reducible refine r_next ?_
  | with_reducible refine r_seq ?_
  | with_reducible refine r_ret ?_
  | with_reducible refine r_ifS ?_
  | with_reducible refine r_asg ?_
  | with_reducible refine r_drop ?_
  | with_reducible refine r_op ?_
  | with_reducible refine r_un ?_
  | with_reducible refine r_cb ?_
  | with_reducible refine r_call ?_
  | with_reducible refine r_make ?_
  | with_reducible refine r_cons ?_
  | with_reducible refine r_nil ?_
  | with_reducible refine r_test ?_
  | with_reducible refine r_B ?_
  | with_reducible refine r_and ?_
  | with_reducible refine r_or ?_
  | with_reducible refine r_not ?_
  | with_reducible refine r_andV ?_
  | with_reducible refine r_orV ?_
  | with_reducible refine r_notV ?_
  | with_reducible refine r_if ?_
  | with_reducible refine r_tup ?_
  | with_reducible refine r_lst ?_
  | with_reducible refine r_c ?_
  | with_reducible refine r_k ?_
  | with_reducible refine r_kV ?_
  | ((with_reducible show tVar _ _ _ _); refine r_var3 ?_ (by rfl))
  | with_reducible refine r_I0 ?_
  | with_reducible refine r_U ?_
  | with_reducible refine r_eqI ?_
  | with_reducible refine r_neI ?_
  | dsimp only)))

/-! ### signs -/
def sgI (i : Int) : Int := if i = 0 then 0 else if 0 < i then 1 else -1
theorem sgI_cases (i : Int) : (sgI i = 0 ∧ i = 0) ∨ (sgI i = 1 ∧ 0 < i) ∨ (sgI i = -1 ∧ i < 0) := by
  unfold sgI
  split
  · simp_all
  · split
    · simp_all
    · right; right; omega
def spSgI (K : PySem.W.Frag) : Sp := sp1 fun v H Q _ => ∃ i, v = .int i ∧ Q (.int (sgI i)) H
theorem ok_sign_of_integer {P : Program} {w : World} {K : PySem.W.Frag} {mg : Str → Option Value} {base : Heap} (T : Txt K mg) : ∃ fd, FnOk P w K mg base (L2.CX P w) 1 (He.ga K "sign_of_integer") fd ["number"] (spSgI K) ∧ Binds K fd ["number"] [] := by
  obtain ⟨fd, F⟩ := T.d_sign_of_integer
  refine ⟨fd, F.ok sc_sign_of_integer sp1_len (fun cdv A outer s H vs Q E hr h => ?_), F.bindsN fun _ _ _ _ _ _ us hl => match us, hl with | [_], _ => rfl⟩
  obtain ⟨v, rfl, i, rfl, k⟩ := sp1_is h
  refine ⟨_, (pss_cons (ps_if (pt_cmpR op_eq (pv 0) pe_int (nomark _)) (pss_one (ps_ret pe_int)) pss_nil)
      (pss_one (ps_ret (pe_ifExp (pt_cmpR op_gt (pv 0) pe_int (nomark _)) pe_int (pe_un un_neg pe_int))))), ?_⟩
  walk_at "rd"
  by_cases c : i = 0
  · refine ite_t (by simp [c]) ?_
    walk_at "rd"
    simpa [sgI, c] using k
  · refine ite_f (by simp [c]) ?_
    walk_at "rd"
    by_cases c2 : 0 < i
    · refine ite_t (by simp [c2]) ?_
      walk_at "rd"
      simpa [sgI, c, c2] using k
    · refine ite_f (by simp [c2]) ?_
      walk_at "rd"
      simpa [sgI, c, c2] using k
theorem Z.sg (i : Int) : Z 2 (sgI i) := by
  rcases sgI_cases i with ⟨e, _⟩ | ⟨e, _⟩ | ⟨e, _⟩ <;> rw [e] <;> unfold Z <;> decide
def rt (p u : Int) : Int := if 0 < u then sgI p else 0
def sgn (w p u : Int) : Int := if 0 ≤ sgI w * rt p u then sgI (sgI w + rt p u) else sgI w * sgI (w ^ 2 - p ^ 2 * u)
theorem Z.rt (p u : Int) : Z 2 (rt p u) := by
  unfold K03.rt
  split
  · exact Z.sg p
  · unfold Z; decide
theorem r_pickI {c : Prop} [Decidable c] {σ : L2.St} {H : Hp} {Q : VK} {ta tb : TE} {i j : Int} (h1 : ∀ Q : VK, Q (.int i) H → ta σ H Q) (h2 : ∀ Q : VK, Q (.int j) H → tb σ H Q) (q : Q (.int (if c then i else j)) H) : if decide c = true then ta σ H Q else tb σ H Q := by
  by_cases h : c
  · rw [if_pos h] at q
    exact ite_t (decide_eq_true h) (h1 Q q)
  · rw [if_neg h] at q
    exact ite_f (decide_eq_false h) (h2 Q q)
theorem Bd.nn {K : PySem.W.Frag} {H : Hp} {a : Addr} {w p u : Int} (h : Bd K H a w p u) : 0 ≤ u := h.1
theorem powOk {n : Nat} {i : Int} (a : Z n i) (h : n * 2 ≤ 2 ^ 27) : CPowW i 2 := cpow_of (k := 2) a h
def spSign (K : PySem.W.Frag) : Sp := sp1 fun v H Q E => (∃ a w p u, v = .ref a ∧ Bd K H a w p u ∧ Z 1000 w ∧ Z 1000 p ∧ Z 1000 u ∧ Q (.int (sgn w p u)) H) ∨ (Kt K H v ∧ Raised K "BadBound" "part" (.str "bound") H E)
theorem ok_sign_of {P : Program} {w : World} {K : PySem.W.Frag} {mg : Str → Option Value} {base : Heap} (T : Txt K mg) : ∃ fd, FnOk P w K mg base (L2.CX P w) 4 (He.ga K "sign_of") fd ["bound"] (spSign K) ∧ Binds K fd ["bound"] [] ∧ KBn K fd ["bound"] 0 ["bound"] (pm [0]) (pm [0]) := by
  obtain ⟨fd, F⟩ := T.d_sign_of
  obtain ⟨fd_sign_of_integer, F_sign_of_integer, B_sign_of_integer⟩ := ok_sign_of_integer (P := P) (w := w) (base := base) T
  obtain ⟨fd_need_bound, F_need_bound, B_need_bound⟩ := ok_need_bound (P := P) (w := w) (base := base) T
  refine ⟨fd, F.ok sc_sign_of sp1_len (fun cdv A outer s H vs Q E hr h => ?_), F.bindsN fun _ _ _ _ _ _ us hl => match us, hl with | [_], _ => rfl, kb_of F 0 ["bound"] [0] (fun _ _ _ _ _ _ us ws h1 h2 => match us, ws, h1, h2 with | [], [_], _, _ => rfl)⟩
  have hr_sign_of_integer : Room 1 _ := hr.mono (by decide)
  have hr_need_bound : Room 3 _ := hr.mono (by decide)
  obtain ⟨v, rfl, hh⟩ := sp1_is h
  refine ⟨_, (pss_cons (ps_expr (pe_call F_need_bound hr_need_bound (by rfl) T.g_need_bound T.k_need_bound B_need_bound .nil (passes_call (takes_of rfl rfl rfl rfl) (fun _ _ _ _ h => h)) (pa_cons (pv 0) (pa_cons pe_str pa_nil))))
      (pss_cons (ps_par (i := 1) (j := 2) (by rfl) sc_sign_of.nd rfl rfl (by decide) rfl rfl (pa_cons (pe_call F_sign_of_integer hr_sign_of_integer (by rfl) T.g_sign_of_integer T.k_sign_of_integer B_sign_of_integer .nil passL (pa_cons (pe_fld (pv 0) rfl) pa_nil)) (pa_cons (pe_call F_sign_of_integer hr_sign_of_integer (by rfl) T.g_sign_of_integer T.k_sign_of_integer B_sign_of_integer .nil passL (pa_cons (pe_fld (pv 0) rfl) pa_nil)) pa_nil)) (by rfl))
      (pss_cons (ps_set (i := 3) sc_sign_of.nd rfl (Or.inl rfl) (pe_ifExp (pt_cmpR op_gt (pe_fld (pv 0) rfl) pe_int (nomark _)) (pv 2) pe_int))
      (pss_cons (ps_if (pt_cmpR op_ge (pe_op op_mulW (pv 1) (pv 3)) pe_int (nomark _)) (pss_one (ps_ret (pe_call F_sign_of_integer hr_sign_of_integer (by rfl) T.g_sign_of_integer T.k_sign_of_integer B_sign_of_integer .nil passL (pa_cons (pe_op op_add (pv 1) (pv 3)) pa_nil)))) pss_nil)
      (pss_one (ps_ret (pe_op op_mulW (pv 1) (pe_call F_sign_of_integer hr_sign_of_integer (by rfl) T.g_sign_of_integer T.k_sign_of_integer B_sign_of_integer .nil passL (pa_cons (pe_op op_sub (pe_op op_powW (pe_fld (pv 0) rfl) pe_int) (pe_op op_mulW (pe_op op_powW (pe_fld (pv 0) rfl) pe_int) (pe_fld (pv 0) rfl))) pa_nil))))))))), ?_⟩
  walk_at "rd"
  rcases hh with ⟨a, w, p, u, rfl, hb, zw, zp, zu, k⟩ | ⟨hb, k⟩
  · refine ⟨_, rfl, .inl ⟨a, w, p, u, rfl, hb, ?_⟩⟩
    walk_at "rd"
    refine r_fw T hb ?_
    walk_at "rd"
    refine ⟨w, rfl, ?_⟩
    walk_at "rd"
    refine r_fp T hb ?_
    walk_at "rd"
    refine ⟨p, rfl, ?_⟩
    walk_at "rd"
    refine ⟨_, _, rfl, ?_⟩
    walk_at "rd"
    refine r_fu T hb ?_
    walk_at "rd"
    refine r_pickI (i := sgI p) (j := 0) (fun Q q => ⟨_, rfl, q⟩) (fun Q q => q) ?_
    show tSeq _ _ _ (List.set _ 3 (some (.int (rt p u)))) H
    walk_at "rd"
    refine r_I (mulOk (Z.sg w) (Z.rt p u) (by decide) (by decide) (by decide)) ?_
    walk_at "rd"
    by_cases c : 0 ≤ sgI w * rt p u
    · refine ite_t (by simp [c]) ?_
      walk_at "rd"
      refine ⟨_, rfl, ?_⟩
      simpa [sgn, c] using k
    · refine ite_f (by simp [c]) ?_
      walk_at "rd"
      refine r_fw T hb ?_
      walk_at "rd"
      refine r_I (powOk zw (by decide)) ?_
      walk_at "rd"
      refine r_fp T hb ?_
      walk_at "rd"
      refine r_I (powOk zp (by decide)) ?_
      walk_at "rd"
      refine r_fu T hb ?_
      refine r_I (mulOk zp.sq zu (by decide) (by decide) (by decide)) ?_
      walk_at "rd"
      refine ⟨_, rfl, ?_⟩
      refine r_I (mulOk (Z.sg w) (Z.sg _) (by decide) (by decide) (by decide)) ?_
      simpa [sgn, c] using k
  · exact ⟨_, rfl, .inr ⟨hb, k⟩⟩
theorem cmu_nn {p1 u1 p2 u2 c : Int} (h1 : 0 ≤ u1) (h2 : 0 ≤ u2) (h : cmu p1 u1 p2 u2 = some c) : 0 ≤ c := by
  unfold cmu at h
  split at h
  · cases h
  · have e := Option.some.inj h
    subst e
    split <;> assumption
/-- two bounds in, what is done with them where they fit -/
def spTwo (K : PySem.W.Frag) (R : Int → Int → Int → Int → Int → Hp → VK → Prop) : Sp := sp2 fun a b H Q E => (Kt K H a ∧ Raised K "BadBound" "part" (.str "one") H E) ∨ ∃ p w1 p1 u1, a = .ref p ∧ Bd K H p w1 p1 u1 ∧ ((Kt K H b ∧ Raised K "BadBound" "part" (.str "other") H E) ∨ ∃ q w2 p2 u2, b = .ref q ∧ Bd K H q w2 p2 u2 ∧
  (∀ c, cmu p1 u1 p2 u2 = some c → R w1 p1 w2 p2 c H Q) ∧ (cmu p1 u1 p2 u2 = none → Raised K "Misfit" "part" (.str "under") H E))
def rAdded (K : PySem.W.Frag) (w1 p1 w2 p2 c : Int) (H : Hp) (Q : VK) : Prop := ∀ r H', Ex H H' → Bd K H' r (w1 + w2) (p1 + p2) c → Q (.ref r) H'
def rMult (K : PySem.W.Frag) (w1 p1 w2 p2 c : Int) (H : Hp) (Q : VK) : Prop := Z 300 w1 ∧ Z 300 p1 ∧ Z 300 w2 ∧ Z 300 p2 ∧ Z 300 c ∧ ∀ r H', Ex H H' → Bd K H' r (w1 * w2 + p1 * p2 * c) (w1 * p2 + p1 * w2) c → Q (.ref r) H'
def rAtMost (w1 p1 w2 p2 c : Int) (H : Hp) (Q : VK) : Prop := Z 900 w1 ∧ Z 900 p1 ∧ Z 900 w2 ∧ Z 900 p2 ∧ Z 900 c ∧ ∀ H', Ex H H' → Q (.bl (decide (sgn (w1 - w2) (p1 - p2) c ≤ 0))) H'
theorem ok_added {P : Program} {w : World} {K : PySem.W.Frag} {mg : Str → Option Value} {base : Heap} (T : Txt K mg) : ∃ fd, FnOk P w K mg base (L2.CX P w) 6 (He.ga K "added") fd ["one", "other"] (spTwo K (rAdded K)) ∧ Binds K fd ["one", "other"] [] ∧ KBn K fd ["one", "other"] 0 ["other", "one"] (pm [1, 0]) (pm [1, 0]) := by
  obtain ⟨fd, F⟩ := T.d_added
  obtain ⟨fd_Bound_init, F_Bound_init, B_Bound_init, kb_Bound_init_0⟩ := ok_Bound_init (P := P) (w := w) (base := base) T
  obtain ⟨fd_common_under, F_common_under, B_common_under⟩ := ok_common_under (P := P) (w := w) (base := base) T
  obtain ⟨fd_need_bound, F_need_bound, B_need_bound⟩ := ok_need_bound (P := P) (w := w) (base := base) T
  refine ⟨fd, F.ok sc_added sp2_len (fun cdv A outer s H vs Q E hr h => ?_), F.bindsN fun _ _ _ _ _ _ us hl => match us, hl with | [_, _], _ => rfl, kb_of F 0 ["other", "one"] [1, 0] (fun _ _ _ _ _ _ us ws h1 h2 => match us, ws, h1, h2 with | [], [_, _], _, _ => rfl)⟩
  have hr_Bound_init : Room 5 _ := hr.mono (by decide)
  have hr_common_under : Room 3 _ := hr.mono (by decide)
  have hr_need_bound : Room 3 _ := hr.mono (by decide)
  obtain ⟨a, b, rfl, hh⟩ := sp2_is h
  refine ⟨_, (pss_cons (ps_expr (pe_call F_need_bound hr_need_bound (by rfl) T.g_need_bound T.k_need_bound B_need_bound .nil (passes_call (takes_of rfl rfl rfl rfl) (fun _ _ _ _ h => h)) (pa_cons (pv 0) (pa_cons pe_str pa_nil))))
      (pss_cons (ps_expr (pe_call F_need_bound hr_need_bound (by rfl) T.g_need_bound T.k_need_bound B_need_bound .nil (passes_call (takes_of rfl rfl rfl rfl) (fun _ _ _ _ h => h)) (pa_cons (pv 1) (pa_cons pe_str pa_nil))))
      (pss_one (ps_ret (pe_make T.mk_Bound F_Bound_init hr_Bound_init (by rfl) T.g_Bound B_Bound_init .nil passL (pa_cons (pe_op op_add (pe_fld (pv 0) rfl) (pe_fld (pv 1) rfl)) (pa_cons (pe_op op_add (pe_fld (pv 0) rfl) (pe_fld (pv 1) rfl)) (pa_cons (pe_call F_common_under hr_common_under (by rfl) T.g_common_under T.k_common_under B_common_under .nil (passes_call (takes_of rfl rfl rfl rfl) (fun _ _ _ _ h => h)) (pa_cons (pv 0) (pa_cons (pv 1) pa_nil))) pa_nil)))))))), ?_⟩
  walk_at "rd"
  rcases hh with ⟨ha, k⟩ | ⟨p, w1, p1, u1, rfl, hp, ⟨hb, k⟩ | ⟨q, w2, p2, u2, rfl, hq, k, k2⟩⟩
  · exact ⟨_, rfl, .inr ⟨ha, k⟩⟩
  · refine ⟨_, rfl, .inl ⟨_, _, _, _, rfl, hp, ?_⟩⟩
    walk_at "rd"
    exact ⟨_, rfl, .inr ⟨hb, k⟩⟩
  · refine ⟨_, rfl, .inl ⟨_, _, _, _, rfl, hp, ?_⟩⟩
    walk_at "rd"
    refine ⟨_, rfl, .inl ⟨_, _, _, _, rfl, hq, ?_⟩⟩
    walk_at "rd"
    refine r_fw T hp ?_
    refine r_fw T hq ?_
    walk_at "rd"
    refine r_fp T hp ?_
    refine r_fp T hq ?_
    walk_at "rd"
    refine ⟨_, _, _, _, _, _, _, _, rfl, hp, rfl, hq, fun c hc => ?_, k2⟩
    walk_at "rd"
    exact r_Bound (cmu_nn hp.1 hq.1 hc) fun r H' _ e hb => k c hc r H' e hb
theorem ok_multiplied {P : Program} {w : World} {K : PySem.W.Frag} {mg : Str → Option Value} {base : Heap} (T : Txt K mg) : ∃ fd, FnOk P w K mg base (L2.CX P w) 6 (He.ga K "multiplied") fd ["one", "other"] (spTwo K (rMult K)) ∧ Binds K fd ["one", "other"] [] ∧ KBn K fd ["one", "other"] 0 ["one", "other"] (pm [0, 1]) (pm [0, 1]) := by
  obtain ⟨fd, F⟩ := T.d_multiplied
  obtain ⟨fd_Bound_init, F_Bound_init, B_Bound_init, kb_Bound_init_0⟩ := ok_Bound_init (P := P) (w := w) (base := base) T
  obtain ⟨fd_common_under, F_common_under, B_common_under⟩ := ok_common_under (P := P) (w := w) (base := base) T
  obtain ⟨fd_need_bound, F_need_bound, B_need_bound⟩ := ok_need_bound (P := P) (w := w) (base := base) T
  refine ⟨fd, F.ok sc_multiplied sp2_len (fun cdv A outer s H vs Q E hr h => ?_), F.bindsN fun _ _ _ _ _ _ us hl => match us, hl with | [_, _], _ => rfl, kb_of F 0 ["one", "other"] [0, 1] (fun _ _ _ _ _ _ us ws h1 h2 => match us, ws, h1, h2 with | [], [_, _], _, _ => rfl)⟩
  have hr_Bound_init : Room 5 _ := hr.mono (by decide)
  have hr_common_under : Room 3 _ := hr.mono (by decide)
  have hr_need_bound : Room 3 _ := hr.mono (by decide)
  obtain ⟨a, b, rfl, hh⟩ := sp2_is h
  refine ⟨_, (pss_cons (ps_expr (pe_call F_need_bound hr_need_bound (by rfl) T.g_need_bound T.k_need_bound B_need_bound .nil (passes_call (takes_of rfl rfl rfl rfl) (fun _ _ _ _ h => h)) (pa_cons (pv 0) (pa_cons pe_str pa_nil))))
      (pss_cons (ps_expr (pe_call F_need_bound hr_need_bound (by rfl) T.g_need_bound T.k_need_bound B_need_bound .nil (passes_call (takes_of rfl rfl rfl rfl) (fun _ _ _ _ h => h)) (pa_cons (pv 1) (pa_cons pe_str pa_nil))))
      (pss_cons (ps_set (i := 2) sc_multiplied.nd rfl (Or.inl rfl) (pe_call F_common_under hr_common_under (by rfl) T.g_common_under T.k_common_under B_common_under .nil (passes_call (takes_of rfl rfl rfl rfl) (fun _ _ _ _ h => h)) (pa_cons (pv 0) (pa_cons (pv 1) pa_nil))))
      (pss_cons (ps_set (i := 3) sc_multiplied.nd rfl (Or.inl rfl) (pe_op op_add (pe_op op_mulW (pe_fld (pv 0) rfl) (pe_fld (pv 1) rfl)) (pe_op op_mulW (pe_op op_mulW (pe_fld (pv 0) rfl) (pe_fld (pv 1) rfl)) (pv 2))))
      (pss_one (ps_ret (pe_make T.mk_Bound F_Bound_init hr_Bound_init (by rfl) T.g_Bound B_Bound_init .nil passL (pa_cons (pv 3) (pa_cons (pe_op op_add (pe_op op_mulW (pe_fld (pv 0) rfl) (pe_fld (pv 1) rfl)) (pe_op op_mulW (pe_fld (pv 0) rfl) (pe_fld (pv 1) rfl))) (pa_cons (pv 2) pa_nil)))))))))), ?_⟩
  walk_at "rd"
  rcases hh with ⟨ha, k⟩ | ⟨p, w1, p1, u1, rfl, hp, ⟨hb, k⟩ | ⟨q, w2, p2, u2, rfl, hq, k, k2⟩⟩
  · exact ⟨_, rfl, .inr ⟨ha, k⟩⟩
  · refine ⟨_, rfl, .inl ⟨_, _, _, _, rfl, hp, ?_⟩⟩
    walk_at "rd"
    exact ⟨_, rfl, .inr ⟨hb, k⟩⟩
  · refine ⟨_, rfl, .inl ⟨_, _, _, _, rfl, hp, ?_⟩⟩
    walk_at "rd"
    refine ⟨_, rfl, .inl ⟨_, _, _, _, rfl, hq, ?_⟩⟩
    walk_at "rd"
    refine ⟨_, _, _, _, _, _, _, _, rfl, hp, rfl, hq, fun c hc => ?_, k2⟩
    obtain ⟨z1, z2, z3, z4, z5, k⟩ := k c hc
    walk_at "rd"
    refine r_fw T hp ?_
    refine r_fw T hq ?_
    refine r_I (mulOk z1 z3 (by decide) (by decide) (by decide)) ?_
    walk_at "rd"
    refine r_fp T hp ?_
    refine r_fp T hq ?_
    refine r_I (mulOk z2 z4 (by decide) (by decide) (by decide)) ?_
    walk_at "rd"
    refine r_I (mulOk (z2.mul z4) z5 (by decide) (by decide) (by decide)) ?_
    walk_at "rd"
    refine r_fw T hp ?_
    refine r_fp T hq ?_
    refine r_I (mulOk z1 z4 (by decide) (by decide) (by decide)) ?_
    refine r_fp T hp ?_
    refine r_fw T hq ?_
    refine r_I (mulOk z2 z3 (by decide) (by decide) (by decide)) ?_
    walk_at "rd"
    exact r_Bound (cmu_nn hp.1 hq.1 hc) fun r H' _ e hb => k r H' e hb
theorem Bd.lift {K : PySem.W.Frag} {H H' : Hp} {a : Addr} {w p u : Int} (h : Bd K H a w p u) (e : Ex H H') : Bd K H' a w p u := h.ex e
theorem ok_at_most {P : Program} {w : World} {K : PySem.W.Frag} {mg : Str → Option Value} {base : Heap} (T : Txt K mg) : ∃ fd, FnOk P w K mg base (L2.CX P w) 6 (He.ga K "at_most") fd ["one", "other"] (spTwo K (rAtMost)) ∧ Binds K fd ["one", "other"] [] ∧ KBn K fd ["one", "other"] 0 ["other", "one"] (pm [1, 0]) (pm [1, 0]) := by
  obtain ⟨fd, F⟩ := T.d_at_most
  obtain ⟨fd_sign_of, F_sign_of, B_sign_of, kb_sign_of_0⟩ := ok_sign_of (P := P) (w := w) (base := base) T
  obtain ⟨fd_Bound_init, F_Bound_init, B_Bound_init, kb_Bound_init_0⟩ := ok_Bound_init (P := P) (w := w) (base := base) T
  obtain ⟨fd_common_under, F_common_under, B_common_under⟩ := ok_common_under (P := P) (w := w) (base := base) T
  obtain ⟨fd_need_bound, F_need_bound, B_need_bound⟩ := ok_need_bound (P := P) (w := w) (base := base) T
  refine ⟨fd, F.ok sc_at_most sp2_len (fun cdv A outer s H vs Q E hr h => ?_), F.bindsN fun _ _ _ _ _ _ us hl => match us, hl with | [_, _], _ => rfl, kb_of F 0 ["other", "one"] [1, 0] (fun _ _ _ _ _ _ us ws h1 h2 => match us, ws, h1, h2 with | [], [_, _], _, _ => rfl)⟩
  have hr_sign_of : Room 4 _ := hr.mono (by decide)
  have hr_Bound_init : Room 5 _ := hr.mono (by decide)
  have hr_common_under : Room 3 _ := hr.mono (by decide)
  have hr_need_bound : Room 3 _ := hr.mono (by decide)
  obtain ⟨a, b, rfl, hh⟩ := sp2_is h
  refine ⟨_, (pss_cons (ps_expr (pe_call F_need_bound hr_need_bound (by rfl) T.g_need_bound T.k_need_bound B_need_bound .nil (passes_call (takes_of rfl rfl rfl rfl) (fun _ _ _ _ h => h)) (pa_cons (pv 0) (pa_cons pe_str pa_nil))))
      (pss_cons (ps_expr (pe_call F_need_bound hr_need_bound (by rfl) T.g_need_bound T.k_need_bound B_need_bound .nil (passes_call (takes_of rfl rfl rfl rfl) (fun _ _ _ _ h => h)) (pa_cons (pv 1) (pa_cons pe_str pa_nil))))
      (pss_cons (ps_set (i := 2) sc_at_most.nd rfl (Or.inl rfl) (pe_call F_common_under hr_common_under (by rfl) T.g_common_under T.k_common_under B_common_under .nil (passes_call (takes_of rfl rfl rfl rfl) (fun _ _ _ _ h => h)) (pa_cons (pv 0) (pa_cons (pv 1) pa_nil))))
      (pss_one (ps_ret (pe_cmpR op_le (pe_call F_sign_of hr_sign_of (by rfl) T.g_sign_of T.k_sign_of B_sign_of .nil passL (pa_cons (pe_make T.mk_Bound F_Bound_init hr_Bound_init (by rfl) T.g_Bound B_Bound_init .nil passL (pa_cons (pe_op op_sub (pe_fld (pv 0) rfl) (pe_fld (pv 1) rfl)) (pa_cons (pe_op op_sub (pe_fld (pv 0) rfl) (pe_fld (pv 1) rfl)) (pa_cons (pv 2) pa_nil)))) pa_nil)) pe_int (nomark _))))))), ?_⟩
  walk_at "rd"
  rcases hh with ⟨ha, k⟩ | ⟨p, w1, p1, u1, rfl, hp, ⟨hb, k⟩ | ⟨q, w2, p2, u2, rfl, hq, k, k2⟩⟩
  · exact ⟨_, rfl, .inr ⟨ha, k⟩⟩
  · refine ⟨_, rfl, .inl ⟨_, _, _, _, rfl, hp, ?_⟩⟩
    walk_at "rd"
    exact ⟨_, rfl, .inr ⟨hb, k⟩⟩
  · refine ⟨_, rfl, .inl ⟨_, _, _, _, rfl, hp, ?_⟩⟩
    walk_at "rd"
    refine ⟨_, rfl, .inl ⟨_, _, _, _, rfl, hq, ?_⟩⟩
    walk_at "rd"
    refine ⟨_, _, _, _, _, _, _, _, rfl, hp, rfl, hq, fun c hc => ?_, k2⟩
    obtain ⟨z1, z2, z3, z4, z5, k⟩ := k c hc
    walk_at "rd"
    refine r_fw T hp ?_
    refine r_fw T hq ?_
    walk_at "rd"
    refine r_fp T hp ?_
    refine r_fp T hq ?_
    walk_at "rd"
    refine r_Bound (cmu_nn hp.1 hq.1 hc) fun r H' _ e hb => ?_
    walk_at "rd"
    refine .inl ⟨_, _, _, _, rfl, hb, (z1.sub z3).mono (by decide), (z2.sub z4).mono (by decide), z5.mono (by decide), ?_⟩
    walk_at "rd"
    exact k H' e
end K03
namespace K03
open PySem PySem.Spec PyProof.Rows L2 GS TL
local macro_rules | `(tactic| walk_at "rd") => `(tactic| (repeat (first
  | with_reducible refine r_next ?_
  | with_reducible refine r_seq ?_
  | with_reducible refine r_ret ?_
  | with_reducible refine r_ifS ?_
  | with_reducible refine r_asg ?_
  | with_reducible refine r_drop ?_
  | with_reducible refine r_op ?_
  | with_reducible refine r_un ?_
  | with_reducible refine r_cb ?_
  | with_reducible refine r_call ?_
  | with_reducible refine r_make ?_
  | with_reducible refine r_cons ?_
  | with_reducible refine r_nil ?_
  | with_reducible refine r_test ?_
  | with_reducible refine r_B ?_
  | with_reducible refine r_and ?_
  | with_reducible refine r_or ?_
  | with_reducible refine r_not ?_
  | with_reducible refine r_andV ?_
  | with_reducible refine r_orV ?_
  | with_reducible refine r_notV ?_
  | with_reducible refine r_if ?_
  | with_reducible refine r_tup ?_
  | with_reducible refine r_lst ?_
  | with_reducible refine r_c ?_
  | with_reducible refine r_lc ?_
  | with_reducible refine r_chain ?_
  | with_reducible refine r_iT ?_
  | with_reducible refine r_iL ?_
  | with_reducible refine r_iR1 ?_
  | with_reducible refine r_k ?_
  | with_reducible refine r_kV ?_
  | ((with_reducible show tVar _ _ _ _); refine r_var3 ?_ (by rfl))
  | with_reducible refine r_I0 ?_
  | with_reducible refine r_U ?_
  | with_reducible refine r_eqI ?_
  | with_reducible refine r_neI ?_
  | dsimp only)))
/-! ### texts -/
theorem minus_tl : tl (Str.ofString "-") = [45] := rfl
theorem rp_nS (i : Int) : tl (Txt.removeprefix (nS i) (Str.ofString "-")) = dg i := by
  unfold Txt.removeprefix
  by_cases c : i < 0
  · have e := tl_nS_neg c
    have h1 : Builtin.Str.subAt (nS i) (Str.ofString "-") 0 = true := by
      rw [StrLaws.subAt_eq]
      show ((tl (nS i)).drop 0).take 1 == [45]
      rw [e]
      rfl
    have hl : (nS i).length = (dg i).length + 1 := by rw [len_tl, e, List.length_cons]
    rw [if_pos h1]
    show tl (if ((nS i).length - 1 == (nS i).length) = true then nS i else Builtin.Str.strSub (nS i) 1 (nS i).length) = _
    rw [if_neg (by rw [hl]; simp), tl_strSub_end, e]
    rfl
  · have e := tl_nS_nn (i := i) (by omega)
    have h1 : Builtin.Str.subAt (nS i) (Str.ofString "-") 0 = false := by
      rw [StrLaws.subAt_eq]
      show (((tl (nS i)).drop 0).take 1 == [45]) = false
      rw [e]
      have d := dg_digits i
      cases q : dg i with
      | nil => rfl
      | cons x r =>
        rw [q] at d
        have := d x (List.mem_cons_self ..)
        simp
        omega
    rw [h1]
    exact e
theorem iD_mem {c : Nat} (h : 48 ≤ c ∧ c ≤ 57) : c ∈ (Str.ofString "0123456789").cps.toList := by
  have e : (Str.ofString "0123456789").cps.toList = [48, 49, 50, 51, 52, 53, 54, 55, 56, 57] := rfl
  rw [e]
  simp
  omega
theorem numL_head {n : Nat} (h : 0 < n) : (numL n).head? ≠ some 48 := by
  induction n using Nat.strongRecOn with
  | _ n ih =>
    by_cases c : n < 10
    · rw [numL_lt c]
      simp
      omega
    · rw [numL_step (by omega)]
      have := ih (n / 10) (by omega) (by omega)
      cases q : numL (n / 10) with
      | nil => exact absurd q (numL_ne _)
      | cons a r =>
        rw [q] at this
        exact this
def spIIT (K : PySem.W.Frag) : Sp := sp1 fun v H Q _ => ∃ i, v = .str (nS i) ∧ i.natAbs < 10 ^ 60 ∧ ∀ H', Ex H H' → Q (.bl true) H'
theorem ok_is_integer_text {P : Program} {w : World} {K : PySem.W.Frag} {mg : Str → Option Value} {base : Heap} (T : Txt K mg) : ∃ fd, FnOk P w K mg base (L2.CX P w) 1 (He.ga K "is_integer_text") fd ["item"] (spIIT K) ∧ Binds K fd ["item"] [] := by
  obtain ⟨fd, F⟩ := T.d_is_integer_text
  refine ⟨fd, F.ok sc_is_integer_text sp1_len (fun cdv A outer s H vs Q E hr h => ?_), F.bindsN fun _ _ _ _ _ _ us hl => match us, hl with | [_], _ => rfl⟩
  obtain ⟨v, rfl, i, rfl, hi, k⟩ := sp1_is h
  refine ⟨_, (pss_cons (ps_set (i := 1) sc_is_integer_text.nd rfl (Or.inl rfl) (pe_bm PySem.F.plainAttrs_str PySem.F.slot_str_removeprefix PySem.F.type_str_removeprefix mt_removeprefix (pv 0) (pa_cons pe_str pa_nil)))
      (pss_cons (ps_if (PW.pt (pw_or (pt_not (pt_chain op_le op_le pe_int (pe_callB call_len_str (by rfl) T.b_len PySem.boot_len (pa_cons (pv 1) pa_nil)) (pe_gint rfl T.c_MOST_DIGITS))) (pw_or1 (pt_not (pt_val (pe_callB (cr_all rfl) (by rfl) T.b_all (by decide +kernel) (pa_cons (pe_lc (own := [("each", 2)]) (g := gName 2) (tt := tYes)  rfl sc_is_integer_text.nd (pi_str (pv 1)) (blkOk_by (own := [("each", 2)]) (N := ["item", "digits", "each"]) (sc := defScope s_is_integer_text) (by decide +kernel)) (fun _ _ _ _ _ => (pg_name (i := 2) sc_is_integer_text.nd rfl (Or.inl rfl))) (fun _ _ _ _ _ => pts_nil) (fun _ _ _ _ _ => (pe_cmpR op_in_sign (pv 2) (pe_gstr rfl T.c_DIGITS) rfl))) pa_nil))))))) (pss_one (ps_ret pe_bl)) pss_nil)
      (pss_one (ps_ret (pe_or (pe_cmpR op_ne (pe_ix ix_str (pv 1) pe_int (fun _ _ => rfl)) pe_str (nomark _)) (pe_one (pe_cmpR op_eq (pv 0) pe_str (nomark _)))))))), ?_⟩
  have hd := rp_nS i
  have hl := dg_len (k := 60) (by decide) hi
  have hne := dg_ne i
  have hdg := dg_digits i
  have hz := nS_len (k := 60) (by decide) hi
  walk_at "rd"
  refine ⟨_, rfl, rfl, ?_⟩
  walk_at "rd"
  refine ⟨_, _, rfl, rfl, sz_le (by omega), ?_⟩
  walk_at "rd"
  generalize hx : Txt.removeprefix (nS i) (Str.ofString "-") = x at hd ⊢
  have hxl : x.length = (dg i).length := by rw [len_tl, hd]
  walk_at "rd"
  refine ⟨_, rfl, sz_le (by omega), ?_⟩
  walk_at "rd"
  have h1 : 0 < (dg i).length := List.length_pos_iff.mpr hne
  refine ite_t (decide_eq_true (by omega)) ?_
  walk_at "rd"
  refine ite_f (by simp; omega) ?_
  walk_at "rd"
  refine ⟨_, rfl, x, rfl, ?_⟩
  refine r_lcM (n := x.cps.size) (k := 2) (walk_str (z := x)) (fun _ => .bl true) (by have : x.cps.size = x.length := rfl; omega) (fun _ _ => trivial) (fun _ => rfl) ?_ ?_
  · rintro j y H0 H' hj e0 ⟨rfl, c, hc, rfl⟩
    refine ⟨Ex.refl _, fun H3 e3 R r => ?_⟩
    have hm : c ∈ dg i := by
      rw [← hd]
      refine List.mem_of_getElem? (i := j) ?_
      rw [Array.getElem?_toList]
      exact hc
    refine ⟨_, rfl, c, _, rfl, rfl, ?_⟩
    rw [decide_eq_true (iD_mem (hdg c hm))]
    exact r H3 (Ex.refl _)
  · intro p H' hp e hl'
    walk_at "rd"
    refine all_true hl' ?_
    walk_at "rd"
    refine ite_f rfl ?_
    walk_at "rd"
    cases q : dg i with
    | nil => exact absurd q hne
    | cons c r =>
      refine ⟨x, 0, c, rfl, rfl, sz_le (by omega), ?_, ?_⟩
      · show atI (tl x) ((0 : Nat) : Int) = some c
        refine atI_nat ?_
        rw [hd, q]
        rfl
      · walk_at "rd"
        refine r_ne rfl ?_
        walk_at "rd"
        by_cases c0 : c = 48
        · have l1 : i = 0 := by
            by_cases b : 0 < i.natAbs
            · have := numL_head b
              rw [show numL i.natAbs = c :: r from q, c0] at this
              exact absurd rfl this
            · omega
          subst l1
          subst c0
          refine ite_f (by decide +kernel) ?_
          walk_at "rd"
          refine r_eq rfl ?_
          have e0 : decide (V.str (nS 0) = V.str (Str.ofString "0")) = true := by decide +kernel
          rw [e0]
          exact k H' e
        · have e0 : (!decide (V.str (⟨#[c]⟩ : Str) = V.str (Str.ofString "0"))) = true := by
            have : ¬ V.str (⟨#[c]⟩ : Str) = V.str (Str.ofString "0") := fun z => by
              have z1 : (⟨#[c]⟩ : Str) = Str.ofString "0" := by injection z
              have z2 : ([c] : List Nat) = [48] := congrArg tl z1
              exact c0 (List.cons.inj z2).1
            simp [this]
          refine ite_t e0 ?_
          exact k H' e
/-! ### reading -/
def spItems (K : PySem.W.Frag) : Sp := sp1 fun v H Q _ => ∃ ys : List Str, v = .str (Txt.join (Str.ofString " ") ys) ∧ ys ≠ [] ∧ (∀ y ∈ ys, 32 ∉ tl y) ∧ (Txt.join (Str.ofString " ") ys).length ≤ 1000 ∧ ∀ p H', Ex H H' → H' p = some (.lst (ys.map V.str)) → Q (.ref p) H'
theorem ok_items_of {P : Program} {w : World} {K : PySem.W.Frag} {mg : Str → Option Value} {base : Heap} (T : Txt K mg) : ∃ fd, FnOk P w K mg base (L2.CX P w) 1 (He.ga K "items_of") fd ["text"] (spItems K) ∧ Binds K fd ["text"] [] := by
  obtain ⟨fd, F⟩ := T.d_items_of
  refine ⟨fd, F.ok sc_items_of sp1_len (fun cdv A outer s H vs Q E hr h => ?_), F.bindsN fun _ _ _ _ _ _ us hl => match us, hl with | [_], _ => rfl⟩
  obtain ⟨v, rfl, ys, rfl, hne, hf, hl, k⟩ := sp1_is h
  refine ⟨_, (pss_cons (ps_if (pt_not (pt_val (pe_callB call_isi (by rfl) T.b_isinstance (by decide +kernel) (pa_cons (pv 0) (pa_cons (pe_bltn (v := .ty "str") (by rfl) T.b_str (by decide +kernel) rfl) pa_nil))))) (pss_one ps_never) pss_nil)
      (pss_one (ps_ret (pe_split (pv 0) pe_str)))), ?_⟩
  walk_at "rd"
  refine ⟨_, _, _, _, true, rfl, .ty "str", .base (.str _), kit_ty (by decide +kernel), ?_⟩
  walk_at "rd"
  refine ite_f rfl ?_
  walk_at "rd"
  refine ⟨_, rfl, ⟨_, rfl⟩, ?_⟩
  refine ⟨_, _, rfl, rfl, rfl, sz_le (by omega), fun p hp => ?_⟩
  have e : Txt.split (Txt.join (Str.ofString " ") ys) (Str.ofString " ") = ys := split_join (y := Str.ofString " ") (s := 32) (S := []) rfl (by decide +kernel) hne hf
  rw [e]
  exact k p _ (Ex.new hp) upd_same
def spIntAt (K : PySem.W.Frag) : Sp := sp4 fun a b l m H Q _ => ∃ (p : Addr) (ys : List Str) (j : Nat) (i : Int) (l' m' : Option Int), a = .ref p ∧ SqL K H p (ys.map V.str) ∧ b = .int (j : Nat) ∧ ys[j]? = some (nS i) ∧ i.natAbs < 10 ^ 60 ∧ bnd l = some l' ∧ bnd m = some m' ∧ inB (.int i) l' m' = true ∧ ∀ H', Ex H H' → Q (.int i) H'
theorem ok_integer_at {P : Program} {w : World} {K : PySem.W.Frag} {mg : Str → Option Value} {base : Heap} (T : Txt K mg) : ∃ fd, FnOk P w K mg base (L2.CX P w) 3 (He.ga K "integer_at") fd ["items", "at", "least", "most"] (spIntAt K) ∧ Binds K fd ["items", "at", "least", "most"] [] := by
  obtain ⟨fd, F⟩ := T.d_integer_at
  obtain ⟨fd_is_within, F_is_within, B_is_within⟩ := ok_is_within (P := P) (w := w) (base := base) T
  obtain ⟨fd_is_integer_text, F_is_integer_text, B_is_integer_text⟩ := ok_is_integer_text (P := P) (w := w) (base := base) T
  refine ⟨fd, F.ok sc_integer_at sp4_len (fun cdv A outer s H vs Q E hr h => ?_), F.bindsN fun _ _ _ _ _ _ us hl => match us, hl with | [_, _, _, _], _ => rfl⟩
  have hr_is_within : Room 2 _ := hr.mono (by decide)
  have hr_is_integer_text : Room 1 _ := hr.mono (by decide)
  obtain ⟨a, b, l, m, rfl, p, ys, j, i, l', m', rfl, hp, rfl, hy, hi, hl, hm, hb, k⟩ := sp4_is h
  refine ⟨_, (pss_cons (ps_if (PW.pt (pw_or (pt_cmpR op_ge (pv 1) (pe_callB call_len_seq (by rfl) T.b_len PySem.boot_len (pa_cons (pv 0) pa_nil)) (nomark _)) (pw_or1 (pt_not (pt_val (pe_call F_is_integer_text hr_is_integer_text (by rfl) T.g_is_integer_text T.k_is_integer_text B_is_integer_text .nil passL (pa_cons (pe_ix ix_list (pv 0) (pv 1) (fun _ _ => rfl)) pa_nil))))))) (pss_one ps_never) pss_nil)
      (pss_cons (ps_set (i := 4) sc_integer_at.nd rfl (Or.inl rfl) (pe_callTy call_int_str (by rfl) T.b_int (by decide +kernel) (pa_cons (pe_ix ix_list (pv 0) (pv 1) (fun _ _ => rfl)) pa_nil)))
      (pss_cons (ps_if (pt_not (pt_val (pe_call F_is_within hr_is_within (by rfl) T.g_is_within T.k_is_within B_is_within .nil passL (pa_cons (pv 4) (pa_cons (pv 2) (pa_cons (pv 3) pa_nil)))))) (pss_one ps_never) pss_nil)
      (pss_one (ps_ret (pv 4)))))), ?_⟩
  have hlt : j < ys.length := (List.getElem?_eq_some_iff.mp hy).1
  have hat : atI (ys.map V.str) ((j : Nat) : Int) = some (.str (nS i)) := atI_nat (by rw [List.getElem?_map, hy]; rfl)
  walk_at "rd"
  refine ⟨_, _, rfl, .inl hp, ?_⟩
  walk_at "rd"
  refine ite_f (by simp; omega) ?_
  walk_at "rd"
  refine ⟨_, _, _, _, rfl, rfl, hp, hat, ?_⟩
  walk_at "rd"
  refine ⟨i, rfl, hi, fun H' e => ?_⟩
  walk_at "rd"
  refine ite_f rfl ?_
  walk_at "rd"
  refine ⟨_, _, _, _, rfl, rfl, e.sql hp, hat, ?_⟩
  walk_at "rd"
  have hz := nS_len (k := 60) (by decide) hi
  refine ⟨_, i, rfl, nS_int (Nat.lt_of_lt_of_le hi (Nat.pow_le_pow_right (by decide) (by decide))), by omega, ?_⟩
  walk_at "rd"
  refine ⟨kn_int i, l', m', hl, hm, ?_⟩
  rw [hb]
  walk_at "rd"
  refine ite_f rfl ?_
  walk_at "rd"
  exact k H' e
def spNeedEnd (K : PySem.W.Frag) : Sp := sp2 fun a b H Q _ => ∃ (p : Addr) (xs : List V) (j : Int), a = .ref p ∧ SqL K H p xs ∧ b = .int j ∧ (xs.length : Int) ≤ j ∧ Q .non H
theorem ok_need_end {P : Program} {w : World} {K : PySem.W.Frag} {mg : Str → Option Value} {base : Heap} (T : Txt K mg) : ∃ fd, FnOk P w K mg base (L2.CX P w) 1 (He.ga K "need_end") fd ["items", "many"] (spNeedEnd K) ∧ Binds K fd ["items", "many"] [] := by
  obtain ⟨fd, F⟩ := T.d_need_end
  refine ⟨fd, F.ok sc_need_end sp2_len (fun cdv A outer s H vs Q E hr h => ?_), F.bindsN fun _ _ _ _ _ _ us hl => match us, hl with | [_, _], _ => rfl⟩
  obtain ⟨a, b, rfl, p, xs, j, rfl, hp, rfl, hj, k⟩ := sp2_is h
  refine ⟨_, (pss_one (ps_if (pt_cmpR op_gt (pe_callB call_len_seq (by rfl) T.b_len PySem.boot_len (pa_cons (pv 0) pa_nil)) (pv 1) (nomark _)) (pss_one ps_never) pss_nil)), ?_⟩
  walk_at "rd"
  refine ⟨_, _, rfl, .inl hp, ?_⟩
  walk_at "rd"
  refine ite_f (by simp; omega) ?_
  walk_at "rd"
  exact k
/-! ### writing -/
def spIntText (K : PySem.W.Frag) : Sp := sp1 fun v H Q _ => ∃ i, v = .int i ∧ i.natAbs < 10 ^ 60 ∧ ∀ H', Ex H H' → Q (.str (nS i)) H'
theorem ok_integer_text {P : Program} {w : World} {K : PySem.W.Frag} {mg : Str → Option Value} {base : Heap} (T : Txt K mg) : ∃ fd, FnOk P w K mg base (L2.CX P w) 1 (He.ga K "integer_text") fd ["number"] (spIntText K) ∧ Binds K fd ["number"] [] := by
  obtain ⟨fd, F⟩ := T.d_integer_text
  refine ⟨fd, F.ok sc_integer_text sp1_len (fun cdv A outer s H vs Q E hr h => ?_), F.bindsN fun _ _ _ _ _ _ us hl => match us, hl with | [_], _ => rfl⟩
  obtain ⟨v, rfl, i, rfl, hi, k⟩ := sp1_is h
  refine ⟨_, (pss_cons (ps_set (i := 1) sc_integer_text.nd rfl (Or.inl rfl) (pe_op op_powW pe_int pe_int))
      (pss_cons (ps_set (i := 2) sc_integer_text.nd rfl (Or.inl rfl) (pe_callB call_abs (by rfl) T.b_abs (by decide +kernel) (pa_cons (pv 0) pa_nil)))
      (pss_cons (ps_set (i := 3) sc_integer_text.nd rfl (Or.inl rfl) (pe_lst pa_nil))
      (pss_cons (ps_while (passes_of rfl) (pt_cmpR op_ge (pv 2) (pv 1) (nomark _)) (pss_cons (ps_set (i := 3) sc_integer_text.nd rfl (Or.inl rfl) (pe_op op_cat (pe_lst (pa_cons (pe_bm PySem.F.plainAttrs_str PySem.F.slot_str_zfill PySem.F.type_str_zfill mt_zfill (pe_callTy call_str_int (by rfl) T.b_str (by decide +kernel) (pa_cons (pe_op op_mod (pv 2) (pv 1)) pa_nil)) (pa_cons pe_int pa_nil)) pa_nil)) (pv 3)))
      (pss_one (ps_set (i := 2) sc_integer_text.nd rfl (Or.inl rfl) (pe_op op_fdivW (pv 2) (pv 1))))))
      (pss_cons (ps_set (i := 4) sc_integer_text.nd rfl (Or.inl rfl) (pe_ifExp (pt_cmpR op_lt (pv 0) pe_int (nomark _)) pe_str pe_str))
      (pss_one (ps_ret (pe_op op_add_str (pe_op op_add_str (pv 4) (pe_callTy call_str_int (by rfl) T.b_str (by decide +kernel) (pa_cons (pv 2) pa_nil))) (pe_join pe_str (pv 3)))))))))), ?_⟩
  walk_at "rd"
  refine r_I (show CPowW 10 64 from cpow_of (k := 64) (n := 4) (by decide) (by decide)) ?_
  walk_at "rd"
  refine ⟨i, rfl, ?_⟩
  walk_at "rd"
  refine r_newL (Nat.zero_le _) fun p H1 hp e1' h1 => ?_
  walk_at "rd"
  refine ⟨fun _ σ' H' => σ' = _ ∧ H' = H1, ⟨0, rfl, rfl⟩, fun m σ' H' hz => ?_⟩
  obtain ⟨z1, z2⟩ := hz
  rw [z1, z2]
  walk_at "rd"
  refine ite_f (by
    refine decide_eq_false ?_
    have : (10 : Int) ^ (64 : Int).toNat = 10 ^ 64 := rfl
    rw [this]
    have : ((10 : Nat) ^ 60 : Nat) < 10 ^ 64 := by decide
    split <;> omega) ?_
  walk_at "rd"
  refine r_pickS (i := Str.ofString "-") (j := Str.ofString "") (fun Q q => q) (fun Q q => q) ?_
  walk_at "rd"
  refine ⟨_, rfl, ?_, ?_⟩
  · have : (if i < 0 then -i else i).natAbs = i.natAbs := by split <;> omega
    rw [this]
    have h2 : i.natAbs < 2 ^ 1000 := Nat.lt_of_lt_of_le hi (by decide)
    by_cases z : i.natAbs = 0
    · rw [z]; decide +kernel
    · exact Nat.lt_of_lt_of_le ((Nat.log2_lt z).mpr h2) (by decide)
  have ea : ((if i < 0 then -i else i) : Int) = (i.natAbs : Int) := by split <;> omega
  have hz := nS_len (i := (i.natAbs : Int)) (k := 60) (by decide) (by simpa using hi)
  rw [ea]
  refine ⟨_, _, rfl, rfl, ?_, ?_⟩
  · have h5 : (nS (i.natAbs : Int)).length ≤ 61 := hz
    refine sz_le ?_
    have h6 : (if i < 0 then Str.ofString "-" else Str.ofString "").length ≤ 1 := by split <;> decide
    show _ + (nS (i.natAbs : Int)).length ≤ _
    omega
  walk_at "rd"
  refine ⟨⟨_, rfl⟩, _, rfl, ?_⟩
  refine ⟨_, p, [], rfl, rfl, .inl (SqL.of h1), by decide, ?_⟩
  refine ⟨_, _, rfl, rfl, ?_, ?_⟩
  · refine sz_le ?_
    have h6 : (if i < 0 then Str.ofString "-" else Str.ofString "").length ≤ 1 := by split <;> decide
    have e1 : (Txt.join (Str.ofString "") []).length = 0 := by decide
    rw [e1]
    show ((if i < 0 then Str.ofString "-" else Str.ofString "") ++ nS (i.natAbs : Int)).length + 0 ≤ _
    rw [len_tl, tl_append, List.length_append, ← len_tl, ← len_tl]
    omega
  · have e1 : ((if i < 0 then Str.ofString "-" else Str.ofString "") ++ Str.ofString (toString (i.natAbs : Int))) ++ Txt.join (Str.ofString "") [] = nS i := by
      refine str_ext ?_
      rw [tl_append, show tl (Txt.join (Str.ofString "") []) = [] from rfl, List.append_nil, nS_abs i]
      rfl
    rw [e1]
    exact k H1 e1'
def bS (w p u : Int) : Str := Txt.join (Str.ofString " ") [nS w, nS p, nS u]
theorem bS_eq (w p u : Int) : bS w p u = nS w ++ Str.ofString " " ++ nS p ++ Str.ofString " " ++ nS u := by
  unfold bS
  rw [join_eq]
  refine str_ext ?_
  rw [tl_join]
  simp only [tl_append, List.map, joinL, List.append_assoc]
theorem bS_len {w p u : Int} (h1 : w.natAbs < 10 ^ 60) (h2 : p.natAbs < 10 ^ 60) (h3 : u.natAbs < 10 ^ 60) : (bS w p u).length ≤ 185 := by
  have a := nS_len (k := 60) (by decide) h1
  have b := nS_len (k := 60) (by decide) h2
  have c := nS_len (k := 60) (by decide) h3
  rw [bS_eq, len_tl]
  simp only [tl_append, List.length_append]
  simp only [← len_tl]
  have : (Str.ofString " ").length = 1 := rfl
  omega
def spBStr (K : PySem.W.Frag) : Sp := sp1 fun v H Q _ => ∃ a w p u, v = .ref a ∧ Bd K H a w p u ∧ w.natAbs < 10 ^ 60 ∧ p.natAbs < 10 ^ 60 ∧ u.natAbs < 10 ^ 60 ∧ ∀ H', Ex H H' → Q (.str (bS w p u)) H'
theorem ok_Bound_str {P : Program} {w : World} {K : PySem.W.Frag} {mg : Str → Option Value} {base : Heap} (T : Txt K mg) : ∃ fd, FnOk P w K mg base (L2.CX P w) 2 (He.ma K (He.ga K "Bound") "__str__") fd ["self"] (spBStr K) ∧ Binds K fd ["self"] [] := by
  obtain ⟨fd, F⟩ := T.d_Bound_str
  obtain ⟨fd_integer_text, F_integer_text, B_integer_text⟩ := ok_integer_text (P := P) (w := w) (base := base) T
  refine ⟨fd, F.ok sc_Bound_str sp1_len (fun cdv A outer s H vs Q E hr h => ?_), F.bindsN fun _ _ _ _ _ _ us hl => match us, hl with | [_], _ => rfl⟩
  have hr_integer_text : Room 1 _ := hr.mono (by decide)
  obtain ⟨v, rfl, a, w1, p, u, rfl, hb, h1, h2, h3, k⟩ := sp1_is h
  refine ⟨_, (pss_one (ps_ret (pe_join pe_str (pe_lc (own := [("each", 1)]) (g := gName 1) (tt := tYes)  rfl sc_Bound_str.nd (pi_tup (pe_tup (pa_cons (pe_fld (pv 0) rfl) (pa_cons (pe_fld (pv 0) rfl) (pa_cons (pe_fld (pv 0) rfl) pa_nil))))) (blkOk_by (own := [("each", 1)]) (N := ["self", "each"]) (sc := defScope s_Bound_str) (by decide +kernel)) (fun _ _ _ _ _ => (pg_name (i := 1) sc_Bound_str.nd rfl (Or.inl rfl))) (fun _ _ _ _ _ => pts_nil) (fun _ _ _ _ _ => (pe_call F_integer_text hr_integer_text (by rfl) T.g_integer_text T.k_integer_text B_integer_text .nil passL (pa_cons (pv 1) pa_nil))))))), ?_⟩
  walk_at "rd"
  refine ⟨⟨_, rfl⟩, ?_⟩
  walk_at "rd"
  refine r_fw T hb ?_
  walk_at "rd"
  refine r_fp T hb ?_
  walk_at "rd"
  refine r_fu T hb ?_
  walk_at "rd"
  refine r_newT (sz_le (by simp)) fun q H1 hq e1 hq1 => ?_
  refine ⟨q, rfl, ⟨_, SqT.of hq1⟩, ?_⟩
  refine r_lcM (n := 3) (k := 1) (walk_tup (xs := [.int w1, .int p, .int u])) (fun j => .str (nS ([w1, p, u].getD j 0))) (by decide) (fun H' e => e.sqt (SqT.of hq1)) (fun _ => rfl) ?_ ?_
  · rintro j y H0 H' hj e0 ⟨rfl, hy⟩
    refine ⟨Ex.refl _, fun H3 e3 R r => ?_⟩
    have : ∃ i, y = .int i ∧ i.natAbs < 10 ^ 60 ∧ [w1, p, u].getD j 0 = i := by
      match j, hj with
      | 0, _ => exact ⟨w1, (Option.some.inj hy).symm, h1, rfl⟩
      | 1, _ => exact ⟨p, (Option.some.inj hy).symm, h2, rfl⟩
      | 2, _ => exact ⟨u, (Option.some.inj hy).symm, h3, rfl⟩
    obtain ⟨i, rfl, hi, ei⟩ := this
    rw [ei] at r
    exact ⟨_, rfl, i, rfl, hi, fun H4 e4 => r H4 e4⟩
  · intro D H2 hD e2 hl
    refine ⟨_, D, [nS w1, nS p, nS u], rfl, rfl, .inl (SqL.of hl), ?_, k H2 (e1.trans e2)⟩
    have a := nS_len (k := 60) (by decide) h1
    have b := nS_len (k := 60) (by decide) h2
    have c := nS_len (k := 60) (by decide) h3
    have : (Str.ofString " ").length = 1 := rfl
    show ((nS w1).length + ((nS p).length + ((nS u).length + 0))) + 3 * (Str.ofString " ").length ≤ _
    omega
def spBRead (K : PySem.W.Frag) : Sp := sp1 fun v H Q _ => ∃ w p u, v = .str (bS w p u) ∧ w.natAbs < 10 ^ 60 ∧ p.natAbs < 10 ^ 60 ∧ u.natAbs < 10 ^ 60 ∧ 0 ≤ u ∧ ∀ r H', Ex H H' → Bd K H' r w p u → Q (.ref r) H'
theorem ok_Bound_read {P : Program} {w : World} {K : PySem.W.Frag} {mg : Str → Option Value} {base : Heap} (T : Txt K mg) : ∃ fd, FnOk P w K mg base (L2.CX P w) 6 (He5.wf K (He.ga K "Bound") "staticmethod" "read") fd ["text"] (spBRead K) ∧ Binds K fd ["text"] [] := by
  obtain ⟨fd, F⟩ := T.d_Bound_read
  obtain ⟨fd_Bound_init, F_Bound_init, B_Bound_init, kb_Bound_init_0⟩ := ok_Bound_init (P := P) (w := w) (base := base) T
  obtain ⟨fd_need_end, F_need_end, B_need_end⟩ := ok_need_end (P := P) (w := w) (base := base) T
  obtain ⟨fd_integer_at, F_integer_at, B_integer_at⟩ := ok_integer_at (P := P) (w := w) (base := base) T
  obtain ⟨fd_items_of, F_items_of, B_items_of⟩ := ok_items_of (P := P) (w := w) (base := base) T
  refine ⟨fd, F.ok sc_Bound_read sp1_len (fun cdv A outer s H vs Q E hr h => ?_), F.bindsN fun _ _ _ _ _ _ us hl => match us, hl with | [_], _ => rfl⟩
  have hr_Bound_init : Room 5 _ := hr.mono (by decide)
  have hr_need_end : Room 1 _ := hr.mono (by decide)
  have hr_integer_at : Room 3 _ := hr.mono (by decide)
  have hr_items_of : Room 1 _ := hr.mono (by decide)
  obtain ⟨v, rfl, w1, p, u, rfl, h1, h2, h3, hu, k⟩ := sp1_is h
  refine ⟨_, (pss_cons (ps_set (i := 1) sc_Bound_read.nd rfl (Or.inl rfl) (pe_call F_items_of hr_items_of (by rfl) T.g_items_of T.k_items_of B_items_of .nil passL (pa_cons (pv 0) pa_nil)))
      (pss_cons (ps_set (i := 2) sc_Bound_read.nd rfl (Or.inl rfl) (pe_call F_integer_at hr_integer_at (by rfl) T.g_integer_at T.k_integer_at B_integer_at .nil passL (pa_cons (pv 1) (pa_cons pe_int (pa_cons pe_non (pa_cons pe_non pa_nil))))))
      (pss_cons (ps_set (i := 3) sc_Bound_read.nd rfl (Or.inl rfl) (pe_call F_integer_at hr_integer_at (by rfl) T.g_integer_at T.k_integer_at B_integer_at .nil passL (pa_cons (pv 1) (pa_cons pe_int (pa_cons pe_non (pa_cons pe_non pa_nil))))))
      (pss_cons (ps_set (i := 4) sc_Bound_read.nd rfl (Or.inl rfl) (pe_call F_integer_at hr_integer_at (by rfl) T.g_integer_at T.k_integer_at B_integer_at .nil passL (pa_cons (pv 1) (pa_cons pe_int (pa_cons pe_int (pa_cons pe_non pa_nil))))))
      (pss_cons (ps_expr (pe_call F_need_end hr_need_end (by rfl) T.g_need_end T.k_need_end B_need_end .nil passL (pa_cons (pv 1) (pa_cons pe_int pa_nil))))
      (pss_one (ps_ret (pe_make T.mk_Bound F_Bound_init hr_Bound_init (by rfl) T.g_Bound B_Bound_init .nil passL (pa_cons (pv 2) (pa_cons (pv 3) (pa_cons (pv 4) pa_nil))))))))))), ?_⟩
  walk_at "rd"
  refine ⟨_, rfl, by simp, ?_, Nat.le_trans (bS_len h1 h2 h3) (by decide), fun q H1 e1 hq => ?_⟩
  · intro y hy
    simp only [List.mem_cons, List.mem_nil_iff, or_false] at hy
    rcases hy with rfl | rfl | rfl <;> exact nS_free (by decide) (by decide)
  walk_at "rd"
  refine ⟨q, [nS w1, nS p, nS u], 0, w1, none, none, rfl, SqL.of hq, rfl, rfl, h1, rfl, rfl, rfl, fun H2 e2 => ?_⟩
  walk_at "rd"
  refine ⟨q, [nS w1, nS p, nS u], 1, p, none, none, rfl, SqL.of (e2 _ _ hq), rfl, rfl, h2, rfl, rfl, rfl, fun H3 e3 => ?_⟩
  walk_at "rd"
  refine ⟨q, [nS w1, nS p, nS u], 2, u, some 0, none, rfl, SqL.of (e3 _ _ (e2 _ _ hq)), rfl, rfl, h3, rfl, rfl, by simp [inB, loB, upB, hu], fun H4 e4 => ?_⟩
  walk_at "rd"
  refine ⟨q, [.str (nS w1), .str (nS p), .str (nS u)], 3, rfl, SqL.of (e4 _ _ (e3 _ _ (e2 _ _ hq))), rfl, by simp, ?_⟩
  walk_at "rd"
  exact r_Bound hu fun r H5 _ e5 hb => k r H5 ((((e1.trans e2).trans e3).trans e4).trans e5) hb
end K03
namespace K03
open PySem PySem.Spec PyProof.Rows L2 GS TL
local macro_rules | `(tactic| walk_at "rd") => `(tactic| (repeat (first
  | with_reducible refine r_next ?_
  | with_reducible refine r_seq ?_
  | with_reducible refine r_ret ?_
  | with_reducible refine r_ifS ?_
  | with_reducible refine r_asg ?_
  | with_reducible refine r_drop ?_
  | with_reducible refine r_op ?_
  | with_reducible refine r_un ?_
  | with_reducible refine r_cbInt ?_
  | with_reducible refine r_cbAbs ?_
  | with_reducible refine r_cbLen ?_
  | with_reducible refine r_cb ?_
  | with_reducible refine r_call ?_
  | with_reducible refine r_make ?_
  | with_reducible refine r_cons ?_
  | with_reducible refine r_nil ?_
  | with_reducible refine r_test ?_
  | with_reducible refine r_B ?_
  | with_reducible refine r_and ?_
  | with_reducible refine r_or ?_
  | with_reducible refine r_not ?_
  | with_reducible refine r_andV ?_
  | with_reducible refine r_orV ?_
  | with_reducible refine r_notV ?_
  | with_reducible refine r_if ?_
  | with_reducible refine r_tup ?_
  | with_reducible refine r_lst ?_
  | with_reducible refine r_c ?_
  | with_reducible refine r_lc ?_
  | with_reducible refine r_chain ?_
  | with_reducible refine r_iT ?_
  | with_reducible refine r_iL ?_
  | with_reducible refine r_iR1 ?_
  | with_reducible refine r_asgG ?_
  | with_reducible refine r_gSub ?_
  | with_reducible refine r_intI ?_
  | with_reducible refine r_intB ?_
  | with_reducible refine r_absI ?_
  | with_reducible refine r_k ?_
  | with_reducible refine r_kV ?_
  | ((with_reducible show tVar _ _ _ _); refine r_var3 ?_ (by rfl))
  | with_reducible refine r_I0 ?_
  | with_reducible refine r_U ?_
  | with_reducible refine r_eqI ?_
  | with_reducible refine r_neI ?_
  | dsimp only)))
local macro_rules | `(tactic| walk_at "rx") => `(tactic| (repeat (first
  | with_reducible refine r_next ?_
  | with_reducible refine r_ret ?_
  | with_reducible refine r_ifS ?_
  | with_reducible refine r_asg ?_
  | with_reducible refine r_drop ?_
  | with_reducible refine r_op ?_
  | with_reducible refine r_un ?_
  | with_reducible refine r_cbInt ?_
  | with_reducible refine r_cbAbs ?_
  | with_reducible refine r_cbLen ?_
  | with_reducible refine r_cb ?_
  | with_reducible refine r_call ?_
  | with_reducible refine r_make ?_
  | with_reducible refine r_cons ?_
  | with_reducible refine r_nil ?_
  | with_reducible refine r_test ?_
  | with_reducible refine r_B ?_
  | with_reducible refine r_and ?_
  | with_reducible refine r_or ?_
  | with_reducible refine r_not ?_
  | with_reducible refine r_andV ?_
  | with_reducible refine r_orV ?_
  | with_reducible refine r_notV ?_
  | with_reducible refine r_if ?_
  | with_reducible refine r_tup ?_
  | with_reducible refine r_lst ?_
  | with_reducible refine r_c ?_
  | with_reducible refine r_lc ?_
  | with_reducible refine r_chain ?_
  | with_reducible refine r_iT ?_
  | with_reducible refine r_iL ?_
  | with_reducible refine r_iR1 ?_
  | with_reducible refine r_asgG ?_
  | with_reducible refine r_gSub ?_
  | with_reducible refine r_intI ?_
  | with_reducible refine r_intB ?_
  | with_reducible refine r_absI ?_
  | with_reducible refine r_k ?_
  | with_reducible refine r_kV ?_
  | ((with_reducible show tVar _ _ _ _); refine r_var3 ?_ (by rfl))
  | with_reducible refine r_I0 ?_
  | with_reducible refine r_U ?_
  | with_reducible refine r_eqI ?_
  | with_reducible refine r_neI ?_
  | dsimp only)))
/-! ### the bag -/
def spBag (K : PySem.W.Frag) : Sp := sp1 fun v H Q _ => ∃ (L : Addr) (xs : List Int), v = .ref L ∧ SqL K H L (xs.map V.int) ∧ (∀ x ∈ xs, Z 2000000 x) ∧ ∀ b H', Ex H H' → H b = none → Bag H' b 0 → Q (.ref b) H'
theorem cut_map (xs : List Int) (n : Nat) : cutV (xs.map V.int) none (some (n : Int)) = (xs.take n).map V.int := by
  unfold cutV
  rw [HT.sIx_none, HT.sIx_nat, List.drop_zero, List.length_map, Nat.sub_zero, List.map_take]
  by_cases c : n ≤ xs.length
  · rw [Nat.min_eq_left c]
  · rw [Nat.min_eq_right (by omega), List.take_of_length_le (by simp), List.take_of_length_le (by simp; omega)]
theorem range_map (xs : List Int) : ((List.range xs.length).map fun j => V.int (xs.getD j 0)) = xs.map V.int := by
  refine List.ext_getElem (by simp) fun i h1 h2 => ?_
  simp at h1
  simp [h1]
theorem ok__law_bag {P : Program} {w : World} {K : PySem.W.Frag} {mg : Str → Option Value} {base : Heap} (T : Txt K mg) : ∃ fd, FnOk P w K mg base (L2.CX P w) 1 (He.ga K "_law_bag") fd ["script"] (spBag K) ∧ Binds K fd ["script"] [] := by
  obtain ⟨fd, F⟩ := T.d__law_bag
  refine ⟨fd, F.ok sc__law_bag sp1_len (fun cdv A outer s H vs Q E hr h => ?_), F.bindsN fun _ _ _ _ _ _ us hl => match us, hl with | [_], _ => rfl⟩
  obtain ⟨v, rfl, L, xs, rfl, hL, hz, k⟩ := sp1_is h
  refine ⟨_, (pss_one (ps_ret (pe_lst (pa_cons (pe_lc (own := [("cell", 1)]) (g := gName 1) (tt := tYes)  rfl sc__law_bag.nd (pi_list (pe_slice sl_list (pv 0) po_none (po_some pe_int))) (blkOk_by (own := [("cell", 1)]) (N := ["script", "cell"]) (sc := defScope s__law_bag) (by decide +kernel)) (fun _ _ _ _ _ => (pg_name (i := 1) sc__law_bag.nd rfl (Or.inl rfl))) (fun _ _ _ _ _ => pts_nil) (fun _ _ _ _ _ => (pe_callTy call_int1 (by rfl) T.b_int (by decide +kernel) (pa_cons (pv 1) pa_nil)))) (pa_cons pe_int (pa_cons pe_int pa_nil)))))), ?_⟩
  walk_at "rd"
  refine ⟨V.ref L, rfl, 60, rfl, L, _, rfl, hL, fun p hp => ⟨p, rfl, ⟨_, SqL.of upd_same⟩, ?_⟩⟩
  rw [show (60 : Int) = ((60 : Nat) : Int) from rfl, cut_map]
  have hn : (xs.take 60).length ≤ 60 := by rw [List.length_take]; omega
  have e0 : Ex H (upd H p (.lst ((xs.take 60).map V.int))) := Ex.new hp
  have h0 : (upd H p (.lst ((xs.take 60).map V.int))) p = some (.lst ((xs.take 60).map V.int)) := upd_same
  generalize upd H p (.lst ((xs.take 60).map V.int)) = H0 at e0 h0 ⊢
  generalize hy : xs.take 60 = ys at hn h0
  refine r_lcM (n := ys.length) (k := 1) (by simpa using walk_list (xs := ys.map V.int)) (fun j => .int (ys.getD j 0)) (by omega) (fun H' e => SqL.of (e _ _ h0)) (fun _ => rfl) ?_ ?_
  · rintro j y H1 H' hj e1 ⟨rfl, hy⟩
    refine ⟨Ex.refl _, fun H3 e3 R r => ?_⟩
    have : y = .int (ys.getD j 0) := by
      have := hy
      rw [List.getElem?_map] at this
      rw [List.getD_eq_getElem?_getD]
      cases q : ys[j]? with
      | none => rw [q] at this; cases this
      | some a => rw [q] at this; exact (Option.some.inj this).symm
    subst this
    walk_at "rd"
    exact r H3 (Ex.refl _)
  · intro q H2 hq e2 hl
    rw [range_map] at hl
    walk_at "rd"
    refine r_newL (sz_le (by simp)) fun b H3 hb e3 h3 => ?_
    have hbH : H b = none := (e0.trans e2).free hb
    refine k b H3 ((e0.trans e2).trans e3) hbH ⟨q, ys, 0, 0, h3, e3 _ _ hl, ?_, Int.le_refl _, Int.le_refl _, Int.le_refl _, hn, fun x hx => hz x ?_⟩
    · exact ne_of_none hl hb
    · rw [← hy] at hx
      exact List.mem_of_mem_take hx
theorem Z.of {n : Nat} {i j : Int} (h0 : 0 ≤ i) (h : i ≤ j) (hj : Z n j) : Z n i := by
  unfold Z at *
  omega
theorem Z.small {i : Int} (h : i.natAbs < 10000000000) : Z 34 i := Nat.lt_trans h (by decide)
theorem pow1018 : (10 : Int) ^ (18 : Int).toNat = 1000000000000000000 := rfl
theorem p10 (k : Nat) (h : k ≤ 100000) : CPowW 10 (k : Int) := cpow_of (n := 4) (k := k) (by decide) (by omega)
theorem ok__law_draw {P : Program} {w : World} {K : PySem.W.Frag} {mg : Str → Option Value} {base : Heap} (T : Txt K mg) : ∃ fd, FnOk P w K mg base (L2.CX P w) 1 (He.ga K "_law_draw") fd ["bag", "many"] (spDraw) ∧ Binds K fd ["bag", "many"] [] := by
  obtain ⟨fd, F⟩ := T.d__law_draw
  refine ⟨fd, F.ok sc__law_draw sp2_len (fun cdv A outer s H vs Q E hr h => ?_), F.bindsN fun _ _ _ _ _ _ us hl => match us, hl with | [_, _], _ => rfl⟩
  obtain ⟨b0, m0, rfl, b, m, n, rfl, rfl, m1, mz, hn, hbag, k⟩ := sp2_is h
  refine ⟨_, (pss_cons (ps_if (pt_cmpR op_gt (pe_ix ix_list (pv 0) pe_int (fun _ _ => rfl)) pe_int (nomark _)) (pss_cons (ps_set (i := 2) sc__law_draw.nd rfl (Or.inl rfl) (pe_ix ix_list (pv 0) pe_int (fun _ _ => rfl)))
      (pss_cons (ps_asg (pe_op op_fdivW (pe_callTy call_int1 (by rfl) T.b_int (by decide +kernel) (pa_cons (pv 2) pa_nil)) (pv 1)) (pg_sub (pv 0) pe_int set_list))
      (pss_one (ps_ret (pe_op op_mod (pe_callTy call_int1 (by rfl) T.b_int (by decide +kernel) (pa_cons (pv 2) pa_nil)) (pv 1)))))) pss_nil)
      (pss_cons (ps_set (i := 3) sc__law_draw.nd rfl (Or.inl rfl) (pe_ix ix_list (pv 0) pe_int (fun _ _ => rfl)))
      (pss_cons (ps_asg (pe_op op_add (pv 3) pe_int) (pg_sub (pv 0) pe_int set_list))
      (pss_cons (ps_set (i := 4) sc__law_draw.nd rfl (Or.inl rfl) (pe_op op_add (pe_op op_mulB pe_int (pv 3)) pe_int))
      (pss_cons (ps_if (pt_cmpR (op_neD hr.units) (pe_ix ix_list (pv 0) pe_int (fun _ _ => rfl)) (pe_lst pa_nil) (nomark _)) (pss_one (ps_set (i := 4) sc__law_draw.nd rfl (Or.inl rfl) (pe_ix ix_list (pe_ix ix_list (pv 0) pe_int (fun _ _ => rfl)) (pe_op op_mod (pe_callTy call_int1 (by rfl) T.b_int (by decide +kernel) (pa_cons (pv 3) pa_nil)) (pe_callB call_len_seq (by rfl) T.b_len PySem.boot_len (pa_cons (pe_ix ix_list (pv 0) pe_int (fun _ _ => rfl)) pa_nil))) (fun _ _ => rfl)))) pss_nil)
      (pss_cons (ps_if (PW.pt (pw_and (pt_cmpR op_lt (pv 3) (pe_callB call_len_seq (by rfl) T.b_len PySem.boot_len (pa_cons (pe_ix ix_list (pv 0) pe_int (fun _ _ => rfl)) pa_nil)) (nomark _)) (pw_and1 (pt_cmpR op_ge (pe_callB call_abs (by rfl) T.b_abs (by decide +kernel) (pa_cons (pv 4) pa_nil)) (pe_op op_powW pe_int pe_int) (nomark _))))) (pss_cons (ps_set (i := 2) sc__law_draw.nd rfl (Or.inl rfl) (pe_op op_add (pe_op op_mulB pe_int (pe_op op_sub (pe_callB call_abs (by rfl) T.b_abs (by decide +kernel) (pa_cons (pv 4) pa_nil)) (pe_op op_powW pe_int pe_int))) (pe_callTy call_int1 (by rfl) T.b_int (by decide +kernel) (pa_cons (pe_cmpR op_lt (pv 4) pe_int (nomark _)) pa_nil))))
      (pss_cons (ps_asg (pe_op op_fdivW (pe_callTy call_int1 (by rfl) T.b_int (by decide +kernel) (pa_cons (pv 2) pa_nil)) (pv 1)) (pg_sub (pv 0) pe_int set_list))
      (pss_one (ps_ret (pe_op op_mod (pe_callTy call_int1 (by rfl) T.b_int (by decide +kernel) (pa_cons (pv 2) pa_nil)) (pv 1)))))) pss_nil)
      (pss_cons (ps_set (i := 5) sc__law_draw.nd rfl (Or.inl rfl) (pe_op op_mod (pe_callTy call_int1 (by rfl) T.b_int (by decide +kernel) (pa_cons (pe_op op_powW (pe_op op_add (pe_op op_add (pe_op op_mod (pe_callTy call_int1 (by rfl) T.b_int (by decide +kernel) (pa_cons (pv 4) pa_nil)) pe_int) (pe_op op_mulB pe_int (pv 3))) pe_int) pe_int) pa_nil)) pe_int))
      (pss_cons (ps_set (i := 5) sc__law_draw.nd rfl (Or.inl rfl) (pe_op op_mod (pe_callTy call_int1 (by rfl) T.b_int (by decide +kernel) (pa_cons (pe_op op_powW (pe_op op_add (pe_op op_add (pe_op op_mulB (pv 5) (pe_op op_add (pe_op op_mulB pe_int (pv 3)) pe_int)) (pe_op op_mulB (pe_op op_mulB pe_int (pv 3)) (pv 3))) pe_int) pe_int) pa_nil)) pe_int))
      (pss_one (ps_ret (pe_op op_mod (pe_callTy call_int1 (by rfl) T.b_int (by decide +kernel) (pa_cons (pe_op op_fdivW (pv 5) pe_int) pa_nil)) (pv 1)))))))))))), ?_⟩
  obtain ⟨L, xs, a, l, hb, hL, hne, ha, han, hl, hx, hz⟩ := hbag.is
  have cd : ∀ i : Int, CDivW i m := fun i => wide_div m1 mz (by decide) (by decide)
  have fin : ∀ (H' : Hp) (x y r : Int), Bu b H H' → H' b = some (.lst [.ref L, .int y, .int x]) → 0 ≤ y → y ≤ n + 1 → 0 ≤ x → 0 ≤ r → r < m → Q (.int r) H' := fun H' x y r hbu hat y0 y1 x0 r0 r1 =>
    k r H' r0 r1 hbu ⟨L, xs, y, x, hat, hbu _ _ hne hL, hne, y0, y1, x0, hx, hz⟩
  have mn : ∀ i : Int, 0 ≤ i % m := fun i => Int.emod_nonneg _ (by omega)
  have ml : ∀ i : Int, i % m < m := fun i => Int.emod_lt_of_pos _ m1
  have dn : ∀ i : Int, 0 ≤ i → 0 ≤ i / m := fun i hi => Int.ediv_nonneg hi (by omega)
  walk_at "rd"
  refine r_ixL hb (v := .int l) rfl ?_
  walk_at "rd"
  by_cases c : 0 < l
  · refine ite_t (decide_eq_true c) ?_
    walk_at "rd"
    refine r_ixL hb (v := .int l) rfl ?_
    walk_at "rd"
    refine r_I (cd l) ?_
    walk_at "rd"
    refine r_setL hb (n := 2) rfl ?_
    walk_at "rd"
    refine r_I m1 ?_
    exact fin _ (l / m) a _ Bu.upd upd_same ha (by omega) (dn l hl) (mn l) (ml l)
  · refine ite_f (decide_eq_false c) ?_
    walk_at "rd"
    refine r_ixL hb (v := .int a) rfl ?_
    walk_at "rd"
    refine r_setL hb (n := 1) rfl ?_
    have za : Z 34 a := Z.small (by omega)
    have hL1 : ∀ o, (upd H b o) L = some (.lst (xs.map V.int)) := fun o => by rw [upd_ne hne]; exact hL
    have hB1 : Bu b H (upd H b (.lst ([V.ref L, .int a, .int l].set 1 (.int (a + 1))))) := Bu.upd
    have hb1 : (upd H b (.lst ([V.ref L, .int a, .int l].set 1 (.int (a + 1))))) b = some (.lst [.ref L, .int (a + 1), .int l]) := upd_same
    have hL1 := hB1 _ _ hne hL
    generalize upd H b _ = H1 at hB1 hb1 hL1 ⊢
    walk_at "rd"
    refine r_I (mulB_of (a := 34) (b := 34) (by decide) za (by decide) (by decide) (by decide)) ?_
    walk_at "rx"
    have z0 : Z 60 (58013 * a + 2903) := by
      unfold Z
      have : (2 : Nat) ^ 60 = 1152921504606846976 := rfl
      omega
    refine r_seqJ (fun σ' H' => ∃ cell, Z 2000000 cell ∧ Ex H1 H' ∧ σ' = [some (.ref b), some (.int m), none, some (.int a), some (.int cell), none]) (fun N hN => ?_) ?_
    · walk_at "rd"
      refine r_ixL hb1 (v := .ref L) rfl ?_
      walk_at "rd"
      refine r_newL (sz_le (by simp)) fun q H2 hq e2 h2 => ?_
      refine r_neInts (xs := xs) (ys := []) (e2 _ _ hL1) h2 ?_
      walk_at "rd"
      by_cases cx : xs = []
      · refine ite_f (by simp [cx]) ?_
        exact hN _ _ ⟨_, z0.mono (by decide), e2, rfl⟩
      · refine ite_t (by simp [cx]) ?_
        walk_at "rd"
        refine r_ixL (e2 _ _ hb1) (v := .ref L) rfl ?_
        walk_at "rd"
        refine r_ixL (e2 _ _ hb1) (v := .ref L) rfl ?_
        walk_at "rd"
        refine r_lenL (e2 _ _ hL1) ?_
        have hpos : 0 < xs.length := List.length_pos_iff.mpr cx
        rw [List.length_map]
        refine r_I (by omega) ?_
        obtain ⟨j, hj⟩ : ∃ j : Nat, a % (xs.length : Int) = (j : Int) := ⟨(a % (xs.length : Int)).toNat, by have := Int.emod_nonneg a (show (xs.length : Int) ≠ 0 by omega); omega⟩
        have hjl : j < xs.length := by have := Int.emod_lt_of_pos a (show (0 : Int) < xs.length by omega); omega
        rw [hj]
        refine r_ixL (e2 _ _ hL1) (v := .int xs[j]) (atI_nat (by rw [List.getElem?_map]; simp [hjl])) ?_
        walk_at "rd"
        exact hN _ _ ⟨xs[j], hz _ (List.getElem_mem hjl), e2, rfl⟩
    · rintro σ' H2 ⟨cell, zc, e2, rfl⟩
      have hb2 := e2 _ _ hb1
      have hL2 := e2 _ _ hL1
      have hB2 : Bu b H H2 := hB1.trans (Bu.of e2)
      refine r_seqJ (fun σ' H' => H' = H2 ∧ σ' = [some (.ref b), some (.int m), none, some (.int a), some (.int cell), none]) (fun N hN => ?_) ?_
      · walk_at "rd"
        refine r_ixL hb2 (v := .ref L) rfl ?_
        walk_at "rd"
        refine r_lenL hL2 ?_
        walk_at "rd"
        refine ite_b (fun _ => ?_) fun _ => ?_
        · walk_at "rd"
          refine r_pow (p10 18 (by decide)) pow1018 ?_
          walk_at "rd"
          refine ite_b (fun c2 => ?_) fun _ => ?_
          · have c3 : (1000000000000000000 : Int) ≤ (if cell < 0 then -cell else cell) := of_decide_eq_true c2
            have zd : Z 2000001 ((if cell < 0 then -cell else cell) - 1000000000000000000) := by
              refine Z.sub ?_ (Z.mono (n := 64) (by unfold Z; decide) (by decide))
              unfold Z at *
              split <;> omega
            walk_at "rd"
            refine r_pow (p10 18 (by decide)) pow1018 ?_
            walk_at "rd"
            refine r_I (mulB_of (i := 2) (a := 2) (by decide) zd (by decide) (by decide) (by decide)) ?_
            walk_at "rd"
            have hl2 : 0 ≤ 2 * ((if cell < 0 then -cell else cell) - 1000000000000000000) + (if decide (cell < 0) = true then 1 else 0) := by split <;> omega
            generalize 2 * ((if cell < 0 then -cell else cell) - 1000000000000000000) + (if decide (cell < 0) = true then 1 else 0) = t at hl2 ⊢
            refine r_I (cd t) ?_
            walk_at "rd"
            refine r_setL hb2 (n := 2) rfl ?_
            walk_at "rd"
            refine r_I m1 ?_
            exact fin _ (t / m) (a + 1) _ (hB2.trans Bu.upd) upd_same (by omega) (by omega) (dn t hl2) (mn t) (ml t)
          · exact hN _ _ ⟨rfl, rfl⟩
        · exact hN _ _ ⟨rfl, rfl⟩
      · rintro σ' H3 ⟨rfl, rfl⟩
        have pm : ∀ (i M : Int), 0 < M → M < 2147483648 → Z 34 (i % M) := fun i M h1 h2 => Z.small (by have := Int.emod_nonneg i (show M ≠ 0 by omega); have := Int.emod_lt_of_pos i h1; omega)
        walk_at "rd"
        refine r_I (by decide) ?_
        walk_at "rd"
        refine r_I (mulB_of (a := 34) (b := 34) (by decide) za (by decide) (by decide) (by decide)) ?_
        walk_at "rd"
        have z1 : Z 70 (cell % 2147483543 + 74093 * a + 2903) := by
          have := pm cell 2147483543 (by decide) (by decide)
          unfold Z at *
          have e1 : (2 : Nat) ^ 70 = 1180591620717411303424 := rfl
          have e2 : (2 : Nat) ^ 34 = 17179869184 := rfl
          omega
        refine r_I (cpow_of (n := 70) (k := 5) z1 (by decide)) ?_
        walk_at "rd"
        refine r_I (by decide) ?_
        walk_at "rd"
        refine r_I (mulB_of (a := 34) (b := 34) (by decide) za (by decide) (by decide) (by decide)) ?_
        walk_at "rd"
        generalize hx1 : (cell % 2147483543 + 74093 * a + 2903) ^ ((5 : Nat) : Int).toNat % 2147483497 = x1
        have zx1 : Z 34 x1 := by rw [← hx1]; exact pm _ _ (by decide) (by decide)
        have z2 : Z 40 (2 * a + 3169) := by
          unfold Z
          have e1 : (2 : Nat) ^ 40 = 1099511627776 := rfl
          omega
        refine r_I (mulB_of zx1 z2 (by decide) (by decide) (by decide)) ?_
        walk_at "rd"
        refine r_I (mulB_of (a := 34) (b := 34) (by decide) za (by decide) (by decide) (by decide)) ?_
        walk_at "rd"
        have z3 : Z 60 (58013 * a) := by
          unfold Z
          have : (2 : Nat) ^ 60 = 1152921504606846976 := rfl
          omega
        refine r_I (mulB_of z3 za (by decide) (by decide) (by decide)) ?_
        walk_at "rd"
        have z4 : Z 120 (x1 * (2 * a + 3169) + 58013 * a * a + 74093) := by
          refine (((zx1.mul z2).mono (m := 100) (by decide)).add ((z3.mul za).mono (m := 100) (by decide))).mono (m := 110) (by decide) |>.add (Z.mono (n := 34) (by unfold Z; decide) (by decide)) |>.mono (by decide)
        refine r_I (cpow_of (n := 120) (k := 3) z4 (by decide)) ?_
        walk_at "rd"
        refine r_I (by decide) ?_
        walk_at "rd"
        refine r_I (wide_div (b := 10) (by decide) (by decide) (by decide) (by decide)) ?_
        walk_at "rd"
        refine r_I m1 ?_
        exact fin _ l (a + 1) _ hB2 hb2 (by omega) (by omega) hl (mn _) (ml _)

end K03
namespace K03
open PySem PySem.Spec PyProof.Rows L2 GS TL
local macro_rules | `(tactic| walk_at "rd") => `(tactic| (repeat (first
  | with_reducible refine r_next ?_
  | with_reducible refine r_seq ?_
  | with_reducible refine r_ret ?_
  | with_reducible refine r_ifS ?_
  | with_reducible refine r_asg ?_
  | with_reducible refine r_drop ?_
  | with_reducible refine r_op ?_
  | with_reducible refine r_un ?_
  | with_reducible refine r_cbInt ?_
  | with_reducible refine r_cbAbs ?_
  | with_reducible refine r_cbLen ?_
  | with_reducible refine r_cb ?_
  | with_reducible refine r_call ?_
  | with_reducible refine r_make ?_
  | with_reducible refine r_cons ?_
  | with_reducible refine r_nil ?_
  | with_reducible refine r_test ?_
  | with_reducible refine r_B ?_
  | with_reducible refine r_and ?_
  | with_reducible refine r_or ?_
  | with_reducible refine r_not ?_
  | with_reducible refine r_andV ?_
  | with_reducible refine r_orV ?_
  | with_reducible refine r_notV ?_
  | with_reducible refine r_if ?_
  | with_reducible refine r_tup ?_
  | with_reducible refine r_lst ?_
  | with_reducible refine r_c ?_
  | with_reducible refine r_lc ?_
  | with_reducible refine r_chain ?_
  | with_reducible refine r_iT ?_
  | with_reducible refine r_iL ?_
  | with_reducible refine r_iR1 ?_
  | with_reducible refine r_asgG ?_
  | with_reducible refine r_gSub ?_
  | with_reducible refine r_intI ?_
  | with_reducible refine r_intB ?_
  | with_reducible refine r_absI ?_
  | with_reducible refine r_k ?_
  | with_reducible refine r_kV ?_
  | ((with_reducible show tVar _ _ _ _); refine r_var3 ?_ (by rfl))
  | with_reducible refine r_I0 ?_
  | with_reducible refine r_U ?_
  | with_reducible refine r_eqI ?_
  | with_reducible refine r_neI ?_
  | dsimp only)))
local macro_rules | `(tactic| walk_at "rx") => `(tactic| (repeat (first
  | with_reducible refine r_next ?_
  | with_reducible refine r_ret ?_
  | with_reducible refine r_ifS ?_
  | with_reducible refine r_asg ?_
  | with_reducible refine r_drop ?_
  | with_reducible refine r_op ?_
  | with_reducible refine r_un ?_
  | with_reducible refine r_cbInt ?_
  | with_reducible refine r_cbAbs ?_
  | with_reducible refine r_cbLen ?_
  | with_reducible refine r_cb ?_
  | with_reducible refine r_call ?_
  | with_reducible refine r_make ?_
  | with_reducible refine r_cons ?_
  | with_reducible refine r_nil ?_
  | with_reducible refine r_test ?_
  | with_reducible refine r_B ?_
  | with_reducible refine r_and ?_
  | with_reducible refine r_or ?_
  | with_reducible refine r_not ?_
  | with_reducible refine r_andV ?_
  | with_reducible refine r_orV ?_
  | with_reducible refine r_notV ?_
  | with_reducible refine r_if ?_
  | with_reducible refine r_tup ?_
  | with_reducible refine r_lst ?_
  | with_reducible refine r_c ?_
  | with_reducible refine r_lc ?_
  | with_reducible refine r_chain ?_
  | with_reducible refine r_iT ?_
  | with_reducible refine r_iL ?_
  | with_reducible refine r_iR1 ?_
  | with_reducible refine r_asgG ?_
  | with_reducible refine r_gSub ?_
  | with_reducible refine r_intI ?_
  | with_reducible refine r_intB ?_
  | with_reducible refine r_absI ?_
  | with_reducible refine r_k ?_
  | with_reducible refine r_kV ?_
  | ((with_reducible show tVar _ _ _ _); refine r_var3 ?_ (by rfl))
  | with_reducible refine r_I0 ?_
  | with_reducible refine r_U ?_
  | with_reducible refine r_eqI ?_
  | with_reducible refine r_neI ?_
  | dsimp only)))
/-! ### what is drawn -/
def spPick : Sp := sp2 fun b l H Q _ => ∃ (p : Addr) (n : Int) (L : Addr) (xs : List V), b = .ref p ∧ l = .ref L ∧ H L = some (.lst xs) ∧ L ≠ p ∧ xs ≠ [] ∧ xs.length ≤ 1000 ∧ n ≤ 100000 ∧ Bag H p n ∧ ∀ v H', v ∈ xs → Bu p H H' → Bag H' p (n + 1) → Q v H'
theorem ok__law_pick {P : Program} {w : World} {K : PySem.W.Frag} {mg : Str → Option Value} {base : Heap} (T : Txt K mg) : ∃ fd, FnOk P w K mg base (L2.CX P w) 2 (He.ga K "_law_pick") fd ["bag", "some"] (spPick) ∧ Binds K fd ["bag", "some"] [] := by
  obtain ⟨fd, F⟩ := T.d__law_pick
  obtain ⟨fd__law_draw, F__law_draw, B__law_draw⟩ := ok__law_draw (P := P) (w := w) (base := base) T
  refine ⟨fd, F.ok sc__law_pick sp2_len (fun cdv A outer s H vs Q E hr h => ?_), F.bindsN fun _ _ _ _ _ _ us hl => match us, hl with | [_, _], _ => rfl⟩
  have hr__law_draw : Room 1 _ := hr.mono (by decide)
  obtain ⟨b0, l0, rfl, p, n, L, xs, rfl, rfl, hL, hne, hx, hl, hn, hb, k⟩ := sp2_is h
  refine ⟨_, (pss_one (ps_ret (pe_ix ix_list (pv 1) (pe_call F__law_draw hr__law_draw (by rfl) T.g__law_draw T.k__law_draw B__law_draw .nil passL (pa_cons (pv 0) (pa_cons (pe_callB call_len_seq (by rfl) T.b_len PySem.boot_len (pa_cons (pv 1) pa_nil)) pa_nil))) (fun _ _ => rfl)))), ?_⟩
  walk_at "rd"
  refine r_lenL hL ?_
  walk_at "rd"
  have h0 : 0 < xs.length := List.length_pos_iff.mpr hx
  refine r_Draw hb hn (by omega) (Z.mono (n := 34) (Z.small (by omega)) (by decide)) fun r H' r0 r1 bu hb' => ?_
  walk_at "rd"
  have hj : r.toNat < xs.length := by omega
  have er : r = (r.toNat : Int) := by omega
  rw [er]
  refine r_ixL (bu _ _ hne hL) (v := xs[r.toNat]) (atI_nat (by simp [hj])) ?_
  exact k _ H' (List.getElem_mem hj) bu hb'
def spGreat : Sp := sp1 fun b H Q _ => ∃ (p : Addr) (n : Int), b = .ref p ∧ n ≤ 90000 ∧ Bag H p n ∧ ∀ r H', 0 ≤ r → r < 100000000000000000000 → Bu p H H' → Bag H' p (n + 3) → Q (.int r) H'
theorem p107 : (10 : Int) ^ (7 : Int).toNat = 10000000 := rfl
theorem p106 : (10 : Int) ^ (6 : Int).toNat = 1000000 := rfl
theorem p105 : (10 : Int) ^ (5 : Int).toNat = 100000 := rfl
theorem ok__law_great {P : Program} {w : World} {K : PySem.W.Frag} {mg : Str → Option Value} {base : Heap} (T : Txt K mg) : ∃ fd, FnOk P w K mg base (L2.CX P w) 2 (He.ga K "_law_great") fd ["bag"] (spGreat) ∧ Binds K fd ["bag"] [] := by
  obtain ⟨fd, F⟩ := T.d__law_great
  obtain ⟨fd__law_draw, F__law_draw, B__law_draw⟩ := ok__law_draw (P := P) (w := w) (base := base) T
  refine ⟨fd, F.ok sc__law_great sp1_len (fun cdv A outer s H vs Q E hr h => ?_), F.bindsN fun _ _ _ _ _ _ us hl => match us, hl with | [_], _ => rfl⟩
  have hr__law_draw : Room 1 _ := hr.mono (by decide)
  obtain ⟨b0, rfl, p, n, rfl, hn, hb, k⟩ := sp1_is h
  refine ⟨_, (pss_one (ps_ret (pe_op op_add (pe_op op_mulW (pe_op op_add (pe_op op_mulW (pe_call F__law_draw hr__law_draw (by rfl) T.g__law_draw T.k__law_draw B__law_draw .nil passL (pa_cons (pv 0) (pa_cons (pe_op op_powW pe_int pe_int) pa_nil))) (pe_op op_powW pe_int pe_int)) (pe_call F__law_draw hr__law_draw (by rfl) T.g__law_draw T.k__law_draw B__law_draw .nil passL (pa_cons (pv 0) (pa_cons (pe_op op_powW pe_int pe_int) pa_nil)))) (pe_op op_powW pe_int pe_int)) (pe_call F__law_draw hr__law_draw (by rfl) T.g__law_draw T.k__law_draw B__law_draw .nil passL (pa_cons (pv 0) (pa_cons (pe_op op_powW pe_int pe_int) pa_nil)))))), ?_⟩
  walk_at "rd"
  refine r_pow (p10 7 (by decide)) p107 ?_
  walk_at "rd"
  refine r_Draw hb (by omega) (by decide) (Z.mono (n := 34) (Z.small (by decide)) (by decide)) fun r1 H1 a1 b1 u1 hb1 => ?_
  walk_at "rd"
  refine r_pow (p10 7 (by decide)) p107 ?_
  refine r_I (mulOk (Z.small (i := r1) (by omega)) (Z.small (i := 10000000) (by decide)) (by decide) (by decide) (by decide)) ?_
  walk_at "rd"
  refine r_pow (p10 7 (by decide)) p107 ?_
  walk_at "rd"
  refine r_Draw hb1 (by omega) (by decide) (Z.mono (n := 34) (Z.small (by decide)) (by decide)) fun r2 H2 a2 b2 u2 hb2 => ?_
  walk_at "rd"
  refine r_pow (p10 6 (by decide)) p106 ?_
  have z1 : Z 100 (r1 * 10000000 + r2) := by
    unfold Z
    have : (2 : Nat) ^ 100 = 1267650600228229401496703205376 := rfl
    omega
  refine r_I (mulOk z1 (Z.small (i := 1000000) (by decide)) (by decide) (by decide) (by decide)) ?_
  walk_at "rd"
  refine r_pow (p10 6 (by decide)) p106 ?_
  walk_at "rd"
  refine r_Draw hb2 (by omega) (by decide) (Z.mono (n := 34) (Z.small (by decide)) (by decide)) fun r3 H3 a3 b3 u3 hb3 => ?_
  walk_at "rd"
  refine k _ H3 (by omega) (by omega) ((u1.trans u2).trans u3) ?_
  rw [show n + 3 = n + 1 + 1 + 1 by omega]
  exact hb3
def spSigned : Sp := sp2 fun b v H Q _ => ∃ (p : Addr) (n i : Int), b = .ref p ∧ v = .int i ∧ Z 400 i ∧ n ≤ 90000 ∧ Bag H p n ∧ ∀ r H', r = i ∨ r = -i → Bu p H H' → Bag H' p (n + 1) → Q (.int r) H'
theorem ok__law_signed {P : Program} {w : World} {K : PySem.W.Frag} {mg : Str → Option Value} {base : Heap} (T : Txt K mg) : ∃ fd, FnOk P w K mg base (L2.CX P w) 2 (He.ga K "_law_signed") fd ["bag", "number"] (spSigned) ∧ Binds K fd ["bag", "number"] [] := by
  obtain ⟨fd, F⟩ := T.d__law_signed
  obtain ⟨fd__law_draw, F__law_draw, B__law_draw⟩ := ok__law_draw (P := P) (w := w) (base := base) T
  refine ⟨fd, F.ok sc__law_signed sp2_len (fun cdv A outer s H vs Q E hr h => ?_), F.bindsN fun _ _ _ _ _ _ us hl => match us, hl with | [_, _], _ => rfl⟩
  have hr__law_draw : Room 1 _ := hr.mono (by decide)
  obtain ⟨b0, v0, rfl, p, n, i, rfl, rfl, hi, hn, hb, k⟩ := sp2_is h
  refine ⟨_, (pss_one (ps_ret (pe_op op_sub (pv 1) (pe_op op_mulW (pe_op op_mulW pe_int (pv 1)) (pe_call F__law_draw hr__law_draw (by rfl) T.g__law_draw T.k__law_draw B__law_draw .nil passL (pa_cons (pv 0) (pa_cons pe_int pa_nil))))))), ?_⟩
  walk_at "rd"
  refine r_I (mulOk (Z.small (i := 2) (by decide)) hi (by decide) (by decide) (by decide)) ?_
  walk_at "rd"
  refine r_Draw hb (by omega) (by decide) (Z.mono (n := 34) (Z.small (by decide)) (by decide)) fun r H' r0 r1 bu hb' => ?_
  walk_at "rd"
  refine r_I (mulOk ((Z.small (i := 2) (by decide)).mul hi) (Z.small (i := r) (by omega)) (by decide) (by decide) (by decide)) ?_
  walk_at "rd"
  refine k _ H' ?_ bu hb'
  rcases (show r = 0 ∨ r = 1 by omega) with rfl | rfl
  · left; omega
  · right; omega
/-! ### roots of squares -/
def isRoot (n r : Int) : Prop := 0 ≤ r ∧ r * r ≤ n ∧ n < (r + 1) * (r + 1)
def spRoot : Sp := sp1 fun v H Q _ => ∃ n, v = .int n ∧ 0 ≤ n ∧ Z 2000 n ∧ ∀ r, isRoot n r → Q (.int r) H
theorem newton {n s : Int} (h0 : 0 ≤ n) (h1 : 1 ≤ s) (hg : n < s * s) : 1 ≤ (s + n / s) / 2 ∨ n < 1 := by
  by_cases c : n < 1
  · exact .inr c
  · left
    have h2 : 2 ≤ s := by
      rcases (show s = 1 ∨ 2 ≤ s by omega) with rfl | h
      · omega
      · exact h
    have : 0 ≤ n / s := Int.ediv_nonneg h0 (by omega)
    omega
theorem newton_up {n s : Int} (h0 : 0 ≤ n) (h1 : 1 ≤ s) : n < ((s + n / s) / 2 + 1) * ((s + n / s) / 2 + 1) := by
  have e : n < s * (n / s + 1) := by
    have a := Int.mul_ediv_add_emod n s
    have b := Int.emod_lt_of_pos n (show 0 < s by omega)
    rw [Int.mul_add]
    omega
  generalize n / s = d at e
  generalize ht : (s + d) / 2 + 1 = t
  have h2 : s + (d + 1) ≤ 2 * t := by omega
  have h3 : 0 ≤ s + (d + 1) := by
    rcases (show 0 ≤ d + 1 ∨ d + 1 < 0 by omega) with h | h
    · omega
    · have := Int.mul_neg_of_pos_of_neg (show 0 < s by omega) h
      omega
  have h4 : (s + (d + 1)) * (s + (d + 1)) ≤ (2 * t) * (2 * t) := Int.mul_le_mul h2 h2 h3 (by omega)
  have h5 : 0 ≤ (s - (d + 1)) * (s - (d + 1)) := by
    rcases (show 0 ≤ s - (d + 1) ∨ s - (d + 1) < 0 by omega) with h | h
    · exact Int.mul_nonneg h h
    · exact Int.le_of_lt (Int.mul_pos_of_neg_of_neg h h)
  have e1 : (s + (d + 1)) * (s + (d + 1)) = (s - (d + 1)) * (s - (d + 1)) + 4 * (s * (d + 1)) := by grind
  have e2 : (2 * t) * (2 * t) = 4 * (t * t) := by grind
  omega
theorem newton_down {n s : Int} (h1 : 1 ≤ s) (hg : n < s * s) : (s + n / s) / 2 < s := by
  have : n / s < s := Int.ediv_lt_of_lt_mul (by omega) hg
  omega
theorem bits_lt (n : Int) : n.natAbs < 2 ^ Builtin.Int.intBits n := by
  unfold Builtin.Int.intBits
  split
  · rename_i h
    have : n = 0 := by simpa using h
    subst this
    decide
  · exact Nat.lt_log2_self
theorem first_near {n : Int} (h0 : 0 ≤ n) : n < (2 * 2 ^ (Builtin.Int.intBits n / 2) : Int) * (2 * 2 ^ (Builtin.Int.intBits n / 2)) := by
  have h := bits_lt n
  generalize Builtin.Int.intBits n = B at h ⊢
  have e : (2 * 2 ^ (B / 2) : Int) * (2 * 2 ^ (B / 2)) = ((2 ^ (2 * (B / 2) + 2) : Nat) : Int) := by
    have : (2 : Nat) ^ (2 * (B / 2) + 2) = (2 * 2 ^ (B / 2)) * (2 * 2 ^ (B / 2)) := by
      rw [Nat.pow_add, Nat.two_mul, Nat.pow_add]
      grind
    rw [this]
    push_cast
    rfl
  rw [e]
  have l : 2 ^ B ≤ 2 ^ (2 * (B / 2) + 2) := Nat.pow_le_pow_right (by decide) (by omega)
  omega
theorem ok__law_root {P : Program} {w : World} {K : PySem.W.Frag} {mg : Str → Option Value} {base : Heap} (T : Txt K mg) : ∃ fd, FnOk P w K mg base (L2.CX P w) 1 (He.ga K "_law_root") fd ["number"] (spRoot) ∧ Binds K fd ["number"] [] := by
  obtain ⟨fd, F⟩ := T.d__law_root
  refine ⟨fd, F.ok sc__law_root sp1_len (fun cdv A outer s H vs Q E hr h => ?_), F.bindsN fun _ _ _ _ _ _ us hl => match us, hl with | [_], _ => rfl⟩
  obtain ⟨v0, rfl, n, rfl, h0, hz, k⟩ := sp1_is h
  refine ⟨_, (pss_cons (ps_if (pt_cmpR op_lt (pv 0) pe_int (nomark _)) (pss_one (ps_ret (pv 0))) pss_nil)
      (pss_cons (ps_set (i := 1) sc__law_root.nd rfl (Or.inl rfl) (pe_op op_shlW pe_int (pe_op op_fdivW (pe_bits (pv 0)) pe_int)))
      (pss_cons (ps_while (passes_of rfl) (pt_cmpR op_gt (pe_op op_mulW (pv 1) (pv 1)) (pv 0) (nomark _)) (pss_one (ps_set (i := 1) sc__law_root.nd rfl (Or.inl rfl) (pe_op op_fdivW (pe_op op_add (pv 1) (pe_op op_fdivW (pv 0) (pv 1))) pe_int))))
      (pss_one (ps_ret (pv 1)))))), ?_⟩
  walk_at "rd"
  by_cases c : n < 2
  · refine ite_t (decide_eq_true c) ?_
    walk_at "rd"
    refine k n ⟨h0, ?_⟩
    rcases (show n = 0 ∨ n = 1 by omega) with rfl | rfl <;> decide
  · refine ite_f (decide_eq_false c) ?_
    walk_at "rd"
    refine ⟨_, rfl, n, rfl, ?_⟩
    walk_at "rd"
    refine r_I (wide_div (b := 10) (by decide) (by decide) (by decide) (by decide)) ?_
    have hB : Builtin.Int.intBits n ≤ 2000 := PyProof.Rows.intBits_le hz
    rw [show ((Builtin.Int.intBits n : Nat) : Int) / 2 = ((Builtin.Int.intBits n / 2 : Nat) : Int) from by omega]
    refine r_I (shl_ok (n := 2) (by decide) (by omega)) ?_
    have hf := first_near h0
    have hB2 : Builtin.Int.intBits n / 2 ≤ 1000 := by omega
    generalize Builtin.Int.intBits n / 2 = B2 at hf hB2
    rw [Int.toNat_natCast]
    have hs1 : (1 : Int) ≤ 2 * 2 ^ B2 := by
      have : (0 : Int) < 2 ^ B2 := Int.pow_pos (by decide)
      omega
    have hs2 : Z 1010 (2 * 2 ^ B2) := by
      have e : (2 * 2 ^ B2 : Int) = ((2 ^ (B2 + 1) : Nat) : Int) := by
        rw [Nat.pow_succ]
        push_cast
        omega
      rw [e]
      unfold Z
      rw [Int.natAbs_natCast]
      exact Nat.pow_lt_pow_right (by decide) (by omega)
    generalize (2 * 2 ^ B2 : Int) = s0 at hf hs1 hs2
    walk_at "rd"
    refine ⟨fun m σ' H' => H' = H ∧ ∃ s : Int, 1 ≤ s ∧ s.toNat = m ∧ n < (s + 1) * (s + 1) ∧ Z 1010 s ∧ σ' = [some (.int n), some (.int s)], ⟨_, rfl, s0, hs1, rfl, ?_, hs2, rfl⟩, ?_⟩
    · have : s0 * s0 ≤ (s0 + 1) * (s0 + 1) := Int.mul_le_mul (by omega) (by omega) (by omega) (by omega)
      omega
    · rintro m σ' HH ⟨rfl, s, h1, rfl, h2, h3, rfl⟩
      walk_at "rd"
      refine r_I (mulOk h3 h3 (by decide) (by decide) (by decide)) ?_
      walk_at "rd"
      by_cases cg : n < s * s
      · refine ite_t (decide_eq_true cg) ?_
        have h1' : 1 ≤ (s + n / s) / 2 := by
          rcases newton h0 h1 cg with h | h
          · exact h
          · omega
        refine ⟨fun σ' H' => H' = HH ∧ σ' = [some (.int n), some (.int ((s + n / s) / 2))], ?_, ?_⟩
        · rintro σ' H' ⟨rfl, rfl⟩
          have hd := newton_down h1 cg
          exact ⟨_, by omega, rfl, _, h1', rfl, newton_up h0 h1, Z.of (by omega) (Int.le_of_lt hd) h3, rfl⟩
        · walk_at "rd"
          refine r_I (wide_div (b := 1010) (by omega) h3 (by decide) (by decide)) ?_
          walk_at "rd"
          refine r_I (wide_div (b := 10) (by decide) (by decide) (by decide) (by decide)) ?_
          exact ⟨rfl, rfl⟩
      · refine ite_f (decide_eq_false cg) ?_
        walk_at "rd"
        exact k s ⟨by omega, by omega, h2⟩

end K03
namespace K03
open PySem PySem.Spec PyProof.Rows L2 GS TL
local macro_rules | `(tactic| walk_at "rd") => `(tactic| (repeat (first
  | with_reducible refine r_next ?_
  | with_reducible refine r_seq ?_
  | with_reducible refine r_ret ?_
  | with_reducible refine r_ifS ?_
  | with_reducible refine r_asg ?_
  | with_reducible refine r_drop ?_
  | with_reducible refine r_op ?_
  | with_reducible refine r_un ?_
  | with_reducible refine r_cbInt ?_
  | with_reducible refine r_cbAbs ?_
  | with_reducible refine r_cbLen ?_
  | with_reducible refine r_cb ?_
  | with_reducible refine r_call ?_
  | with_reducible refine r_make ?_
  | with_reducible refine r_callN0 ?_
  | with_reducible refine r_makeK0 ?_
  | with_reducible refine r_makeS ?_
  | with_reducible refine r_callS ?_
  | with_reducible refine r_cons ?_
  | with_reducible refine r_nil ?_
  | with_reducible refine r_test ?_
  | with_reducible refine r_B ?_
  | with_reducible refine r_and ?_
  | with_reducible refine r_or ?_
  | with_reducible refine r_not ?_
  | with_reducible refine r_andV ?_
  | with_reducible refine r_orV ?_
  | with_reducible refine r_notV ?_
  | with_reducible refine r_if ?_
  | with_reducible refine r_tup ?_
  | with_reducible refine r_lst ?_
  | with_reducible refine r_c ?_
  | with_reducible refine r_lc ?_
  | with_reducible refine r_chain ?_
  | with_reducible refine r_iT ?_
  | with_reducible refine r_iL ?_
  | with_reducible refine r_iR1 ?_
  | with_reducible refine r_asgG ?_
  | with_reducible refine r_gSub ?_
  | with_reducible refine r_gCons ?_
  | with_reducible refine r_gNil ?_
  | with_reducible refine r_gName ?_
  | with_reducible refine r_intI ?_
  | with_reducible refine r_intB ?_
  | with_reducible refine r_absI ?_
  | with_reducible refine r_k ?_
  | with_reducible refine r_kV ?_
  | ((with_reducible show tVar _ _ _ _); refine r_var3 ?_ (by rfl))
  | with_reducible refine r_I0 ?_
  | with_reducible refine r_U ?_
  | with_reducible refine r_eqI ?_
  | with_reducible refine r_neI ?_
  | dsimp only)))
local macro_rules | `(tactic| walk_at "rx") => `(tactic| (repeat (first
  | with_reducible refine r_next ?_
  | with_reducible refine r_ret ?_
  | with_reducible refine r_ifS ?_
  | with_reducible refine r_asg ?_
  | with_reducible refine r_drop ?_
  | with_reducible refine r_op ?_
  | with_reducible refine r_un ?_
  | with_reducible refine r_cbInt ?_
  | with_reducible refine r_cbAbs ?_
  | with_reducible refine r_cbLen ?_
  | with_reducible refine r_cb ?_
  | with_reducible refine r_call ?_
  | with_reducible refine r_make ?_
  | with_reducible refine r_callN0 ?_
  | with_reducible refine r_makeK0 ?_
  | with_reducible refine r_makeS ?_
  | with_reducible refine r_callS ?_
  | with_reducible refine r_cons ?_
  | with_reducible refine r_nil ?_
  | with_reducible refine r_test ?_
  | with_reducible refine r_B ?_
  | with_reducible refine r_and ?_
  | with_reducible refine r_or ?_
  | with_reducible refine r_not ?_
  | with_reducible refine r_andV ?_
  | with_reducible refine r_orV ?_
  | with_reducible refine r_notV ?_
  | with_reducible refine r_if ?_
  | with_reducible refine r_tup ?_
  | with_reducible refine r_lst ?_
  | with_reducible refine r_c ?_
  | with_reducible refine r_lc ?_
  | with_reducible refine r_chain ?_
  | with_reducible refine r_iT ?_
  | with_reducible refine r_iL ?_
  | with_reducible refine r_iR1 ?_
  | with_reducible refine r_asgG ?_
  | with_reducible refine r_gSub ?_
  | with_reducible refine r_gCons ?_
  | with_reducible refine r_gNil ?_
  | with_reducible refine r_gName ?_
  | with_reducible refine r_intI ?_
  | with_reducible refine r_intB ?_
  | with_reducible refine r_absI ?_
  | with_reducible refine r_k ?_
  | with_reducible refine r_kV ?_
  | ((with_reducible show tVar _ _ _ _); refine r_var3 ?_ (by rfl))
  | with_reducible refine r_I0 ?_
  | with_reducible refine r_U ?_
  | with_reducible refine r_eqI ?_
  | with_reducible refine r_neI ?_
  | dsimp only)))
/-! ### the law's own sign -/
theorem sgI_neg (i : Int) : sgI (-i) = -sgI i := by
  rcases sgI_cases i with ⟨e, h⟩ | ⟨e, h⟩ | ⟨e, h⟩ <;> rcases sgI_cases (-i) with ⟨e', h'⟩ | ⟨e', h'⟩ | ⟨e', h'⟩ <;> omega
theorem sgn_neg (w p u : Int) : sgn (-w) (-p) u = -sgn w p u := by
  have e : rt (-p) u = -rt p u := by
    unfold rt
    split
    · exact sgI_neg p
    · rfl
  unfold sgn
  rw [e, sgI_neg w, Int.neg_mul_neg, show (-w) ^ 2 - (-p) ^ 2 * u = w ^ 2 - p ^ 2 * u by grind]
  split
  · rw [show -sgI w + -rt p u = -(sgI w + rt p u) by omega, sgI_neg]
  · rw [Int.neg_mul]
def spLS0 : Sp := sp1 fun v H Q _ => ∃ t w p u, v = .ref t ∧ H t = some (.tup [.int w, .int p, .int u]) ∧ 0 ≤ p ∧ 0 ≤ u ∧ Z 600 w ∧ Z 600 p ∧ Z 600 u ∧ Q (.int (sgn w p u)) H
def spLS : Sp := sp1 fun v H Q _ => ∃ t w p u, v = .ref t ∧ H t = some (.tup [.int w, .int p, .int u]) ∧ 0 ≤ u ∧ Z 600 w ∧ Z 600 p ∧ Z 600 u ∧ ∀ H', Ex H H' → Q (.int (sgn w p u)) H'
theorem sgI_pos {i : Int} (h : 0 < i) : sgI i = 1 := by unfold sgI; rw [if_neg (by omega), if_pos h]
theorem sgI_negv {i : Int} (h : i < 0) : sgI i = -1 := by unfold sgI; rw [if_neg (by omega), if_neg (by omega)]
theorem sgI_zero : sgI 0 = 0 := rfl
/-- by the floor of the root -/
theorem sgn_root {w p u r : Int} (hp : 0 ≤ p) (hu : 0 ≤ u) (h : isRoot (p * p * u) r) : sgn w p u = if w + r = 0 then (if r * r < p * p * u then 1 else 0) else if 0 < w + r then 1 else -1 := by
  obtain ⟨h0, h1, h2⟩ := h
  have e1 : p ^ 2 * u = p * p * u := by grind
  have e2 : w ^ 2 = w * w := by grind
  unfold sgn
  rw [e1, e2]
  by_cases c : 0 < p * p * u
  · have hp' : 0 < p := by
      rcases (show p = 0 ∨ 0 < p by omega) with z | z
      · rw [z] at c; simp at c
      · exact z
    have hu' : 0 < u := by
      rcases (show u = 0 ∨ 0 < u by omega) with z | z
      · rw [z] at c; simp at c
      · exact z
    have er : rt p u = 1 := by unfold rt; rw [if_pos hu', sgI_pos hp']
    rw [er]
    generalize p * p * u = S at *
    by_cases cw : 0 ≤ w
    · have hr : 1 ≤ r := by
        rcases (show r = 0 ∨ 1 ≤ r by omega) with z | z
        · subst z; omega
        · exact z
      rcases sgI_cases w with ⟨e, z⟩ | ⟨e, z⟩ | ⟨e, z⟩
      · rw [e, if_pos (by decide), if_neg (by omega), if_pos (by omega)]; rfl
      · rw [e, if_pos (by decide), if_neg (by omega), if_pos (by omega)]; rfl
      · omega
    · rw [sgI_negv (show w < 0 by omega), if_neg (by decide)]
      obtain ⟨v, rfl⟩ : ∃ v, w = -v := ⟨-w, by omega⟩
      have ev : -v * -v = v * v := Int.neg_mul_neg v v
      rw [ev]
      by_cases c1 : -v + r = 0
      · have : v = r := by omega
        subst this
        rw [if_pos c1]
        by_cases c2 : v * v < S
        · rw [if_pos c2, sgI_negv (by omega)]; rfl
        · rw [if_neg c2, show v * v - S = 0 by omega]; rfl
      · rw [if_neg c1]
        by_cases c2 : 0 < -v + r
        · rw [if_pos c2]
          have : v * v < S := by
            have : v * v < r * r := Int.mul_lt_mul (by omega) (by omega) (by omega) (by omega)
            omega
          rw [sgI_negv (by omega)]; rfl
        · rw [if_neg c2]
          have : S < v * v := by
            have : (r + 1) * (r + 1) ≤ v * v := Int.mul_le_mul (by omega) (by omega) (by omega) (by omega)
            omega
          rw [sgI_pos (by omega)]; rfl
  · have hS : 0 ≤ p * p * u := Int.mul_nonneg (Int.mul_nonneg hp hp) hu
    have zS : p * p * u = 0 := by omega
    have er : rt p u = 0 := by
      unfold rt
      split
      · rename_i hu'
        have : p = 0 := by
          rcases (show p = 0 ∨ 0 < p by omega) with z | z
          · exact z
          · have := Int.mul_pos (Int.mul_pos z z) hu'
            omega
        rw [this]; rfl
      · rfl
    have zr : r = 0 := by
      rcases (show r = 0 ∨ 0 < r by omega) with z | z
      · exact z
      · have := Int.mul_pos z z
        omega
    rw [er, zS, zr]
    rcases sgI_cases w with ⟨e, z⟩ | ⟨e, z⟩ | ⟨e, z⟩
    · rw [e, z]; rfl
    · rw [e, if_pos (by decide), if_neg (by omega), if_pos (by omega)]; rfl
    · rw [e, if_pos (by decide), if_neg (by omega), if_neg (by omega)]; rfl
theorem ok__law_sign0 {P : Program} {w : World} {K : PySem.W.Frag} {mg : Str → Option Value} {base : Heap} (T : Txt K mg) : ∃ fd, FnOk P w K mg base (L2.CX P w) 2 (He.ga K "_law_sign") fd ["told"] (spLS0) ∧ Binds K fd ["told"] [] := by
  obtain ⟨fd, F⟩ := T.d__law_sign
  obtain ⟨fd__law_root, F__law_root, B__law_root⟩ := ok__law_root (P := P) (w := w) (base := base) T
  refine ⟨fd, F.ok sc__law_sign sp1_len (fun cdv A outer s H vs Q E hr h => ?_), F.bindsN fun _ _ _ _ _ _ us hl => match us, hl with | [_], _ => rfl⟩
  have hr__law_root : Room 1 _ := hr.mono (by decide)
  obtain ⟨v0, rfl, t, w1, p, u, rfl, ht, hp, hu, zw, zp, zu, k⟩ := sp1_is h
  refine ⟨_, (pss_cons (ps_asg (pv 0) (pg_tup rfl (pgs_cons (pg_name (i := 1) sc__law_sign.nd rfl (Or.inl rfl)) (pgs_cons (pg_name (i := 2) sc__law_sign.nd rfl (Or.inl rfl)) (pgs_cons (pg_name (i := 3) sc__law_sign.nd rfl (Or.inl rfl)) pgs_nil)))))
      (pss_cons (ps_if (pt_cmpR op_lt (pv 2) pe_int (nomark _)) (pss_one ps_never) pss_nil)
      (pss_cons (ps_set (i := 4) sc__law_sign.nd rfl (Or.inl rfl) (pe_op op_mulW (pe_op op_mulW (pv 2) (pv 2)) (pv 3)))
      (pss_cons (ps_set (i := 5) sc__law_sign.nd rfl (Or.inl rfl) (pe_call F__law_root hr__law_root (by rfl) T.g__law_root T.k__law_root B__law_root .nil passL (pa_cons (pv 4) pa_nil)))
      (pss_cons (ps_if (pt_cmpR op_ne (pe_op op_add (pv 1) (pv 5)) pe_int (nomark _)) (pss_one (ps_ret (pe_ifExp (pt_cmpR op_gt (pe_op op_add (pv 1) (pv 5)) pe_int (nomark _)) pe_int (pe_un un_neg pe_int)))) pss_nil)
      (pss_one (ps_ret (pe_callTy call_int1 (by rfl) T.b_int (by decide +kernel) (pa_cons (pe_cmpR op_lt (pe_op op_mulW (pv 5) (pv 5)) (pv 4) (nomark _)) pa_nil))))))))), ?_⟩
  walk_at "rd"
  refine r_gTup ht rfl ?_
  walk_at "rd"
  refine ite_f (decide_eq_false (by omega)) ?_
  walk_at "rd"
  refine r_I (mulOk zp zp (by decide) (by decide) (by decide)) ?_
  walk_at "rd"
  refine r_I (mulOk (zp.mul zp) zu (by decide) (by decide) (by decide)) ?_
  walk_at "rd"
  refine ⟨_, rfl, Int.mul_nonneg (Int.mul_nonneg hp hp) hu, ((zp.mul zp).mul zu).mono (by decide), fun r hr => ?_⟩
  rw [sgn_root hp hu hr] at k
  walk_at "rd"
  by_cases c : w1 + r = 0
  · rw [if_pos c] at k
    refine ite_f (by simp [c]) ?_
    walk_at "rd"
    have zr : Z 1800 r := by
      have h1 := hr.1
      have h2 := hr.2.1
      refine Z.of h1 (?_ : r ≤ p * p * u) ((zp.mul zp).mul zu |>.mono (by decide))
      rcases (show r = 0 ∨ 1 ≤ r by omega) with z | z
      · have := Int.mul_nonneg (Int.mul_nonneg hp hp) hu; omega
      · have : r * 1 ≤ r * r := Int.mul_le_mul_of_nonneg_left z h1
        omega
    refine r_I (mulOk zr zr (by decide) (by decide) (by decide)) ?_
    walk_at "rd"
    simpa using k
  · rw [if_neg c] at k
    refine ite_t (by simp [c]) ?_
    walk_at "rd"
    by_cases c2 : 0 < w1 + r
    · rw [if_pos c2] at k
      exact ite_t (decide_eq_true c2) k
    · rw [if_neg c2] at k
      refine ite_f (decide_eq_false c2) ?_
      walk_at "rd"
      exact k
theorem ok__law_sign {P : Program} {w : World} {K : PySem.W.Frag} {mg : Str → Option Value} {base : Heap} (T : Txt K mg) : ∃ fd, FnOk P w K mg base (L2.CX P w) 3 (He.ga K "_law_sign") fd ["told"] (spLS) ∧ Binds K fd ["told"] [] := by
  obtain ⟨fd, F⟩ := T.d__law_sign
  obtain ⟨fd__law_root, F__law_root, B__law_root⟩ := ok__law_root (P := P) (w := w) (base := base) T
  obtain ⟨fd__law_sign, F__law_sign, B__law_sign⟩ := ok__law_sign0 (P := P) (w := w) (base := base) T
  refine ⟨fd, F.ok sc__law_sign sp1_len (fun cdv A outer s H vs Q E hr h => ?_), F.bindsN fun _ _ _ _ _ _ us hl => match us, hl with | [_], _ => rfl⟩
  have hr__law_root : Room 1 _ := hr.mono (by decide)
  have hr__law_sign : Room 2 _ := hr.mono (by decide)
  obtain ⟨v0, rfl, t, w1, p, u, rfl, ht, hu, zw, zp, zu, k⟩ := sp1_is h
  refine ⟨_, (pss_cons (ps_asg (pv 0) (pg_tup rfl (pgs_cons (pg_name (i := 1) sc__law_sign.nd rfl (Or.inl rfl)) (pgs_cons (pg_name (i := 2) sc__law_sign.nd rfl (Or.inl rfl)) (pgs_cons (pg_name (i := 3) sc__law_sign.nd rfl (Or.inl rfl)) pgs_nil)))))
      (pss_cons (ps_if (pt_cmpR op_lt (pv 2) pe_int (nomark _)) (pss_one (ps_ret (pe_un un_neg (pe_call F__law_sign hr__law_sign (by rfl) T.g__law_sign T.k__law_sign B__law_sign .nil passL (pa_cons (pe_tup (pa_cons (pe_un un_neg (pv 1)) (pa_cons (pe_un un_neg (pv 2)) (pa_cons (pv 3) pa_nil)))) pa_nil))))) pss_nil)
      (pss_cons (ps_set (i := 4) sc__law_sign.nd rfl (Or.inl rfl) (pe_op op_mulW (pe_op op_mulW (pv 2) (pv 2)) (pv 3)))
      (pss_cons (ps_set (i := 5) sc__law_sign.nd rfl (Or.inl rfl) (pe_call F__law_root hr__law_root (by rfl) T.g__law_root T.k__law_root B__law_root .nil passL (pa_cons (pv 4) pa_nil)))
      (pss_cons (ps_if (pt_cmpR op_ne (pe_op op_add (pv 1) (pv 5)) pe_int (nomark _)) (pss_one (ps_ret (pe_ifExp (pt_cmpR op_gt (pe_op op_add (pv 1) (pv 5)) pe_int (nomark _)) pe_int (pe_un un_neg pe_int)))) pss_nil)
      (pss_one (ps_ret (pe_callTy call_int1 (by rfl) T.b_int (by decide +kernel) (pa_cons (pe_cmpR op_lt (pe_op op_mulW (pv 5) (pv 5)) (pv 4) (nomark _)) pa_nil))))))))), ?_⟩
  walk_at "rd"
  refine r_gTup ht rfl ?_
  walk_at "rd"
  by_cases hp : p < 0
  · refine ite_t (decide_eq_true hp) ?_
    walk_at "rd"
    refine r_newT (sz_le (by simp)) fun q H1 hq e1 h1 => ?_
    have zn : ∀ {i : Int}, Z 600 i → Z 600 (-i) := fun {i} z => by unfold Z at *; omega
    refine ⟨q, -w1, -p, u, rfl, h1, by omega, hu, zn zw, zn zp, zu, ?_⟩
    walk_at "rd"
    rw [sgn_neg, Int.neg_neg]
    exact k H1 e1
  · replace hp : 0 ≤ p := by omega
    refine ite_f (decide_eq_false (by omega)) ?_
    walk_at "rd"
    refine r_I (mulOk zp zp (by decide) (by decide) (by decide)) ?_
    walk_at "rd"
    refine r_I (mulOk (zp.mul zp) zu (by decide) (by decide) (by decide)) ?_
    walk_at "rd"
    refine ⟨_, rfl, Int.mul_nonneg (Int.mul_nonneg hp hp) hu, ((zp.mul zp).mul zu).mono (by decide), fun r hr => ?_⟩
    rw [sgn_root hp hu hr] at k
    walk_at "rd"
    by_cases c : w1 + r = 0
    · rw [if_pos c] at k
      refine ite_f (by simp [c]) ?_
      walk_at "rd"
      have zr : Z 1800 r := by
        have h1 := hr.1
        have h2 := hr.2.1
        refine Z.of h1 (?_ : r ≤ p * p * u) ((zp.mul zp).mul zu |>.mono (by decide))
        rcases (show r = 0 ∨ 1 ≤ r by omega) with z | z
        · have := Int.mul_nonneg (Int.mul_nonneg hp hp) hu; omega
        · have : r * 1 ≤ r * r := Int.mul_le_mul_of_nonneg_left z h1
          omega
      refine r_I (mulOk zr zr (by decide) (by decide) (by decide)) ?_
      walk_at "rd"
      simpa using k H (Ex.refl _)
    · rw [if_neg c] at k
      refine ite_t (by simp [c]) ?_
      walk_at "rd"
      by_cases c2 : 0 < w1 + r
      · rw [if_pos c2] at k
        exact ite_t (decide_eq_true c2) (k H (Ex.refl _))
      · rw [if_neg c2] at k
        refine ite_f (decide_eq_false c2) ?_
        walk_at "rd"
        exact k H (Ex.refl _)

end K03
namespace K03
open PySem PySem.Spec PyProof.Rows L2 GS TL
local macro_rules | `(tactic| walk_at "rd") => `(tactic| (repeat (first
  | with_reducible refine r_next ?_
  | with_reducible refine r_seq ?_
  | with_reducible refine r_ret ?_
  | with_reducible refine r_ifS ?_
  | with_reducible refine r_asg ?_
  | with_reducible refine r_drop ?_
  | with_reducible refine r_op ?_
  | with_reducible refine r_un ?_
  | with_reducible refine r_cbInt ?_
  | with_reducible refine r_cbAbs ?_
  | with_reducible refine r_cbLen ?_
  | with_reducible refine r_cb ?_
  | with_reducible refine r_call ?_
  | with_reducible refine r_make ?_
  | with_reducible refine r_callN0 ?_
  | with_reducible refine r_makeK0 ?_
  | with_reducible refine r_makeS ?_
  | with_reducible refine r_callS ?_
  | with_reducible refine r_cons ?_
  | with_reducible refine r_nil ?_
  | with_reducible refine r_test ?_
  | with_reducible refine r_B ?_
  | with_reducible refine r_and ?_
  | with_reducible refine r_or ?_
  | with_reducible refine r_not ?_
  | with_reducible refine r_andV ?_
  | with_reducible refine r_orV ?_
  | with_reducible refine r_notV ?_
  | with_reducible refine r_if ?_
  | with_reducible refine r_tup ?_
  | with_reducible refine r_lst ?_
  | with_reducible refine r_c ?_
  | with_reducible refine r_lc ?_
  | with_reducible refine r_chain ?_
  | with_reducible refine r_iT ?_
  | with_reducible refine r_iL ?_
  | with_reducible refine r_iR1 ?_
  | with_reducible refine r_asgG ?_
  | with_reducible refine r_gSub ?_
  | with_reducible refine r_par ?_
  | with_reducible refine r_parK ?_
  | with_reducible refine r_gCons ?_
  | with_reducible refine r_gNil ?_
  | with_reducible refine r_gName ?_
  | with_reducible refine r_intI ?_
  | with_reducible refine r_intB ?_
  | with_reducible refine r_absI ?_
  | with_reducible refine r_k ?_
  | with_reducible refine r_kV ?_
  | ((with_reducible show tVar _ _ _ _); refine r_var3 ?_ (by rfl))
  | with_reducible refine r_I0 ?_
  | with_reducible refine r_U ?_
  | with_reducible refine r_eqI ?_
  | with_reducible refine r_neI ?_
  | dsimp only)))
local macro_rules | `(tactic| walk_at "rx") => `(tactic| (repeat (first
  | with_reducible refine r_next ?_
  | with_reducible refine r_ret ?_
  | with_reducible refine r_ifS ?_
  | with_reducible refine r_asg ?_
  | with_reducible refine r_drop ?_
  | with_reducible refine r_op ?_
  | with_reducible refine r_un ?_
  | with_reducible refine r_cbInt ?_
  | with_reducible refine r_cbAbs ?_
  | with_reducible refine r_cbLen ?_
  | with_reducible refine r_cb ?_
  | with_reducible refine r_call ?_
  | with_reducible refine r_make ?_
  | with_reducible refine r_callN0 ?_
  | with_reducible refine r_makeK0 ?_
  | with_reducible refine r_makeS ?_
  | with_reducible refine r_callS ?_
  | with_reducible refine r_cons ?_
  | with_reducible refine r_nil ?_
  | with_reducible refine r_test ?_
  | with_reducible refine r_B ?_
  | with_reducible refine r_and ?_
  | with_reducible refine r_or ?_
  | with_reducible refine r_not ?_
  | with_reducible refine r_andV ?_
  | with_reducible refine r_orV ?_
  | with_reducible refine r_notV ?_
  | with_reducible refine r_if ?_
  | with_reducible refine r_tup ?_
  | with_reducible refine r_lst ?_
  | with_reducible refine r_c ?_
  | with_reducible refine r_lc ?_
  | with_reducible refine r_chain ?_
  | with_reducible refine r_iT ?_
  | with_reducible refine r_iL ?_
  | with_reducible refine r_iR1 ?_
  | with_reducible refine r_asgG ?_
  | with_reducible refine r_gSub ?_
  | with_reducible refine r_par ?_
  | with_reducible refine r_parK ?_
  | with_reducible refine r_gCons ?_
  | with_reducible refine r_gNil ?_
  | with_reducible refine r_gName ?_
  | with_reducible refine r_intI ?_
  | with_reducible refine r_intB ?_
  | with_reducible refine r_absI ?_
  | with_reducible refine r_k ?_
  | with_reducible refine r_kV ?_
  | ((with_reducible show tVar _ _ _ _); refine r_var3 ?_ (by rfl))
  | with_reducible refine r_I0 ?_
  | with_reducible refine r_U ?_
  | with_reducible refine r_eqI ?_
  | with_reducible refine r_neI ?_
  | dsimp only)))
/-! ### a drawn bound -/
theorem r_Great {H : Hp} {Q : VK} {E : XK} {p : Addr} {n : Int} (hb : Bag H p n) (hn : n ≤ 90000) (k : ∀ r H', 0 ≤ r → r < 100000000000000000000 → Bu p H H' → Bag H' p (n + 3) → Q (.int r) H') : spGreat ([.ref p] ++ []) H Q E := ⟨p, n, rfl, hn, hb, k⟩
theorem r_Signed {H : Hp} {Q : VK} {E : XK} {p : Addr} {n i : Int} (hb : Bag H p n) (hn : n ≤ 90000) (zi : Z 400 i) (k : ∀ r H', r = i ∨ r = -i → Bu p H H' → Bag H' p (n + 1) → Q (.int r) H') : spSigned ([.ref p, .int i] ++ []) H Q E := ⟨p, n, i, rfl, rfl, zi, hn, hb, k⟩
def G20 (i : Int) : Prop := -100000000000000000000 < i ∧ i < 100000000000000000000
theorem G20.z {i : Int} (h : G20 i) : Z 67 i := by
  unfold G20 Z at *
  have : (2 : Nat) ^ 67 = 147573952589676412928 := rfl
  omega
theorem G20.pos {i : Int} (h0 : 0 ≤ i) (h : i < 100000000000000000000) : G20 i := ⟨by omega, h⟩
theorem G20.sg {i r : Int} (h : G20 i) (e : r = i ∨ r = -i) : G20 r := by unfold G20 at *; omega
theorem root_z {S r : Int} {k : Nat} (h : isRoot S r) (hS : Z (k + k) S) : Z k r := by
  obtain ⟨h0, h1, -⟩ := h
  unfold Z at *
  refine Nat.lt_of_not_le fun c => ?_
  have : 2 ^ (k + k) ≤ r.natAbs * r.natAbs := by rw [Nat.pow_add]; exact Nat.mul_le_mul c c
  have e : ((r.natAbs * r.natAbs : Nat) : Int) = r * r := by rw [Int.natAbs_mul_self]
  omega
/-- a tuple of three integers that may be a bound -/
def Told (k : Nat) (H : Hp) (t : Addr) (w p u : Int) : Prop := H t = some (.tup [.int w, .int p, .int u]) ∧ 0 ≤ u ∧ Z k w ∧ Z k p ∧ Z k u
theorem Told.le {k m : Nat} {H : Hp} {t : Addr} {w p u : Int} (h : Told k H t w p u) (l : k ≤ m) : Told m H t w p u := ⟨h.1, h.2.1, h.2.2.1.mono l, h.2.2.2.1.mono l, h.2.2.2.2.mono l⟩
theorem Told.bu {k : Nat} {H H' : Hp} {t b : Addr} {w p u n : Int} (h : Told k H t w p u) (hb : Bag H b n) (e : Bu b H H') : Told k H' t w p u := ⟨e _ _ (hb.ne h.1 fun _ _ _ z => by cases z) h.1, h.2⟩
theorem Told.ex {k : Nat} {H H' : Hp} {t : Addr} {w p u : Int} (h : Told k H t w p u) (e : Ex H H') : Told k H' t w p u := ⟨e _ _ h.1, h.2⟩
def spTold : Sp := sp1 fun b H Q _ => ∃ (p : Addr) (n : Int), b = .ref p ∧ n ≤ 80000 ∧ Bag H p n ∧ ∀ t w pt u H', Bu p H H' → Bag H' p (n + 12) → Told 109 H' t w pt u → Q (.ref t) H'
theorem sq_nn (i : Int) : 0 ≤ i * i := by
  rcases Int.le_total 0 i with z | z
  · exact Int.mul_nonneg z z
  · exact Int.mul_nonneg_of_nonpos_of_nonpos z z
theorem near_z {part under near x d : Int} (hp : Z 67 part) (hu : Z 67 under) (h : isRoot (part * part * under) near) (hx : x = near ∨ x = -near) (h0 : 0 ≤ d) (h1 : d < 3) : Z 109 (x + d - 1) := by
  have z := root_z (k := 101) h ((hp.mul hp).mul hu |>.mono (by decide))
  unfold Z at *
  have e1 : (2 : Nat) ^ 101 = 2535301200456458802993406410752 := rfl
  have e2 : (2 : Nat) ^ 109 = 649037107316853453566312041152512 := rfl
  omega
theorem ok__law_told {P : Program} {w : World} {K : PySem.W.Frag} {mg : Str → Option Value} {base : Heap} (T : Txt K mg) : ∃ fd, FnOk P w K mg base (L2.CX P w) 3 (He.ga K "_law_told") fd ["bag"] (spTold) ∧ Binds K fd ["bag"] [] := by
  obtain ⟨fd, F⟩ := T.d__law_told
  obtain ⟨fd__law_great, F__law_great, B__law_great⟩ := ok__law_great (P := P) (w := w) (base := base) T
  obtain ⟨fd__law_signed, F__law_signed, B__law_signed⟩ := ok__law_signed (P := P) (w := w) (base := base) T
  obtain ⟨fd__law_draw, F__law_draw, B__law_draw⟩ := ok__law_draw (P := P) (w := w) (base := base) T
  obtain ⟨fd__law_root, F__law_root, B__law_root⟩ := ok__law_root (P := P) (w := w) (base := base) T
  refine ⟨fd, F.ok sc__law_told sp1_len (fun cdv A outer s H vs Q E hr h => ?_), F.bindsN fun _ _ _ _ _ _ us hl => match us, hl with | [_], _ => rfl⟩
  have hr__law_great : Room 2 _ := hr.mono (by decide)
  have hr__law_signed : Room 2 _ := hr.mono (by decide)
  have hr__law_draw : Room 1 _ := hr.mono (by decide)
  have hr__law_root : Room 1 _ := hr.mono (by decide)
  obtain ⟨b0, rfl, b, n, rfl, hn, hb, k⟩ := sp1_is h
  refine ⟨_, (pss_cons (ps_set (i := 1) sc__law_told.nd rfl (Or.inl rfl) (pe_call F__law_draw hr__law_draw (by rfl) T.g__law_draw T.k__law_draw B__law_draw .nil passL (pa_cons (pv 0) (pa_cons pe_int pa_nil))))
      (pss_cons (ps_if (pt_cmpR op_eq (pv 1) pe_int (nomark _)) (pss_one (ps_ret (pe_tup (pa_cons (pe_call F__law_signed hr__law_signed (by rfl) T.g__law_signed T.k__law_signed B__law_signed .nil passL (pa_cons (pv 0) (pa_cons (pe_call F__law_draw hr__law_draw (by rfl) T.g__law_draw T.k__law_draw B__law_draw .nil passL (pa_cons (pv 0) (pa_cons pe_int pa_nil))) pa_nil))) (pa_cons (pe_call F__law_signed hr__law_signed (by rfl) T.g__law_signed T.k__law_signed B__law_signed .nil passL (pa_cons (pv 0) (pa_cons (pe_call F__law_draw hr__law_draw (by rfl) T.g__law_draw T.k__law_draw B__law_draw .nil passL (pa_cons (pv 0) (pa_cons pe_int pa_nil))) pa_nil))) (pa_cons (pe_call F__law_draw hr__law_draw (by rfl) T.g__law_draw T.k__law_draw B__law_draw .nil passL (pa_cons (pv 0) (pa_cons pe_int pa_nil))) pa_nil)))))) pss_nil)
      (pss_cons (ps_if (pt_cmpR op_eq (pv 1) pe_int (nomark _)) (pss_cons (ps_par (i := 2) (j := 3) (by rfl) sc__law_told.nd rfl rfl (by decide) rfl rfl (pa_cons (pe_call F__law_signed hr__law_signed (by rfl) T.g__law_signed T.k__law_signed B__law_signed .nil passL (pa_cons (pv 0) (pa_cons (pe_call F__law_draw hr__law_draw (by rfl) T.g__law_draw T.k__law_draw B__law_draw .nil passL (pa_cons (pv 0) (pa_cons (pe_op op_powW pe_int pe_int) pa_nil))) pa_nil))) (pa_cons (pe_call F__law_draw hr__law_draw (by rfl) T.g__law_draw T.k__law_draw B__law_draw .nil passL (pa_cons (pv 0) (pa_cons (pe_op op_powW pe_int pe_int) pa_nil))) pa_nil)) (by rfl))
      (pss_cons (ps_set (i := 4) sc__law_told.nd rfl (Or.inl rfl) (pe_call F__law_root hr__law_root (by rfl) T.g__law_root T.k__law_root B__law_root .nil passL (pa_cons (pe_op op_mulW (pe_op op_mulW (pv 2) (pv 2)) (pv 3)) pa_nil)))
      (pss_one (ps_ret (pe_tup (pa_cons (pe_op op_sub (pe_op op_add (pe_ifExp (pt_cmpR op_lt (pv 2) pe_int (nomark _)) (pv 4) (pe_un un_neg (pv 4))) (pe_call F__law_draw hr__law_draw (by rfl) T.g__law_draw T.k__law_draw B__law_draw .nil passL (pa_cons (pv 0) (pa_cons pe_int pa_nil)))) pe_int) (pa_cons (pv 2) (pa_cons (pv 3) pa_nil)))))))) pss_nil)
      (pss_cons (ps_if (pt_cmpR op_eq (pv 1) pe_int (nomark _)) (pss_cons (ps_par (i := 2) (j := 5) (by rfl) sc__law_told.nd rfl rfl (by decide) rfl rfl (pa_cons (pe_call F__law_signed hr__law_signed (by rfl) T.g__law_signed T.k__law_signed B__law_signed .nil passL (pa_cons (pv 0) (pa_cons (pe_call F__law_great hr__law_great (by rfl) T.g__law_great T.k__law_great B__law_great .nil passL (pa_cons (pv 0) pa_nil)) pa_nil))) (pa_cons (pe_call F__law_draw hr__law_draw (by rfl) T.g__law_draw T.k__law_draw B__law_draw .nil passL (pa_cons (pv 0) (pa_cons (pe_op op_powW pe_int pe_int) pa_nil))) pa_nil)) (by rfl))
      (pss_one (ps_ret (pe_tup (pa_cons (pe_op op_sub (pe_op op_add (pe_op op_mulW (pe_un un_neg (pv 2)) (pv 5)) (pe_call F__law_draw hr__law_draw (by rfl) T.g__law_draw T.k__law_draw B__law_draw .nil passL (pa_cons (pv 0) (pa_cons pe_int pa_nil)))) pe_int) (pa_cons (pv 2) (pa_cons (pe_op op_mulW (pv 5) (pv 5)) pa_nil))))))) pss_nil)
      (pss_cons (ps_if (pt_cmpR op_eq (pv 1) pe_int (nomark _)) (pss_cons (ps_par (i := 2) (j := 3) (by rfl) sc__law_told.nd rfl rfl (by decide) rfl rfl (pa_cons (pe_call F__law_signed hr__law_signed (by rfl) T.g__law_signed T.k__law_signed B__law_signed .nil passL (pa_cons (pv 0) (pa_cons (pe_call F__law_great hr__law_great (by rfl) T.g__law_great T.k__law_great B__law_great .nil passL (pa_cons (pv 0) pa_nil)) pa_nil))) (pa_cons (pe_call F__law_great hr__law_great (by rfl) T.g__law_great T.k__law_great B__law_great .nil passL (pa_cons (pv 0) pa_nil)) pa_nil)) (by rfl))
      (pss_cons (ps_set (i := 4) sc__law_told.nd rfl (Or.inl rfl) (pe_call F__law_root hr__law_root (by rfl) T.g__law_root T.k__law_root B__law_root .nil passL (pa_cons (pe_op op_mulW (pe_op op_mulW (pv 2) (pv 2)) (pv 3)) pa_nil)))
      (pss_one (ps_ret (pe_tup (pa_cons (pe_op op_sub (pe_op op_add (pe_ifExp (pt_cmpR op_lt (pv 2) pe_int (nomark _)) (pv 4) (pe_un un_neg (pv 4))) (pe_call F__law_draw hr__law_draw (by rfl) T.g__law_draw T.k__law_draw B__law_draw .nil passL (pa_cons (pv 0) (pa_cons pe_int pa_nil)))) pe_int) (pa_cons (pv 2) (pa_cons (pv 3) pa_nil)))))))) pss_nil)
      (pss_cons (ps_if (pt_cmpR op_eq (pv 1) pe_int (nomark _)) (pss_one (ps_ret (pe_tup (pa_cons (pe_call F__law_signed hr__law_signed (by rfl) T.g__law_signed T.k__law_signed B__law_signed .nil passL (pa_cons (pv 0) (pa_cons (pe_call F__law_great hr__law_great (by rfl) T.g__law_great T.k__law_great B__law_great .nil passL (pa_cons (pv 0) pa_nil)) pa_nil))) (pa_cons pe_int (pa_cons (pe_call F__law_great hr__law_great (by rfl) T.g__law_great T.k__law_great B__law_great .nil passL (pa_cons (pv 0) pa_nil)) pa_nil)))))) pss_nil)
      (pss_one (ps_ret (pe_tup (pa_cons (pe_call F__law_signed hr__law_signed (by rfl) T.g__law_signed T.k__law_signed B__law_signed .nil passL (pa_cons (pv 0) (pa_cons (pe_call F__law_great hr__law_great (by rfl) T.g__law_great T.k__law_great B__law_great .nil passL (pa_cons (pv 0) pa_nil)) pa_nil))) (pa_cons (pe_call F__law_signed hr__law_signed (by rfl) T.g__law_signed T.k__law_signed B__law_signed .nil passL (pa_cons (pv 0) (pa_cons (pe_call F__law_great hr__law_great (by rfl) T.g__law_great T.k__law_great B__law_great .nil passL (pa_cons (pv 0) pa_nil)) pa_nil))) (pa_cons (pe_call F__law_great hr__law_great (by rfl) T.g__law_great T.k__law_great B__law_great .nil passL (pa_cons (pv 0) pa_nil)) pa_nil)))))))))))), ?_⟩
  walk_at "rd"
  have zs : ∀ {i : Int}, i.natAbs < 10000000000 → Z 1000 i := fun {i} h => (Z.small h).mono (by decide)
  refine r_Draw hb (by omega) (by decide) (zs (by decide)) fun way H1 _ _ u1 hb1 => ?_
  walk_at "rd"
  have fin : ∀ {m : Int} {H2 : Hp} {w pt u : Int}, m ≤ n + 12 → Bu b H H2 → Bag H2 b m → 0 ≤ u → Z 109 w → Z 109 pt → Z 109 u → newT Q [.int w, .int pt, .int u] H2 := fun {m H2 w pt u} hm bu hb2 hu zw zp zu =>
    r_newT (sz_le (by simp)) fun t H' _ e h' => k t w pt u H' (bu.trans (Bu.of e)) ((hb2.ex e).le hm) ⟨h', hu, zw, zp, zu⟩
  walk_at "rd"
  have zg : ∀ {i : Int}, G20 i → Z 400 i := fun h => h.z.mono (by decide)
  have z1 : ∀ {i : Int}, G20 i → Z 109 i := fun h => h.z.mono (by decide)
  refine ite_b (fun _ => ?_) fun _ => ?_
  · walk_at "rd"
    refine r_Draw hb1 (by omega) (by decide) (zs (by decide)) fun d1 H2 a1 b1 u2 hb2 => ?_
    walk_at "rd"
    have g1 : G20 d1 := .pos a1 (by omega)
    refine r_Signed hb2 (by omega) (zg g1) fun s1 H3 e1 u3 hb3 => ?_
    walk_at "rd"
    refine r_Draw hb3 (by omega) (by decide) (zs (by decide)) fun d2 H4 a2 b2 u4 hb4 => ?_
    walk_at "rd"
    have g2 : G20 d2 := .pos a2 (by omega)
    refine r_Signed hb4 (by omega) (zg g2) fun s2 H5 e2 u5 hb5 => ?_
    walk_at "rd"
    refine r_Draw hb5 (by omega) (by decide) (zs (by decide)) fun d3 H6 a3 b3 u6 hb6 => ?_
    walk_at "rd"
    exact fin (by omega) (((((u1.trans u2).trans u3).trans u4).trans u5).trans u6) hb6 a3 (z1 (g1.sg e1)) (z1 (g2.sg e2)) (z1 (.pos a3 (by omega)))
  walk_at "rd"
  refine ite_b (fun _ => ?_) fun _ => ?_
  · walk_at "rd"
    refine r_pow (p10 6 (by decide)) p106 ?_
    walk_at "rd"
    refine r_Draw hb1 (by omega) (by decide) (zs (by decide)) fun d1 H2 a1 b1 u2 hb2 => ?_
    walk_at "rd"
    have g1 : G20 d1 := .pos a1 (by omega)
    refine r_Signed hb2 (by omega) (zg g1) fun s1 H3 e1 u3 hb3 => ?_
    walk_at "rd"
    refine r_pow (p10 7 (by decide)) p107 ?_
    walk_at "rd"
    refine r_Draw hb3 (by omega) (by decide) (zs (by decide)) fun d2 H4 a2 b2 u4 hb4 => ?_
    walk_at "rd"
    have gs := g1.sg e1
    have g2 : G20 d2 := .pos a2 (by omega)
    walk_at "rd"
    refine r_I (mulOk gs.z gs.z (by decide) (by decide) (by decide)) ?_
    walk_at "rd"
    refine r_I (mulOk (gs.z.mul gs.z) g2.z (by decide) (by decide) (by decide)) ?_
    walk_at "rd"
    refine ⟨_, rfl, Int.mul_nonneg (sq_nn s1) a2, ((gs.z.mul gs.z).mul g2.z).mono (by decide), fun near hr => ?_⟩
    walk_at "rd"
    refine r_pickI (i := near) (j := -near) (fun Q q => ⟨_, rfl, q⟩) (fun Q q => ⟨_, rfl, _, rfl, q⟩) ?_
    walk_at "rd"
    refine r_Draw hb4 (by omega) (by decide) (zs (by decide)) fun d3 H5 a3 b3 u5 hb5 => ?_
    walk_at "rd"
    exact fin (by omega) ((((u1.trans u2).trans u3).trans u4).trans u5) hb5 a2 (near_z gs.z g2.z hr (by split <;> simp) a3 b3) (z1 gs) (z1 g2)
  walk_at "rd"
  refine ite_b (fun _ => ?_) fun _ => ?_
  · walk_at "rd"
    refine r_Great hb1 (by omega) fun d1 H2 a1 b1 u2 hb2 => ?_
    walk_at "rd"
    have g1 : G20 d1 := .pos a1 (by omega)
    refine r_Signed hb2 (by omega) (zg g1) fun s1 H3 e1 u3 hb3 => ?_
    walk_at "rd"
    refine r_pow (p10 5 (by decide)) p105 ?_
    walk_at "rd"
    refine r_Draw hb3 (by omega) (by decide) (zs (by decide)) fun d2 H4 a2 b2 u4 hb4 => ?_
    walk_at "rd"
    have gs := g1.sg e1
    have g2 : Z 34 d2 := Z.small (by omega)
    have zn : Z 67 (-s1) := by have := gs.z; unfold Z at *; omega
    walk_at "rd"
    refine r_I (mulOk zn g2 (by decide) (by decide) (by decide)) ?_
    walk_at "rd"
    refine r_Draw hb4 (by omega) (by decide) (zs (by decide)) fun d3 H5 a3 b3 u5 hb5 => ?_
    walk_at "rd"
    refine r_I (mulOk g2 g2 (by decide) (by decide) (by decide)) ?_
    walk_at "rd"
    refine fin (by omega) ((((u1.trans u2).trans u3).trans u4).trans u5) hb5 (Int.mul_nonneg a2 a2) ?_ (z1 gs) ((g2.mul g2).mono (by decide))
    exact ((((zn.mul g2).mono (m := 105) (by decide)).add (Z.mono (n := 34) (Z.small (by omega)) (by decide))).sub (Z.mono (n := 34) (Z.small (by decide)) (by decide))).mono (by decide)
  walk_at "rd"
  refine ite_b (fun _ => ?_) fun _ => ?_
  · walk_at "rd"
    refine r_Great hb1 (by omega) fun d1 H2 a1 b1 u2 hb2 => ?_
    walk_at "rd"
    have g1 : G20 d1 := .pos a1 (by omega)
    refine r_Signed hb2 (by omega) (zg g1) fun s1 H3 e1 u3 hb3 => ?_
    walk_at "rd"
    refine r_Great hb3 (by omega) fun d2 H4 a2 b2 u4 hb4 => ?_
    walk_at "rd"
    have gs := g1.sg e1
    have g2 : G20 d2 := .pos a2 (by omega)
    walk_at "rd"
    refine r_I (mulOk gs.z gs.z (by decide) (by decide) (by decide)) ?_
    walk_at "rd"
    refine r_I (mulOk (gs.z.mul gs.z) g2.z (by decide) (by decide) (by decide)) ?_
    walk_at "rd"
    refine ⟨_, rfl, Int.mul_nonneg (sq_nn s1) a2, ((gs.z.mul gs.z).mul g2.z).mono (by decide), fun near hr => ?_⟩
    walk_at "rd"
    refine r_pickI (i := near) (j := -near) (fun Q q => ⟨_, rfl, q⟩) (fun Q q => ⟨_, rfl, _, rfl, q⟩) ?_
    walk_at "rd"
    refine r_Draw hb4 (by omega) (by decide) (zs (by decide)) fun d3 H5 a3 b3 u5 hb5 => ?_
    walk_at "rd"
    exact fin (by omega) ((((u1.trans u2).trans u3).trans u4).trans u5) hb5 a2 (near_z gs.z g2.z hr (by split <;> simp) a3 b3) (z1 gs) (z1 g2)
  walk_at "rd"
  refine ite_b (fun _ => ?_) fun _ => ?_
  · walk_at "rd"
    refine r_Great hb1 (by omega) fun d1 H2 a1 b1 u2 hb2 => ?_
    walk_at "rd"
    have g1 : G20 d1 := .pos a1 (by omega)
    refine r_Signed hb2 (by omega) (zg g1) fun s1 H3 e1 u3 hb3 => ?_
    walk_at "rd"
    refine r_Great hb3 (by omega) fun d2 H4 a2 b2 u4 hb4 => ?_
    walk_at "rd"
    exact fin (by omega) (((u1.trans u2).trans u3).trans u4) hb4 a2 (z1 (g1.sg e1)) (z1 (.pos (by decide) (by decide))) (z1 (.pos a2 (by omega)))
  walk_at "rd"
  refine r_Great hb1 (by omega) fun d1 H2 a1 b1 u2 hb2 => ?_
  walk_at "rd"
  have g1 : G20 d1 := .pos a1 (by omega)
  refine r_Signed hb2 (by omega) (zg g1) fun s1 H3 e1 u3 hb3 => ?_
  walk_at "rd"
  refine r_Great hb3 (by omega) fun d2 H4 a2 b2 u4 hb4 => ?_
  walk_at "rd"
  have g2 : G20 d2 := .pos a2 (by omega)
  refine r_Signed hb4 (by omega) (zg g2) fun s2 H5 e2 u5 hb5 => ?_
  walk_at "rd"
  refine r_Great hb5 (by omega) fun d3 H6 a3 b3 u6 hb6 => ?_
  walk_at "rd"
  exact fin (by omega) (((((u1.trans u2).trans u3).trans u4).trans u5).trans u6) hb6 a3 (z1 (g1.sg e1)) (z1 (g2.sg e2)) (z1 (.pos a3 (by omega)))

end K03
namespace K03
open PySem PySem.Spec PyProof.Rows L2 GS TL
local macro_rules | `(tactic| walk_at "rd") => `(tactic| (repeat (first
  | with_reducible refine r_next ?_
  | with_reducible refine r_seq ?_
  | with_reducible refine r_ret ?_
  | with_reducible refine r_ifS ?_
  | with_reducible refine r_asg ?_
  | with_reducible refine r_drop ?_
  | with_reducible refine r_op ?_
  | with_reducible refine r_un ?_
  | with_reducible refine r_cbInt ?_
  | with_reducible refine r_cbAbs ?_
  | with_reducible refine r_cbLen ?_
  | with_reducible refine r_cb ?_
  | with_reducible refine r_call ?_
  | with_reducible refine r_make ?_
  | with_reducible refine r_callN0 ?_
  | with_reducible refine r_makeK0 ?_
  | with_reducible refine r_makeS ?_
  | with_reducible refine r_callS ?_
  | with_reducible refine r_cons ?_
  | with_reducible refine r_nil ?_
  | with_reducible refine r_test ?_
  | with_reducible refine r_B ?_
  | with_reducible refine r_and ?_
  | with_reducible refine r_or ?_
  | with_reducible refine r_not ?_
  | with_reducible refine r_andV ?_
  | with_reducible refine r_orV ?_
  | with_reducible refine r_notV ?_
  | with_reducible refine r_if ?_
  | with_reducible refine r_tup ?_
  | with_reducible refine r_lst ?_
  | with_reducible refine r_c ?_
  | with_reducible refine r_lc ?_
  | with_reducible refine r_chain ?_
  | with_reducible refine r_iT ?_
  | with_reducible refine r_iL ?_
  | with_reducible refine r_iR1 ?_
  | with_reducible refine r_asgG ?_
  | with_reducible refine r_gSub ?_
  | with_reducible refine r_par ?_
  | with_reducible refine r_parK ?_
  | with_reducible refine r_gCons ?_
  | with_reducible refine r_gNil ?_
  | with_reducible refine r_gName ?_
  | with_reducible refine r_intI ?_
  | with_reducible refine r_intB ?_
  | with_reducible refine r_absI ?_
  | with_reducible refine r_k ?_
  | with_reducible refine r_kV ?_
  | ((with_reducible show tVar _ _ _ _); refine r_var3 ?_ (by rfl))
  | with_reducible refine r_I0 ?_
  | with_reducible refine r_U ?_
  | with_reducible refine r_eqI ?_
  | with_reducible refine r_neI ?_
  | dsimp only)))
local macro_rules | `(tactic| walk_at "rx") => `(tactic| (repeat (first
  | with_reducible refine r_next ?_
  | with_reducible refine r_ret ?_
  | with_reducible refine r_ifS ?_
  | with_reducible refine r_asg ?_
  | with_reducible refine r_drop ?_
  | with_reducible refine r_op ?_
  | with_reducible refine r_un ?_
  | with_reducible refine r_cbInt ?_
  | with_reducible refine r_cbAbs ?_
  | with_reducible refine r_cbLen ?_
  | with_reducible refine r_cb ?_
  | with_reducible refine r_call ?_
  | with_reducible refine r_make ?_
  | with_reducible refine r_callN0 ?_
  | with_reducible refine r_makeK0 ?_
  | with_reducible refine r_makeS ?_
  | with_reducible refine r_callS ?_
  | with_reducible refine r_cons ?_
  | with_reducible refine r_nil ?_
  | with_reducible refine r_test ?_
  | with_reducible refine r_B ?_
  | with_reducible refine r_and ?_
  | with_reducible refine r_or ?_
  | with_reducible refine r_not ?_
  | with_reducible refine r_andV ?_
  | with_reducible refine r_orV ?_
  | with_reducible refine r_notV ?_
  | with_reducible refine r_if ?_
  | with_reducible refine r_tup ?_
  | with_reducible refine r_lst ?_
  | with_reducible refine r_c ?_
  | with_reducible refine r_lc ?_
  | with_reducible refine r_chain ?_
  | with_reducible refine r_iT ?_
  | with_reducible refine r_iL ?_
  | with_reducible refine r_iR1 ?_
  | with_reducible refine r_asgG ?_
  | with_reducible refine r_gSub ?_
  | with_reducible refine r_par ?_
  | with_reducible refine r_parK ?_
  | with_reducible refine r_gCons ?_
  | with_reducible refine r_gNil ?_
  | with_reducible refine r_gName ?_
  | with_reducible refine r_intI ?_
  | with_reducible refine r_intB ?_
  | with_reducible refine r_absI ?_
  | with_reducible refine r_k ?_
  | with_reducible refine r_kV ?_
  | ((with_reducible show tVar _ _ _ _); refine r_var3 ?_ (by rfl))
  | with_reducible refine r_I0 ?_
  | with_reducible refine r_U ?_
  | with_reducible refine r_eqI ?_
  | with_reducible refine r_neI ?_
  | dsimp only)))
/-! ### a second bound; what is common; what a bound is -/
theorem r_Told {H : Hp} {Q : VK} {E : XK} {p : Addr} {n : Int} (hb : Bag H p n) (hn : n ≤ 80000) (k : ∀ t w pt u H', Bu p H H' → Bag H' p (n + 12) → Told 109 H' t w pt u → Q (.ref t) H') : spTold ([.ref p] ++ []) H Q E := ⟨p, n, rfl, hn, hb, k⟩
def spOther : Sp := sp2 fun b v H Q _ => ∃ (p : Addr) (n : Int) (t : Addr) (w pt u : Int), b = .ref p ∧ v = .ref t ∧ n ≤ 70000 ∧ Bag H p n ∧ Told 109 H t w pt u ∧ ∀ t' w' p' u' H', Bu p H H' → Bag H' p (n + 14) → Told 110 H' t' w' p' u' → Q (.ref t') H'
theorem ok__law_other {P : Program} {w : World} {K : PySem.W.Frag} {mg : Str → Option Value} {base : Heap} (T : Txt K mg) : ∃ fd, FnOk P w K mg base (L2.CX P w) 4 (He.ga K "_law_other") fd ["bag", "told"] (spOther) ∧ Binds K fd ["bag", "told"] [] := by
  obtain ⟨fd, F⟩ := T.d__law_other
  obtain ⟨fd__law_draw, F__law_draw, B__law_draw⟩ := ok__law_draw (P := P) (w := w) (base := base) T
  obtain ⟨fd__law_told, F__law_told, B__law_told⟩ := ok__law_told (P := P) (w := w) (base := base) T
  refine ⟨fd, F.ok sc__law_other sp2_len (fun cdv A outer s H vs Q E hr h => ?_), F.bindsN fun _ _ _ _ _ _ us hl => match us, hl with | [_, _], _ => rfl⟩
  have hr__law_draw : Room 1 _ := hr.mono (by decide)
  have hr__law_told : Room 3 _ := hr.mono (by decide)
  obtain ⟨b0, v0, rfl, b, n, t, w1, p1, u1, rfl, rfl, hn, hb, ht, k⟩ := sp2_is h
  refine ⟨_, (pss_cons (ps_set (i := 2) sc__law_other.nd rfl (Or.inl rfl) (pe_call F__law_draw hr__law_draw (by rfl) T.g__law_draw T.k__law_draw B__law_draw .nil passL (pa_cons (pv 0) (pa_cons pe_int pa_nil))))
      (pss_cons (ps_set (i := 3) sc__law_other.nd rfl (Or.inl rfl) (pe_call F__law_told hr__law_told (by rfl) T.g__law_told T.k__law_told B__law_told .nil passL (pa_cons (pv 0) pa_nil)))
      (pss_cons (ps_if (pt_cmpR op_lt (pv 2) pe_int (nomark _)) (pss_one (ps_ret (pe_tup (pa_cons (pe_ix ix_tup (pv 3) pe_int (fun _ _ => rfl)) (pa_cons (pe_ix ix_tup (pv 3) pe_int (fun _ _ => rfl)) (pa_cons (pe_ix ix_tup (pv 1) pe_int (fun _ _ => rfl)) pa_nil)))))) pss_nil)
      (pss_cons (ps_if (pt_cmpR op_eq (pv 2) pe_int (nomark _)) (pss_one (ps_ret (pe_tup (pa_cons (pe_op op_sub (pe_op op_add (pe_ix ix_tup (pv 1) pe_int (fun _ _ => rfl)) (pe_call F__law_draw hr__law_draw (by rfl) T.g__law_draw T.k__law_draw B__law_draw .nil passL (pa_cons (pv 0) (pa_cons pe_int pa_nil)))) pe_int) (pa_cons (pe_ix ix_tup (pv 1) pe_int (fun _ _ => rfl)) (pa_cons (pe_ix ix_tup (pv 1) pe_int (fun _ _ => rfl)) pa_nil)))))) pss_nil)
      (pss_one (ps_ret (pe_ifExp (pt_cmpR op_eq (pv 2) pe_int (nomark _)) (pe_tup (pa_cons (pe_ix ix_tup (pv 3) pe_int (fun _ _ => rfl)) (pa_cons pe_int (pa_cons (pe_ix ix_tup (pv 3) pe_int (fun _ _ => rfl)) pa_nil)))) (pv 3)))))))), ?_⟩
  have zs : ∀ {i : Int}, i.natAbs < 10000000000 → Z 1000 i := fun {i} h => (Z.small h).mono (by decide)
  walk_at "rd"
  refine r_Draw hb (by omega) (by decide) (zs (by decide)) fun way H1 _ _ e1 hb1 => ?_
  walk_at "rd"
  refine r_Told hb1 (by omega) fun t2 w2 p2 u2 H2 e2 hb2 ht2 => ?_
  have ht1 := (ht.bu hb e1).bu hb1 e2
  have fin : ∀ {m : Int} {H3 : Hp} {w pt u : Int}, m ≤ n + 14 → Bu b H H3 → Bag H3 b m → 0 ≤ u → Z 110 w → Z 110 pt → Z 110 u → newT Q [.int w, .int pt, .int u] H3 := fun {m H3 w pt u} hm bu hb2 hu zw zp zu =>
    r_newT (sz_le (by simp)) fun t H' _ e h' => k t w pt u H' (bu.trans (Bu.of e)) ((hb2.ex e).le hm) ⟨h', hu, zw, zp, zu⟩
  walk_at "rd"
  refine ite_b (fun _ => ?_) fun _ => ?_
  · walk_at "rd"
    refine r_ixT ht2.1 (v := .int w2) rfl ?_
    walk_at "rd"
    refine r_ixT ht2.1 (v := .int p2) rfl ?_
    walk_at "rd"
    refine r_ixT ht1.1 (v := .int u1) rfl ?_
    walk_at "rd"
    exact fin (by omega) (e1.trans e2) hb2 ht.2.1 (ht2.2.2.1.mono (by decide)) (ht2.2.2.2.1.mono (by decide)) (ht.2.2.2.2.mono (by decide))
  walk_at "rd"
  refine ite_b (fun _ => ?_) fun _ => ?_
  · walk_at "rd"
    refine r_ixT ht1.1 (v := .int w1) rfl ?_
    walk_at "rd"
    refine r_Draw hb2 (by omega) (by decide) (zs (by decide)) fun d H3 a3 b3 e3 hb3 => ?_
    have ht3 := ht1.bu hb2 e3
    walk_at "rd"
    refine r_ixT ht3.1 (v := .int p1) rfl ?_
    walk_at "rd"
    refine r_ixT ht3.1 (v := .int u1) rfl ?_
    walk_at "rd"
    refine fin (by omega) ((e1.trans e2).trans e3) hb3 ht.2.1 ?_ (ht.2.2.2.1.mono (by decide)) (ht.2.2.2.2.mono (by decide))
    have z := ht.2.2.1
    unfold Z at *
    have e1 : (2 : Nat) ^ 109 = 649037107316853453566312041152512 := rfl
    have e2 : (2 : Nat) ^ 110 = 1298074214633706907132624082305024 := rfl
    omega
  walk_at "rd"
  refine ite_b (fun _ => ?_) fun _ => ?_
  · walk_at "rd"
    refine r_ixT ht2.1 (v := .int w2) rfl ?_
    walk_at "rd"
    refine r_ixT ht2.1 (v := .int u2) rfl ?_
    walk_at "rd"
    exact fin (by omega) (e1.trans e2) hb2 ht2.2.1 (ht2.2.2.1.mono (by decide)) ((Z.small (by decide)).mono (by decide)) (ht2.2.2.2.2.mono (by decide))
  · walk_at "rd"
    exact k t2 w2 p2 u2 H2 (e1.trans e2) (hb2.le (by omega)) (ht2.le (by decide))
/-- none or a number -/
def oV : Option Int → V
  | none => .non
  | some i => .int i
def T3 (H : Hp) (t : Addr) (w p u : Int) : Prop := H t = some (.tup [.int w, .int p, .int u])
def spCom : Sp := sp2 fun a b H Q _ => ∃ t w p u t' w' p' u', a = .ref t ∧ b = .ref t' ∧ T3 H t w p u ∧ T3 H t' w' p' u' ∧ Q (oV (cmu p u p' u')) H
theorem ok__law_common {P : Program} {w : World} {K : PySem.W.Frag} {mg : Str → Option Value} {base : Heap} (T : Txt K mg) : ∃ fd, FnOk P w K mg base (L2.CX P w) 1 (He.ga K "_law_common") fd ["one", "other"] (spCom) ∧ Binds K fd ["one", "other"] [] := by
  obtain ⟨fd, F⟩ := T.d__law_common
  refine ⟨fd, F.ok sc__law_common sp2_len (fun cdv A outer s H vs Q E hr h => ?_), F.bindsN fun _ _ _ _ _ _ us hl => match us, hl with | [_, _], _ => rfl⟩
  obtain ⟨a0, b0, rfl, t, w1, p1, u1, t', w2, p2, u2, rfl, rfl, h1, h2, k⟩ := sp2_is h
  refine ⟨_, (pss_cons (ps_if (PW.pt (pw_and (pt_cmpR op_ne (pe_ix ix_tup (pv 0) pe_int (fun _ _ => rfl)) pe_int (nomark _)) (pw_and1 (pt_cmpR op_ne (pe_ix ix_tup (pv 1) pe_int (fun _ _ => rfl)) pe_int (nomark _))))) (pss_one (ps_ret (pe_ifExp (pt_cmpR op_eq (pe_ix ix_tup (pv 0) pe_int (fun _ _ => rfl)) (pe_ix ix_tup (pv 1) pe_int (fun _ _ => rfl)) (nomark _)) (pe_ix ix_tup (pv 0) pe_int (fun _ _ => rfl)) pe_non))) pss_nil)
      (pss_one (ps_ret (pe_ifExp (PW.pt (pw_and (pt_cmpR op_eq (pe_ix ix_tup (pv 0) pe_int (fun _ _ => rfl)) pe_int (nomark _)) (pw_and1 (pt_cmpR op_ne (pe_ix ix_tup (pv 1) pe_int (fun _ _ => rfl)) pe_int (nomark _))))) (pe_ix ix_tup (pv 1) pe_int (fun _ _ => rfl)) (pe_ix ix_tup (pv 0) pe_int (fun _ _ => rfl)))))), ?_⟩
  unfold T3 at h1 h2
  walk_at "rd"
  refine r_ixT h1 (v := .int p1) rfl ?_
  walk_at "rd"
  have last : ¬ (p1 ≠ 0 ∧ p2 ≠ 0) → Q (if p1 = 0 ∧ p2 ≠ 0 then .int u2 else .int u1) H := fun n => by
    have e : oV (cmu p1 u1 p2 u2) = if p1 = 0 ∧ p2 ≠ 0 then .int u2 else .int u1 := by
      unfold cmu
      rw [if_neg (fun z => n z.2)]
      show V.int _ = _
      by_cases c : p2 = 0
      · rw [if_pos c, if_neg (fun z => z.2 c)]
      · rw [if_neg c, if_pos ⟨by omega, c⟩]
    rw [← e]
    exact k
  have fin : ¬ (p1 ≠ 0 ∧ p2 ≠ 0) → (tRet (tIf (tAnd (tTest (tOp rEq (tOp (rIxT K) (tVar 0) (tC (.int 1))) (tC (.int 0)))) (tTest (tOp rNe (tOp (rIxT K) (tVar 1) (tC (.int 1))) (tC (.int 0))))) (tOp (rIxT K) (tVar 1) (tC (.int 2))) (tOp (rIxT K) (tVar 0) (tC (.int 2))))) { nx := fun _ H' => Q V.non H', rt := Q } [some (.ref t), some (.ref t')] H := fun n => by
    have l := last n
    walk_at "rd"
    refine r_ixT h1 (v := .int p1) rfl ?_
    walk_at "rd"
    by_cases c1 : p1 = 0
    · refine ite_t (by simp [c1]) ?_
      walk_at "rd"
      refine r_ixT h2 (v := .int p2) rfl ?_
      walk_at "rd"
      by_cases c2 : p2 = 0
      · refine ite_f (by simp [c2]) ?_
        rw [if_neg (fun z => z.2 c2)] at l
        walk_at "rd"
        exact r_ixT h1 (v := .int u1) rfl l
      · refine ite_t (by simp [c2]) ?_
        rw [if_pos ⟨c1, c2⟩] at l
        walk_at "rd"
        exact r_ixT h2 (v := .int u2) rfl l
    · refine ite_f (by simp [c1]) ?_
      refine ite_f rfl ?_
      rw [if_neg (fun z => c1 z.1)] at l
      walk_at "rd"
      exact r_ixT h1 (v := .int u1) rfl l
  by_cases c1 : p1 = 0
  · exact ite_f (by simp [c1]) (ite_f rfl (fin fun z => z.1 c1))
  · refine ite_t (by simp [c1]) ?_
    walk_at "rd"
    refine r_ixT h2 (v := .int p2) rfl ?_
    walk_at "rd"
    by_cases c2 : p2 = 0
    · exact ite_f (by simp [c2]) (fin fun z => z.2 c2)
    · refine ite_t (by simp [c2]) ?_
      walk_at "rd"
      refine r_ixT h1 (v := .int u1) rfl ?_
      walk_at "rd"
      refine r_ixT h2 (v := .int u2) rfl ?_
      walk_at "rd"
      by_cases c3 : u1 = u2
      · refine ite_t (by simp [c3]) ?_
        walk_at "rd"
        refine r_ixT h1 (v := .int u1) rfl ?_
        have e : cmu p1 u1 p2 u2 = some u1 := by
          unfold cmu
          rw [if_neg (fun z => z.1 c3), if_neg c2, c3]
        rw [e] at k
        exact k
      · refine ite_f (by simp [c3]) ?_
        walk_at "rd"
        have e : cmu p1 u1 p2 u2 = none := by
          unfold cmu
          rw [if_pos ⟨c3, c1, c2⟩]
        rw [e] at k
        exact k
def spIs (K : PySem.W.Frag) : Sp := sp2 fun b t H Q _ => ∃ a w p u t' w' p' u', b = .ref a ∧ Bd K H a w p u ∧ t = .ref t' ∧ T3 H t' w' p' u' ∧ ∀ H', Ex H H' → Q (.bl (decide (w = w' ∧ p = p' ∧ u = u'))) H'
theorem ok__law_is {P : Program} {w : World} {K : PySem.W.Frag} {mg : Str → Option Value} {base : Heap} (T : Txt K mg) : ∃ fd, FnOk P w K mg base (L2.CX P w) 1 (He.ga K "_law_is") fd ["bound", "told"] (spIs K) ∧ Binds K fd ["bound", "told"] [] := by
  obtain ⟨fd, F⟩ := T.d__law_is
  refine ⟨fd, F.ok sc__law_is sp2_len (fun cdv A outer s H vs Q E hr h => ?_), F.bindsN fun _ _ _ _ _ _ us hl => match us, hl with | [_, _], _ => rfl⟩
  obtain ⟨b0, t0, rfl, a, w1, p1, u1, t', w2, p2, u2, rfl, hb, rfl, ht, k⟩ := sp2_is h
  refine ⟨_, (pss_cons (ps_if (PW.pt (pw_or (pt_not (pt_val (pe_callB (cr_isi rfl) (by rfl) T.b_isinstance (by decide +kernel) (pa_cons (pv 0) (pa_cons (pe_glob (v := .ref (He.ga K "Bound")) rfl T.g_Bound rfl) pa_nil))))) (pw_or1 (pt_cmpR (op_neD hr.units) (pe_lc (own := [("part", 2)]) (g := gName 2)  rfl sc__law_is.nd (pi_tup (pe_tup (pa_cons (pe_fld (pv 0) rfl) (pa_cons (pe_fld (pv 0) rfl) (pa_cons (pe_fld (pv 0) rfl) pa_nil))))) (blkOk_by (own := [("part", 2)]) (N := ["bound", "told", "part"]) (sc := defScope s__law_is) (by decide +kernel)) (fun _ _ _ _ _ => (pg_name (i := 2) sc__law_is.nd rfl (Or.inl rfl))) (fun _ _ _ _ _ => (pts_one (PW.pt (pw_or (pt_val (pe_callB (cr_isi rfl) (by rfl) T.b_isinstance (by decide +kernel) (pa_cons (pv 2) (pa_cons (pe_bltn (v := .ty "bool") (by rfl) T.b_bool (by decide +kernel) rfl) pa_nil)))) (pw_or1 (pt_not (pt_val (pe_callB (cr_isi rfl) (by rfl) T.b_isinstance (by decide +kernel) (pa_cons (pv 2) (pa_cons (pe_bltn (v := .ty "int") (by rfl) T.b_int (by decide +kernel) rfl) pa_nil)))))))))) (fun _ _ _ _ _ => (pv 2))) (pe_lst pa_nil) (nomark _))))) (pss_one (ps_ret pe_bl)) pss_nil)
      (pss_one (ps_ret (pe_cmpR (op_eqD hr.units) (pe_tup (pa_cons (pe_fld (pv 0) rfl) (pa_cons (pe_fld (pv 0) rfl) (pa_cons (pe_fld (pv 0) rfl) pa_nil)))) (pv 1) (nomark _))))), ?_⟩
  walk_at "rd"
  refine ⟨_, _, _, _, true, rfl, .own _, ty_bd T hb, T.cc_Bound.me, ?_⟩
  walk_at "rd"
  refine ite_f rfl ?_
  walk_at "rd"
  refine r_fw T hb ?_
  walk_at "rd"
  refine r_fp T hb ?_
  walk_at "rd"
  refine r_fu T hb ?_
  walk_at "rd"
  refine r_newT (sz_le (by simp)) fun q H1 hq e1 hq1 => ?_
  refine ⟨q, rfl, ⟨_, SqT.of hq1⟩, ?_⟩
  refine r_lcF (n := 3) (k := 2) (walk_tup (xs := [.int w1, .int p1, .int u1])) (fun _ => false) (fun _ => .non) (by decide) (fun H' e => e.sqt (SqT.of hq1)) (fun _ => rfl) ?_ (fun _ _ _ _ z => by cases z) ?_
  · rintro j y H0 H' hj e0 ⟨rfl, hy⟩
    refine ⟨Ex.refl _, fun R r => ?_⟩
    have : ∃ i, y = .int i := by
      match j, hj with
      | 0, _ => exact ⟨w1, (Option.some.inj hy).symm⟩
      | 1, _ => exact ⟨p1, (Option.some.inj hy).symm⟩
      | 2, _ => exact ⟨u1, (Option.some.inj hy).symm⟩
    obtain ⟨i, rfl⟩ := this
    walk_at "rd"
    refine ⟨_, _, _, _, false, rfl, .ty "bool", .base (.int _), kit_ty (by decide +kernel), ?_⟩
    walk_at "rd"
    refine ite_f rfl ?_
    walk_at "rd"
    refine ⟨_, _, _, _, true, rfl, .ty "int", .base (.int _), kit_ty (by decide +kernel), ?_⟩
    walk_at "rd"
    exact r _ (Ex.refl _)
  · intro D H2 hD e2 hl
    walk_at "rd"
    refine r_newL (sz_le (by simp)) fun q2 H3 hq2 e3 h3 => ?_
    have hl' : H2 D = some (.lst (([] : List Int).map V.int)) := hl
    refine r_neInts (xs := []) (ys := []) (e3 _ _ hl') h3 ?_
    walk_at "rd"
    refine ite_f rfl ?_
    have e03 : Ex H H3 := (e1.trans e2).trans e3
    have hb3 := hb.ex e03
    walk_at "rd"
    refine r_fw T hb3 ?_
    walk_at "rd"
    refine r_fp T hb3 ?_
    walk_at "rd"
    refine r_fu T hb3 ?_
    walk_at "rd"
    refine r_newT (sz_le (by simp)) fun q4 H4 hq4 e4 h4 => ?_
    walk_at "rd"
    refine r_eqInts (xs := [w1, p1, u1]) (ys := [w2, p2, u2]) h4 (e4 _ _ (e03 _ _ ht)) ?_
    have e : decide ([w1, p1, u1] = [w2, p2, u2]) = decide (w1 = w2 ∧ p1 = p2 ∧ u1 = u2) := by simp
    rw [e]
    exact k H4 (e03.trans e4)

end K03
namespace K03
open PySem PySem.Spec PyProof.Rows L2 GS TL
local macro_rules | `(tactic| walk_at "rd") => `(tactic| (repeat (first
  | with_reducible refine r_next ?_
  | with_reducible refine r_seq ?_
  | with_reducible refine r_ret ?_
  | with_reducible refine r_ifS ?_
  | with_reducible refine r_asg ?_
  | with_reducible refine r_drop ?_
  | with_reducible refine r_op ?_
  | with_reducible refine r_un ?_
  | with_reducible refine r_cbInt ?_
  | with_reducible refine r_cbAbs ?_
  | with_reducible refine r_cbLen ?_
  | with_reducible refine r_cb ?_
  | with_reducible refine r_call ?_
  | with_reducible refine r_make ?_
  | with_reducible refine r_callN0 ?_
  | with_reducible refine r_makeK0 ?_
  | with_reducible refine r_makeS ?_
  | with_reducible refine r_callS ?_
  | with_reducible refine r_cons ?_
  | with_reducible refine r_nil ?_
  | with_reducible refine r_test ?_
  | with_reducible refine r_B ?_
  | with_reducible refine r_and ?_
  | with_reducible refine r_or ?_
  | with_reducible refine r_not ?_
  | with_reducible refine r_andV ?_
  | with_reducible refine r_orV ?_
  | with_reducible refine r_notV ?_
  | with_reducible refine r_if ?_
  | with_reducible refine r_tup ?_
  | with_reducible refine r_lst ?_
  | with_reducible refine r_c ?_
  | with_reducible refine r_lc ?_
  | with_reducible refine r_chain ?_
  | with_reducible refine r_iT ?_
  | with_reducible refine r_iL ?_
  | with_reducible refine r_iR1 ?_
  | with_reducible refine r_asgG ?_
  | with_reducible refine r_gSub ?_
  | with_reducible refine r_par ?_
  | with_reducible refine r_parK ?_
  | with_reducible refine r_gCons ?_
  | with_reducible refine r_gNil ?_
  | with_reducible refine r_gName ?_
  | with_reducible refine r_intI ?_
  | with_reducible refine r_intB ?_
  | with_reducible refine r_absI ?_
  | with_reducible refine r_k ?_
  | with_reducible refine r_kV ?_
  | ((with_reducible show tVar _ _ _ _); refine r_var3 ?_ (by rfl))
  | with_reducible refine r_I0 ?_
  | with_reducible refine r_U ?_
  | with_reducible refine r_eqI ?_
  | with_reducible refine r_neI ?_
  | dsimp only)))
local macro_rules | `(tactic| walk_at "rx") => `(tactic| (repeat (first
  | with_reducible refine r_next ?_
  | with_reducible refine r_ret ?_
  | with_reducible refine r_ifS ?_
  | with_reducible refine r_asg ?_
  | with_reducible refine r_drop ?_
  | with_reducible refine r_op ?_
  | with_reducible refine r_un ?_
  | with_reducible refine r_cbInt ?_
  | with_reducible refine r_cbAbs ?_
  | with_reducible refine r_cbLen ?_
  | with_reducible refine r_cb ?_
  | with_reducible refine r_call ?_
  | with_reducible refine r_make ?_
  | with_reducible refine r_callN0 ?_
  | with_reducible refine r_makeK0 ?_
  | with_reducible refine r_makeS ?_
  | with_reducible refine r_callS ?_
  | with_reducible refine r_cons ?_
  | with_reducible refine r_nil ?_
  | with_reducible refine r_test ?_
  | with_reducible refine r_B ?_
  | with_reducible refine r_and ?_
  | with_reducible refine r_or ?_
  | with_reducible refine r_not ?_
  | with_reducible refine r_andV ?_
  | with_reducible refine r_orV ?_
  | with_reducible refine r_notV ?_
  | with_reducible refine r_if ?_
  | with_reducible refine r_tup ?_
  | with_reducible refine r_lst ?_
  | with_reducible refine r_c ?_
  | with_reducible refine r_lc ?_
  | with_reducible refine r_chain ?_
  | with_reducible refine r_iT ?_
  | with_reducible refine r_iL ?_
  | with_reducible refine r_iR1 ?_
  | with_reducible refine r_asgG ?_
  | with_reducible refine r_gSub ?_
  | with_reducible refine r_par ?_
  | with_reducible refine r_parK ?_
  | with_reducible refine r_gCons ?_
  | with_reducible refine r_gNil ?_
  | with_reducible refine r_gName ?_
  | with_reducible refine r_intI ?_
  | with_reducible refine r_intB ?_
  | with_reducible refine r_absI ?_
  | with_reducible refine r_k ?_
  | with_reducible refine r_kV ?_
  | ((with_reducible show tVar _ _ _ _); refine r_var3 ?_ (by rfl))
  | with_reducible refine r_I0 ?_
  | with_reducible refine r_U ?_
  | with_reducible refine r_eqI ?_
  | with_reducible refine r_neI ?_
  | dsimp only)))
/-! ### what is raised, told -/
def Res (a b : Str) (H : Hp) (Q : VK) : Prop := ∀ t H', Ex H H' → H' t = some (.tup [.str a, .str b]) → Q (.ref t) H'
def spDone (K : PySem.W.Frag) : Sp := sp3 fun way one other H Q _ => (∃ i, way = .int i) ∧ ((Kt K H one ∧ Res "badbound" "one" H Q) ∨ ∃ p w1 p1 u1, one = .ref p ∧ Bd K H p w1 p1 u1 ∧ ((Kt K H other ∧ Res "badbound" "other" H Q) ∨ ∃ q w2 p2 u2, other = .ref q ∧ Bd K H q w2 p2 u2 ∧ cmu p1 u1 p2 u2 = none ∧ Res "misfit" "under" H Q))
theorem two_of {K : PySem.W.Frag} {R : Int → Int → Int → Int → Int → Hp → VK → Prop} {one other : V} {H : Hp} {Q : VK} {E : XK} (h : (Kt K H one ∧ Raised K "BadBound" "part" (.str "one") H E) ∨ ∃ p w1 p1 u1, one = .ref p ∧ Bd K H p w1 p1 u1 ∧ ((Kt K H other ∧ Raised K "BadBound" "part" (.str "other") H E) ∨ ∃ q w2 p2 u2, other = .ref q ∧ Bd K H q w2 p2 u2 ∧ cmu p1 u1 p2 u2 = none ∧ Raised K "Misfit" "part" (.str "under") H E)) : spTwo K R [one, other] H Q E := by
  rcases h with h | ⟨p, w1, p1, u1, rfl, h1, h | ⟨q, w2, p2, u2, rfl, h2, hn, h⟩⟩
  · exact .inl h
  · exact .inr ⟨p, w1, p1, u1, rfl, h1, .inl h⟩
  · exact .inr ⟨p, w1, p1, u1, rfl, h1, .inr ⟨q, w2, p2, u2, rfl, h2, fun c hc => (by rw [hn] at hc; cases hc), fun _ => h⟩⟩
theorem ok__law_done {P : Program} {w : World} {K : PySem.W.Frag} {mg : Str → Option Value} {base : Heap} (T : Txt K mg) : ∃ fd, FnOk P w K mg base (L2.CX P w) 7 (He.ga K "_law_done") fd ["way", "one", "other"] (spDone K) ∧ Binds K fd ["way", "one", "other"] [] := by
  obtain ⟨fd, F⟩ := T.d__law_done
  obtain ⟨fd_at_most, F_at_most, B_at_most, kb_at_most_0⟩ := ok_at_most (P := P) (w := w) (base := base) T
  obtain ⟨fd_multiplied, F_multiplied, B_multiplied, kb_multiplied_0⟩ := ok_multiplied (P := P) (w := w) (base := base) T
  obtain ⟨fd_added, F_added, B_added, kb_added_0⟩ := ok_added (P := P) (w := w) (base := base) T
  refine ⟨fd, F.ok sc__law_done sp3_len (fun cdv A outer s H vs Q E hr h => ?_), F.bindsN fun _ _ _ _ _ _ us hl => match us, hl with | [_, _, _], _ => rfl⟩
  have hr_at_most : Room 6 _ := hr.mono (by decide)
  have hr_multiplied : Room 6 _ := hr.mono (by decide)
  have hr_added : Room 6 _ := hr.mono (by decide)
  obtain ⟨way, one, other, rfl, ⟨i, rfl⟩, h3⟩ := sp3_is h
  refine ⟨_, (pss_one (ps_try_cls (Wout := fun _ _ _ _ => False) rfl rfl takes0 (fun W pn xe tk po => (pss_cons (ps_if (pt_cmpR op_eq (pv 0) pe_int (nomark _)) (pss_one (ps_ret (pe_callS F_added hr_added (by rfl) T.g_added T.k_added B_added (fun σ => passAt tk σ) (pa_cons (pv 1) (pa_cons (pv 2) pa_nil))))) pss_nil)
      (pss_cons (ps_if (pt_cmpR op_eq (pv 0) pe_int (nomark _)) (pss_one (ps_ret (pe_callS F_multiplied hr_multiplied (by rfl) T.g_multiplied T.k_multiplied B_multiplied (fun σ => passAt tk σ) (pa_cons (pv 1) (pa_cons (pv 2) pa_nil))))) pss_nil)
      (pss_one (ps_ret (pe_callS F_at_most hr_at_most (by rfl) T.g_at_most T.k_at_most B_at_most (fun σ => passAt tk σ) (pa_cons (pv 1) (pa_cons (pv 2) pa_nil)))))))) (ClsOk.cons (ClOk.as (i := 3) ⟨rfl, by decide, Or.inl T.g_BadBound⟩ sc__law_done.nd rfl rfl (fun a oe cls d pn hz hf => (pss_one (ps_ret (pe_tup (pa_cons pe_str (pa_cons (pe_xf T.e_BadBound.xf (T.e_BadBound.no_ "part" (by simp)) hz hf (pv 3)) pa_nil))))))) (ClsOk.cons (ClOk.as (i := 3) ⟨rfl, by decide, Or.inl T.g_Misfit⟩ sc__law_done.nd rfl rfl (fun a oe cls d pn hz hf => (pss_one (ps_ret (pe_tup (pa_cons pe_str (pa_cons (pe_xf T.e_Misfit.xf (T.e_Misfit.no_ "part" (by simp)) hz hf (pv 3)) pa_nil))))))) (ClsOk.cons (ClOk.bare ⟨rfl, by decide, Or.inl T.g_SignsError⟩ (fun a oe cls d pn hz hf => (pss_one (ps_ret (pe_tup (pa_cons pe_str pa_nil)))))) ClsOk.nil))))), ?_⟩
  have all : ∀ (E' : XK), (∀ z : Str, Res "badbound" z H Q → Raised K "BadBound" "part" (.str z) H E') → (∀ z : Str, Res "misfit" z H Q → Raised K "Misfit" "part" (.str z) H E') → (Kt K H one ∧ Raised K "BadBound" "part" (.str "one") H E') ∨ ∃ p w1 p1 u1, one = .ref p ∧ Bd K H p w1 p1 u1 ∧ ((Kt K H other ∧ Raised K "BadBound" "part" (.str "other") H E') ∨ ∃ q w2 p2 u2, other = .ref q ∧ Bd K H q w2 p2 u2 ∧ cmu p1 u1 p2 u2 = none ∧ Raised K "Misfit" "part" (.str "under") H E') := by
    intro E' f g
    rcases h3 with ⟨h1, k⟩ | ⟨p, w1, p1, u1, rfl, h1, ⟨h2, k⟩ | ⟨q, w2, p2, u2, rfl, h2, hn, k⟩⟩
    · exact .inl ⟨h1, f _ k⟩
    · exact .inr ⟨p, w1, p1, u1, rfl, h1, .inl ⟨h2, f _ k⟩⟩
    · exact .inr ⟨p, w1, p1, u1, rfl, h1, .inr ⟨q, w2, p2, u2, rfl, h2, hn, g _ k⟩⟩
  walk_at "rd"
  refine ite_b (fun _ => ?_) fun _ => ?_
  · walk_at "rd"
    refine two_of (all _ (fun z k d H' e hd => ?_) fun z k d H' e hd => ?_)
    · refine r_cl1 (T.e_BadBound.y "BadBound" (by simp)) fun a ha => r_wAs ?_
      walk_at "rd"
      refine ⟨_, rfl, rfl, rfl, d, _, _, rfl, hd, rfl, ?_⟩
      walk_at "rd"
      exact r_newT (sz_le (by simp)) fun t H2 _ e2 h2 => k t H2 (e.trans e2) h2
    · refine r_cl0 (T.e_Misfit.n "BadBound" (by simp)) (r_cl1 (T.e_Misfit.y "Misfit" (by simp)) fun a ha => r_wAs ?_)
      walk_at "rd"
      refine ⟨_, rfl, rfl, rfl, d, _, _, rfl, hd, rfl, ?_⟩
      walk_at "rd"
      exact r_newT (sz_le (by simp)) fun t H2 _ e2 h2 => k t H2 (e.trans e2) h2
  walk_at "rd"
  refine ite_b (fun _ => ?_) fun _ => ?_
  · walk_at "rd"
    refine two_of (all _ (fun z k d H' e hd => ?_) fun z k d H' e hd => ?_)
    · refine r_cl1 (T.e_BadBound.y "BadBound" (by simp)) fun a ha => r_wAs ?_
      walk_at "rd"
      refine ⟨_, rfl, rfl, rfl, d, _, _, rfl, hd, rfl, ?_⟩
      walk_at "rd"
      exact r_newT (sz_le (by simp)) fun t H2 _ e2 h2 => k t H2 (e.trans e2) h2
    · refine r_cl0 (T.e_Misfit.n "BadBound" (by simp)) (r_cl1 (T.e_Misfit.y "Misfit" (by simp)) fun a ha => r_wAs ?_)
      walk_at "rd"
      refine ⟨_, rfl, rfl, rfl, d, _, _, rfl, hd, rfl, ?_⟩
      walk_at "rd"
      exact r_newT (sz_le (by simp)) fun t H2 _ e2 h2 => k t H2 (e.trans e2) h2
  walk_at "rd"
  refine two_of (all _ (fun z k d H' e hd => ?_) fun z k d H' e hd => ?_)
  · refine r_cl1 (T.e_BadBound.y "BadBound" (by simp)) fun a ha => r_wAs ?_
    walk_at "rd"
    refine ⟨_, rfl, rfl, rfl, d, _, _, rfl, hd, rfl, ?_⟩
    walk_at "rd"
    exact r_newT (sz_le (by simp)) fun t H2 _ e2 h2 => k t H2 (e.trans e2) h2
  · refine r_cl0 (T.e_Misfit.n "BadBound" (by simp)) (r_cl1 (T.e_Misfit.y "Misfit" (by simp)) fun a ha => r_wAs ?_)
    walk_at "rd"
    refine ⟨_, rfl, rfl, rfl, d, _, _, rfl, hd, rfl, ?_⟩
    walk_at "rd"
    exact r_newT (sz_le (by simp)) fun t H2 _ e2 h2 => k t H2 (e.trans e2) h2
/-- the first that is refused when a Bound is made -/
def spMade (K : PySem.W.Frag) : Sp := sp3 fun x y z H Q _ => ∃ word : Str, ((isI x = false ∧ Kn K H x ∧ word = "whole") ∨ (isI x = true ∧ isI y = false ∧ Kn K H y ∧ word = "part") ∨ (isI x = true ∧ isI y = true ∧ inB z (some 0) none = false ∧ Kn K H z ∧ word = "under")) ∧ Res "number" word H Q
theorem ok__law_made {P : Program} {w : World} {K : PySem.W.Frag} {mg : Str → Option Value} {base : Heap} (T : Txt K mg) : ∃ fd, FnOk P w K mg base (L2.CX P w) 6 (He.ga K "_law_made") fd ["whole", "part", "under"] (spMade K) ∧ Binds K fd ["whole", "part", "under"] [] := by
  obtain ⟨fd, F⟩ := T.d__law_made
  obtain ⟨fd_Bound_init, F_Bound_init, B_Bound_init, kb_Bound_init_0⟩ := ok_Bound_init (P := P) (w := w) (base := base) T
  refine ⟨fd, F.ok sc__law_made sp3_len (fun cdv A outer s H vs Q E hr h => ?_), F.bindsN fun _ _ _ _ _ _ us hl => match us, hl with | [_, _, _], _ => rfl⟩
  have hr_Bound_init : Room 5 _ := hr.mono (by decide)
  obtain ⟨x, y, z, rfl, word, hc, k⟩ := sp3_is h
  refine ⟨_, (pss_cons (ps_try_cls (Wout := fun _ _ _ _ => False) rfl rfl takes0 (fun W pn xe tk po => (pss_one (ps_expr (pe_makeS T.mk_Bound F_Bound_init hr_Bound_init (by rfl) T.g_Bound B_Bound_init (fun σ => passAt tk σ) (pa_cons (pv 0) (pa_cons (pv 1) (pa_cons (pv 2) pa_nil))))))) (ClsOk.cons (ClOk.as (i := 3) ⟨rfl, by decide, Or.inl T.g_BadNumber⟩ sc__law_made.nd rfl rfl (fun a oe cls d pn hz hf => (pss_one (ps_ret (pe_tup (pa_cons pe_str (pa_cons (pe_xf T.e_BadNumber.xf (T.e_BadNumber.no_ "part" (by simp)) hz hf (pv 3)) pa_nil))))))) (ClsOk.cons (ClOk.bare ⟨rfl, by decide, Or.inl T.g_SignsError⟩ (fun a oe cls d pn hz hf => (pss_one (ps_ret (pe_tup (pa_cons pe_str pa_nil)))))) ClsOk.nil)))
      (pss_one (ps_ret (pe_tup (pa_cons pe_str pa_nil))))), ?_⟩
  refine r_seq (r_drop ?_)
  walk_at "rd"
  intro p dx hp hd hn
  refine ⟨p, dx, rfl, upd_same, ?_⟩
  have e0 : ∀ {o u : HO}, Ex H (upd (upd H dx o) p u) := put_own hp hd
  have fin : ∀ (E' : XK), (∀ d H', Ex H H' → H' d = some (.xd [(("part" : Str), .str word)]) → E' (.ref (He.ga K "BadNumber")) (some d) H') → RaisedB K p word (upd (upd H dx (.own p)) p (.ins (He.ga K "Bound") dx [])) E' := fun E' f d H' e hd => f d H' (bu_ex e0 hp e) hd
  have ends : ∀ d H', Ex H H' → H' d = some (.xd [(("part" : Str), .str word)]) → wCls K (fun _ _ _ _ => False) { nx := tRet (tTup (tCons (tC (.str "none")) tNil)) { nx := fun _ H' => Q .non H', rt := Q }, rt := Q }
      [(.ref (He.ga K "BadNumber"), some 3, fun a cls d => tRet (tTup (tCons (tC (.str "number")) (tCons (tXf a cls d (He.ga K "BadNumber") "part" (tVar 3)) tNil)))), (.ref (He.ga K "SignsError"), none, fun a cls d => tRet (tTup (tCons (tC (.str "another")) tNil)))]
      (.ref (He.ga K "BadNumber")) (some d) [some x, some y, some z, none] H' := by
    intro d H' e hd
    refine r_cl1 (T.e_BadNumber.y "BadNumber" (by simp)) fun a ha => r_wAs ?_
    walk_at "rd"
    refine ⟨_, rfl, rfl, rfl, d, _, _, rfl, hd, rfl, ?_⟩
    walk_at "rd"
    exact r_newT (sz_le (by simp)) fun t H2 _ e2 h2 => k t H2 (e.trans e2) h2
  have g := fin (WE (wCls K (fun _ _ _ _ => False) { nx := tRet (tTup (tCons (tC (.str "none")) tNil)) { nx := fun _ H' => Q .non H', rt := Q }, rt := Q } [(.ref (He.ga K "BadNumber"), some 3, fun a cls d => tRet (tTup (tCons (tC (.str "number")) (tCons (tXf a cls d (He.ga K "BadNumber") "part" (tVar 3)) tNil)))), (.ref (He.ga K "SignsError"), none, fun a cls d => tRet (tTup (tCons (tC (.str "another")) tNil)))]) [some x, some y, some z, none]) ends
  rcases hc with ⟨c1, c2, rfl⟩ | ⟨c1, c2, c3, rfl⟩ | ⟨c1, c2, c3, c4, rfl⟩
  · refine ⟨fun _ => ⟨c2.ex e0, g⟩, (fun z => by rw [c1] at z; cases z), (fun z => by rw [c1] at z; cases z), fun i j m e => by rw [e] at c1; cases c1⟩
  · refine ⟨(fun z => by rw [c1] at z; cases z), fun _ _ => ⟨c3.ex e0, g⟩, (fun _ z => by rw [c2] at z; cases z), fun i j m _ e => by rw [e] at c2; cases c2⟩
  · refine ⟨(fun z => by rw [c1] at z; cases z), (fun _ z => by rw [c2] at z; cases z), fun _ _ _ => ⟨c4.ex e0, g⟩, fun i j m _ _ e hm => ?_⟩
    rw [e] at c3
    simp [inB, loB, upB] at c3
    omega

end K03
namespace K03
open PySem PySem.Spec PyProof.Rows L2 GS TL
local macro_rules | `(tactic| walk_at "rd") => `(tactic| (repeat (first
  | with_reducible refine r_next ?_
  | with_reducible refine r_seq ?_
  | with_reducible refine r_ret ?_
  | with_reducible refine r_ifS ?_
  | with_reducible refine r_asg ?_
  | with_reducible refine r_drop ?_
  | with_reducible refine r_op ?_
  | with_reducible refine r_un ?_
  | with_reducible refine r_cbInt ?_
  | with_reducible refine r_cbAbs ?_
  | with_reducible refine r_cbLen ?_
  | with_reducible refine r_cb ?_
  | with_reducible refine r_call ?_
  | with_reducible refine r_make ?_
  | with_reducible refine r_callN0 ?_
  | with_reducible refine r_makeK0 ?_
  | with_reducible refine r_makeS ?_
  | with_reducible refine r_callS ?_
  | with_reducible refine r_cons ?_
  | with_reducible refine r_nil ?_
  | with_reducible refine r_test ?_
  | with_reducible refine r_B ?_
  | with_reducible refine r_and ?_
  | with_reducible refine r_or ?_
  | with_reducible refine r_not ?_
  | with_reducible refine r_andV ?_
  | with_reducible refine r_orV ?_
  | with_reducible refine r_notV ?_
  | with_reducible refine r_if ?_
  | with_reducible refine r_tup ?_
  | with_reducible refine r_lst ?_
  | with_reducible refine r_c ?_
  | with_reducible refine r_lc ?_
  | with_reducible refine r_chain ?_
  | with_reducible refine r_iT ?_
  | with_reducible refine r_iL ?_
  | with_reducible refine r_iR1 ?_
  | with_reducible refine r_asgG ?_
  | with_reducible refine r_gSub ?_
  | with_reducible refine r_smeth ?_
  | with_reducible refine r_par ?_
  | with_reducible refine r_parK ?_
  | with_reducible refine r_gCons ?_
  | with_reducible refine r_gNil ?_
  | with_reducible refine r_gName ?_
  | with_reducible refine r_intI ?_
  | with_reducible refine r_intB ?_
  | with_reducible refine r_absI ?_
  | with_reducible refine r_k ?_
  | with_reducible refine r_kV ?_
  | ((with_reducible show tVar _ _ _ _); refine r_var3 ?_ (by rfl))
  | with_reducible refine r_I0 ?_
  | with_reducible refine r_U ?_
  | with_reducible refine r_eqI ?_
  | with_reducible refine r_neI ?_
  | dsimp only)))
local macro_rules | `(tactic| walk_at "rx") => `(tactic| (repeat (first
  | with_reducible refine r_next ?_
  | with_reducible refine r_ret ?_
  | with_reducible refine r_ifS ?_
  | with_reducible refine r_asg ?_
  | with_reducible refine r_drop ?_
  | with_reducible refine r_op ?_
  | with_reducible refine r_un ?_
  | with_reducible refine r_cbInt ?_
  | with_reducible refine r_cbAbs ?_
  | with_reducible refine r_cbLen ?_
  | with_reducible refine r_cb ?_
  | with_reducible refine r_call ?_
  | with_reducible refine r_make ?_
  | with_reducible refine r_callN0 ?_
  | with_reducible refine r_makeK0 ?_
  | with_reducible refine r_makeS ?_
  | with_reducible refine r_callS ?_
  | with_reducible refine r_cons ?_
  | with_reducible refine r_nil ?_
  | with_reducible refine r_test ?_
  | with_reducible refine r_B ?_
  | with_reducible refine r_and ?_
  | with_reducible refine r_or ?_
  | with_reducible refine r_not ?_
  | with_reducible refine r_andV ?_
  | with_reducible refine r_orV ?_
  | with_reducible refine r_notV ?_
  | with_reducible refine r_if ?_
  | with_reducible refine r_tup ?_
  | with_reducible refine r_lst ?_
  | with_reducible refine r_c ?_
  | with_reducible refine r_lc ?_
  | with_reducible refine r_chain ?_
  | with_reducible refine r_iT ?_
  | with_reducible refine r_iL ?_
  | with_reducible refine r_iR1 ?_
  | with_reducible refine r_asgG ?_
  | with_reducible refine r_gSub ?_
  | with_reducible refine r_smeth ?_
  | with_reducible refine r_par ?_
  | with_reducible refine r_parK ?_
  | with_reducible refine r_gCons ?_
  | with_reducible refine r_gNil ?_
  | with_reducible refine r_gName ?_
  | with_reducible refine r_intI ?_
  | with_reducible refine r_intB ?_
  | with_reducible refine r_absI ?_
  | with_reducible refine r_k ?_
  | with_reducible refine r_kV ?_
  | ((with_reducible show tVar _ _ _ _); refine r_var3 ?_ (by rfl))
  | with_reducible refine r_I0 ?_
  | with_reducible refine r_U ?_
  | with_reducible refine r_eqI ?_
  | with_reducible refine r_neI ?_
  | dsimp only)))
/-! ### one bound -/
section
variable {K : PySem.W.Frag} {mg : Str → Option Value} {H : Hp} {Q : VK} {E : XK} {a b t : Addr} {w1 p1 u1 w2 p2 u2 : Int} {v : V}
theorem r_eqB (T : Txt K mg) (hp : Bd K H a w1 p1 u1) (hq : Bd K H b w2 p2 u2) (k : Q (.bl (decide (w1 = w2 ∧ p1 = p2 ∧ u1 = u2))) H) : rEqOwn K (He.ga K "Bound") (spBEq K) E (.ref a) (.ref b) H Q := by
  obtain ⟨dx, h⟩ := hp.2
  exact ⟨a, dx, _, _, rfl, h, ty_bd T hq, T.cc_Bound.nf, a, w1, p1, u1, rfl, hp, .inl ⟨b, w2, p2, u2, rfl, hq, k⟩⟩
theorem r_eqT (T : Txt K mg) (hp : Bd K H a w1 p1 u1) (hv : Kt K H v) (k : Q (.bl false) H) : rEqOwn K (He.ga K "Bound") (spBEq K) E (.ref a) v H Q := by
  obtain ⟨dx, h⟩ := hp.2
  obtain ⟨T1, h1, h2⟩ := hv
  exact ⟨a, dx, _, _, rfl, h, .base h2, (T.cc_Bound.ty T1 h1).2.2, a, w1, p1, u1, rfl, hp, .inr ⟨⟨T1, h1, h2⟩, k⟩⟩
theorem r_neB (T : Txt K mg) (hp : Bd K H a w1 p1 u1) (hq : Bd K H b w2 p2 u2) (k : Q (.bl (!decide (w1 = w2 ∧ p1 = p2 ∧ u1 = u2))) H) : rNeOwn K (He.ga K "Bound") (spBEq K) E (.ref a) (.ref b) H Q := by
  obtain ⟨dx, h⟩ := hp.2
  exact ⟨a, dx, _, _, rfl, h, ty_bd T hq, T.cc_Bound.nf, a, w1, p1, u1, rfl, hp, .inl ⟨b, w2, p2, u2, rfl, hq, _, rfl, k⟩⟩
theorem r_is (hb : Bd K H a w1 p1 u1) (ht : T3 H t w2 p2 u2) (k : ∀ H', Ex H H' → Q (.bl (decide (w1 = w2 ∧ p1 = p2 ∧ u1 = u2))) H') : spIs K ([.ref a, .ref t] ++ []) H Q E := ⟨a, w1, p1, u1, t, w2, p2, u2, rfl, hb, rfl, ht, k⟩
theorem r_isT (hb : Bd K H a w1 p1 u1) (ht : T3 H t w1 p1 u1) (k : ∀ H', Ex H H' → Q (.bl true) H') : spIs K ([.ref a, .ref t] ++ []) H Q E := r_is hb ht fun H' e => by
  rw [decide_eq_true (show w1 = w1 ∧ p1 = p1 ∧ u1 = u1 from ⟨rfl, rfl, rfl⟩)]
  exact k H' e
theorem z_ten {i : Int} (h : Z 110 i) : i.natAbs < 10 ^ 60 := Nat.lt_of_lt_of_le h (by decide)
theorem r_strB (hb : Bd K H a w1 p1 u1) (z1 : Z 110 w1) (z2 : Z 110 p1) (z3 : Z 110 u1) (k : ∀ H', Ex H H' → Q (.str (bS w1 p1 u1)) H') : rStrOwn (He.ga K "Bound") (spBStr K) E [.ref a] H Q := by
  obtain ⟨dx, h⟩ := hb.2
  exact ⟨a, dx, _, rfl, h, a, w1, p1, u1, rfl, hb, z_ten z1, z_ten z2, z_ten z3, fun H' e => ⟨⟨_, rfl⟩, k H' e⟩⟩
theorem r_read (hu : 0 ≤ u1) (z1 : Z 110 w1) (z2 : Z 110 p1) (z3 : Z 110 u1) (k : ∀ r H', Ex H H' → Bd K H' r w1 p1 u1 → Q (.ref r) H') : spBRead K [.str (bS w1 p1 u1)] H Q E := ⟨w1, p1, u1, rfl, z_ten z1, z_ten z2, z_ten z3, hu, k⟩
theorem r_sg (hb : Bd K H a w1 p1 u1) (z1 : Z 1000 w1) (z2 : Z 1000 p1) (z3 : Z 1000 u1) (k : Q (.int (sgn w1 p1 u1)) H) : spSign K ([.ref a] ++ []) H Q E := .inl ⟨a, w1, p1, u1, rfl, hb, z1, z2, z3, k⟩
theorem r_ls (ht : T3 H t w1 p1 u1) (hu : 0 ≤ u1) (z1 : Z 600 w1) (z2 : Z 600 p1) (z3 : Z 600 u1) (k : ∀ H', Ex H H' → Q (.int (sgn w1 p1 u1)) H') : spLS ([.ref t] ++ []) H Q E := ⟨t, w1, p1, u1, rfl, ht, hu, z1, z2, z3, k⟩
end
theorem Bd.bu {K : PySem.W.Frag} {H H' : Hp} {a b : Addr} {w p u n : Int} (h : Bd K H a w p u) (hb : Bag H b n) (e : Bu b H H') : Bd K H' a w p u := by
  obtain ⟨hu, dx, h⟩ := h
  exact ⟨hu, dx, e _ _ (hb.ne h fun _ _ _ z => by cases z) h⟩
theorem kt_tup {K : PySem.W.Frag} {H : Hp} {a : Addr} {xs : List V} (h : H a = some (.tup xs)) : Kt K H (.ref a) := ⟨"tuple", by decide, .tup h⟩
theorem kt_int {K : PySem.W.Frag} {H : Hp} (i : Int) : Kt K H (.int i) := ⟨"int", by decide, .int i⟩
theorem zng {n : Nat} {i : Int} (h : Z n i) : Z n (-i) := by unfold Z at *; omega
def spOne : Sp := sp2 fun b v H Q _ => ∃ (p : Addr) (n : Int) (t : Addr) (w pt u : Int), b = .ref p ∧ v = .ref t ∧ n ≤ 60000 ∧ Bag H p n ∧ Told 110 H t w pt u ∧ ∀ H', Bu p H H' → Bag H' p (n + 1) → Q (.bl true) H'
theorem ok__law_one_right {P : Program} {w : World} {K : PySem.W.Frag} {mg : Str → Option Value} {base : Heap} (T : Txt K mg) : ∃ fd, FnOk P w K mg base (L2.CX P w) 7 (He.ga K "_law_one_right") fd ["bag", "told"] (spOne) ∧ Binds K fd ["bag", "told"] [] := by
  obtain ⟨fd, F⟩ := T.d__law_one_right
  obtain ⟨fd_Bound_eq, F_Bound_eq, B_Bound_eq⟩ := ok_Bound_eq (P := P) (w := w) (base := base) T
  obtain ⟨fd_Bound_read, F_Bound_read, B_Bound_read⟩ := ok_Bound_read (P := P) (w := w) (base := base) T
  obtain ⟨fd_Bound_str, F_Bound_str, B_Bound_str⟩ := ok_Bound_str (P := P) (w := w) (base := base) T
  obtain ⟨fd_Bound_init, F_Bound_init, B_Bound_init, kb_Bound_init_0⟩ := ok_Bound_init (P := P) (w := w) (base := base) T
  obtain ⟨fd__law_pick, F__law_pick, B__law_pick⟩ := ok__law_pick (P := P) (w := w) (base := base) T
  obtain ⟨fd__law_is, F__law_is, B__law_is⟩ := ok__law_is (P := P) (w := w) (base := base) T
  obtain ⟨fd_sign_of, F_sign_of, B_sign_of, kb_sign_of_0⟩ := ok_sign_of (P := P) (w := w) (base := base) T
  obtain ⟨fd__law_sign, F__law_sign, B__law_sign⟩ := ok__law_sign (P := P) (w := w) (base := base) T
  refine ⟨fd, F.ok sc__law_one_right sp2_len (fun cdv A outer s H vs Q E hr h => ?_), F.bindsN fun _ _ _ _ _ _ us hl => match us, hl with | [_, _], _ => rfl⟩
  have hr_Bound_eq2 : Room 3 _ := hr.mono (by decide)
  have hr_Bound_read : Room 6 _ := hr.mono (by decide)
  have hr_Bound_str : Room 4 _ := hr.mono (by decide)
  have hr_Bound_eq : Room 1 _ := hr.mono (by decide)
  have hr_Bound_init : Room 5 _ := hr.mono (by decide)
  have hr__law_pick : Room 2 _ := hr.mono (by decide)
  have hr__law_is : Room 1 _ := hr.mono (by decide)
  have hr_sign_of : Room 4 _ := hr.mono (by decide)
  have hr__law_sign : Room 3 _ := hr.mono (by decide)
  obtain ⟨b0, v0, rfl, b, n, t, w1, p1, u1, rfl, rfl, hn, hb, ht, k⟩ := sp2_is h
  refine ⟨_, (pss_cons (ps_asg (pv 1) (pg_tup rfl (pgs_cons (pg_name (i := 2) sc__law_one_right.nd rfl (Or.inl rfl)) (pgs_cons (pg_name (i := 3) sc__law_one_right.nd rfl (Or.inl rfl)) (pgs_cons (pg_name (i := 4) sc__law_one_right.nd rfl (Or.inl rfl)) pgs_nil)))))
      (pss_cons (ps_set (i := 5) sc__law_one_right.nd rfl (Or.inl rfl) (pe_make T.mk_Bound F_Bound_init hr_Bound_init (by rfl) T.g_Bound B_Bound_init .nil passL (pa_cons (pv 2) (pa_cons (pv 3) (pa_cons (pv 4) pa_nil)))))
      (pss_cons (ps_if (PW.pt (pw_or (pt_not (pt_val (pe_call F__law_is hr__law_is (by rfl) T.g__law_is T.k__law_is B__law_is .nil passL (pa_cons (pv 5) (pa_cons (pv 1) pa_nil))))) (pw_or1 (pt_not (pt_val (pe_call F__law_is hr__law_is (by rfl) T.g__law_is T.k__law_is B__law_is .nil passL (pa_cons (pe_makeK0 T.mk_Bound F_Bound_init hr_Bound_init (by rfl) T.g_Bound kb_Bound_init_0 passL (pk_cons (pv 4) (pk_cons (pv 2) (pk_cons (pv 3) pk_nil)))) (pa_cons (pv 1) pa_nil)))))))) (pss_one (ps_ret pe_bl)) pss_nil)
      (pss_cons (ps_if (PW.pt (pw_or (pt_cmpR op_ne (pe_call F_sign_of hr_sign_of (by rfl) T.g_sign_of T.k_sign_of B_sign_of .nil passL (pa_cons (pv 5) pa_nil)) (pe_call F__law_sign hr__law_sign (by rfl) T.g__law_sign T.k__law_sign B__law_sign .nil passL (pa_cons (pv 1) pa_nil)) (nomark _)) (pw_or1 (pt_cmpR op_ne (pe_callK0 F_sign_of hr_sign_of (by rfl) T.g_sign_of T.k_sign_of kb_sign_of_0 passL (pk_cons (pe_make T.mk_Bound F_Bound_init hr_Bound_init (by rfl) T.g_Bound B_Bound_init .nil passL (pa_cons (pe_un un_neg (pv 2)) (pa_cons (pe_un un_neg (pv 3)) (pa_cons (pv 4) pa_nil)))) pk_nil)) (pe_un un_neg (pe_call F__law_sign hr__law_sign (by rfl) T.g__law_sign T.k__law_sign B__law_sign .nil passL (pa_cons (pv 1) pa_nil))) (nomark _))))) (pss_one (ps_ret pe_bl)) pss_nil)
      (pss_cons (ps_if (PW.pt (pw_or (pt_cmpR op_ne (pe_callTy (call_strOwn F_Bound_str hr_Bound_str T.me_Bound_str.at_ T.me_Bound_str.fn B_Bound_str passL) (by rfl) T.b_str (by decide +kernel) (pa_cons (pv 5) pa_nil)) (pe_op op_add_str (pe_op op_add_str (pe_op op_add_str (pe_op op_add_str (pe_callTy call_str_int (by rfl) T.b_str (by decide +kernel) (pa_cons (pv 2) pa_nil)) pe_str) (pe_callTy call_str_int (by rfl) T.b_str (by decide +kernel) (pa_cons (pv 3) pa_nil))) pe_str) (pe_callTy call_str_int (by rfl) T.b_str (by decide +kernel) (pa_cons (pv 4) pa_nil))) (nomark _)) (pw_or1 (pt_not (pt_val (pe_call F__law_is hr__law_is (by rfl) T.g__law_is T.k__law_is B__law_is .nil passL (pa_cons (pe_smeth (pe_glob (v := .ref (He.ga K "Bound")) rfl T.g_Bound rfl) T.sm_Bound_read.2.1 T.sm_Bound_read.1 F_Bound_read T.sm_Bound_read.2.2 hr_Bound_read B_Bound_read passL (pa_cons (pe_callTy (call_strOwn F_Bound_str hr_Bound_str T.me_Bound_str.at_ T.me_Bound_str.fn B_Bound_str passL) (by rfl) T.b_str (by decide +kernel) (pa_cons (pv 5) pa_nil)) pa_nil)) (pa_cons (pv 1) pa_nil)))))))) (pss_one (ps_ret pe_bl)) pss_nil)
      (pss_cons (ps_set (i := 6) sc__law_one_right.nd rfl (Or.inl rfl) (pe_call F__law_pick hr__law_pick (by rfl) T.g__law_pick T.k__law_pick B__law_pick .nil passL (pa_cons (pv 0) (pa_cons (pe_lst (pa_cons (pe_tup (pa_cons (pe_op op_add (pv 2) pe_int) (pa_cons (pv 3) (pa_cons (pv 4) pa_nil)))) (pa_cons (pe_tup (pa_cons (pv 2) (pa_cons (pe_op op_sub (pv 3) pe_int) (pa_cons (pv 4) pa_nil)))) (pa_cons (pe_tup (pa_cons (pv 2) (pa_cons (pv 3) (pa_cons (pe_op op_add (pv 4) pe_int) pa_nil)))) (pa_cons (pe_tup (pa_cons (pe_op op_sub (pe_un un_neg (pv 2)) pe_int) (pa_cons (pv 3) (pa_cons (pv 4) pa_nil)))) pa_nil))))) pa_nil))))
      (pss_cons (ps_if (PW.pt (pw_or (pt_cmpR (op_eqOwn F_Bound_eq hr_Bound_eq T.me_Bound_eq.at_ T.me_Bound_eq.fn B_Bound_eq passL) (pe_make T.mk_Bound F_Bound_init hr_Bound_init (by rfl) T.g_Bound B_Bound_init .nil passL (pa_cons (pe_ix ix_tup (pv 6) pe_int (fun _ _ => rfl)) (pa_cons (pe_ix ix_tup (pv 6) pe_int (fun _ _ => rfl)) (pa_cons (pe_ix ix_tup (pv 6) pe_int (fun _ _ => rfl)) pa_nil)))) (pv 5) (nomark _)) (pw_or (pt_not (pt_cmpR (op_eqOwn F_Bound_eq hr_Bound_eq T.me_Bound_eq.at_ T.me_Bound_eq.fn B_Bound_eq passL) (pv 5) (pe_make T.mk_Bound F_Bound_init hr_Bound_init (by rfl) T.g_Bound B_Bound_init .nil passL (pa_cons (pv 2) (pa_cons (pv 3) (pa_cons (pv 4) pa_nil)))) (nomark _))) (pw_or (pt_cmpR (op_eqOwn F_Bound_eq hr_Bound_eq T.me_Bound_eq.at_ T.me_Bound_eq.fn B_Bound_eq passL) (pv 5) (pv 1) (nomark _)) (pw_or1 (pt_cmpR (op_eqOwn F_Bound_eq hr_Bound_eq T.me_Bound_eq.at_ T.me_Bound_eq.fn B_Bound_eq passL) (pv 5) (pv 2) (nomark _))))))) (pss_one (ps_ret pe_bl)) pss_nil)
      (pss_one (ps_ret (pe_and (pe_cmpR op_eq (pe_cmpR (op_eqOwn F_Bound_eq hr_Bound_eq T.me_Bound_eq.at_ T.me_Bound_eq.fn B_Bound_eq passL) (pv 5) (pe_make T.mk_Bound F_Bound_init hr_Bound_init (by rfl) T.g_Bound B_Bound_init .nil passL (pa_cons (pe_op op_add (pv 2) (pe_op op_mulW pe_int (pv 3))) (pa_cons pe_int (pa_cons pe_int pa_nil)))) (nomark _)) (pe_and (pe_cmpR op_eq (pv 3) pe_int (nomark _)) (pe_one (pe_cmpR op_eq (pv 4) pe_int (nomark _)))) (nomark _)) (pe_one (pe_not (pe_cmpR (op_neOwn F_Bound_eq (hr_Bound_eq2) T.ne_Bound T.cc_Bound.hm T.me_Bound_eq.at_ T.me_Bound_eq.fn B_Bound_eq passL) (pv 5) (pe_smeth (pe_glob (v := .ref (He.ga K "Bound")) rfl T.g_Bound rfl) T.sm_Bound_read.2.1 T.sm_Bound_read.1 F_Bound_read T.sm_Bound_read.2.2 hr_Bound_read B_Bound_read passL (pa_cons (pe_callTy (call_strOwn F_Bound_str hr_Bound_str T.me_Bound_str.at_ T.me_Bound_str.fn B_Bound_str passL) (by rfl) T.b_str (by decide +kernel) (pa_cons (pv 5) pa_nil)) pa_nil)) (nomark _)))))))))))))), ?_⟩
  obtain ⟨htt, hu, z1, z2, z3⟩ := ht
  walk_at "rd"
  refine r_gTup htt rfl ?_
  walk_at "rd"
  refine r_Bound hu fun B H1 _ e1 hB => ?_
  walk_at "rd"
  refine r_isT hB (e1 _ _ htt) fun H2 e2 => ?_
  walk_at "rd"
  refine ite_f rfl ?_
  walk_at "rd"
  refine r_mkKN (vs := [.int w1, .int p1, .int u1]) rfl (fun _ => rfl) (r_Bound hu fun B2 H3 _ e3 hB2 => ?_)
  walk_at "rd"
  have e13 : Ex H H3 := (e1.trans e2).trans e3
  refine r_isT hB2 (e13 _ _ htt) fun H4 e4 => ?_
  walk_at "rd"
  refine ite_f rfl ?_
  have e04 : Ex H H4 := e13.trans e4
  have e14 : Ex H1 H4 := (e2.trans e3).trans e4
  walk_at "rd"
  refine r_sg (hB.ex e14) (z1.mono (by decide)) (z2.mono (by decide)) (z3.mono (by decide)) ?_
  walk_at "rd"
  refine r_ls (e04 _ _ htt) hu (z1.mono (by decide)) (z2.mono (by decide)) (z3.mono (by decide)) fun H5 e5 => ?_
  walk_at "rd"
  refine ite_f (by simp) ?_
  walk_at "rd"
  refine r_Bound hu fun B3 H6 _ e6 hB3 => ?_
  walk_at "rd"
  refine r_clKN (vs := [.ref B3]) rfl rfl (r_sg hB3 ((zng z1).mono (by decide)) ((zng z2).mono (by decide)) (z3.mono (by decide)) ?_)
  walk_at "rd"
  have e06 : Ex H H6 := (e04.trans e5).trans e6
  refine r_ls (e06 _ _ htt) hu (z1.mono (by decide)) (z2.mono (by decide)) (z3.mono (by decide)) fun H7 e7 => ?_
  walk_at "rd"
  refine ite_f (by simp [sgn_neg]) ?_
  have e17 : Ex H1 H7 := ((e14.trans e5).trans e6).trans e7
  walk_at "rd"
  refine r_strB (hB.ex e17) z1 z2 z3 fun H8 e8 => ?_
  walk_at "rd"
  have zl : ∀ {i : Int}, Z 110 i → (nS i).length ≤ 61 := fun h => nS_len (k := 60) (by decide) (z_ten h)
  have zb : ∀ {i : Int}, Z 110 i → i.natAbs.log2 < 1920 := fun h => Nat.lt_of_lt_of_le (lg_lt h (by decide)) (by decide)
  have l1 := zl z1
  have l2 := zl z2
  have l3 := zl z3
  have lb : (Str.ofString " ").length = 1 := rfl
  have la : ∀ x y : Str, (x ++ y).length = x.length + y.length := fun x y => by rw [len_tl, tl_append, List.length_append, ← len_tl, ← len_tl]
  refine ⟨w1, rfl, zb z1, ?_⟩
  refine ⟨_, _, rfl, rfl, sz_le (by show (nS w1).length + _ ≤ _; omega), ?_⟩
  refine ⟨_, rfl, p1, rfl, zb z2, ?_⟩
  refine ⟨_, _, rfl, rfl, sz_le (by rw [la]; show (nS w1).length + _ + (nS p1).length ≤ _; omega), ?_⟩
  refine ⟨_, _, rfl, rfl, sz_le (by rw [la, la]; show (nS w1).length + _ + (nS p1).length + _ ≤ _; omega), ?_⟩
  refine ⟨_, rfl, u1, rfl, zb z3, ?_⟩
  refine ⟨_, _, rfl, rfl, sz_le (by rw [la, la, la]; show (nS w1).length + _ + (nS p1).length + _ + (nS u1).length ≤ _; omega), ?_⟩
  refine r_ne rfl ?_
  have es : Str.ofString (toString w1) ++ Str.ofString " " ++ Str.ofString (toString p1) ++ Str.ofString " " ++ Str.ofString (toString u1) = bS w1 p1 u1 := (bS_eq w1 p1 u1).symm
  rw [es]
  walk_at "rd"
  refine ite_f (by simp) ?_
  have e18 := e17.trans e8
  have e08 : Ex H H8 := e1.trans e18
  walk_at "rd"
  refine r_strB (hB.ex e18) z1 z2 z3 fun H9 e9 => ?_
  refine r_read hu z1 z2 z3 fun B4 H10 e10 hB4 => ?_
  have e010 := (e08.trans e9).trans e10
  walk_at "rd"
  refine r_isT hB4 (e010 _ _ htt) fun H11 e11 => ?_
  walk_at "rd"
  refine ite_f rfl ?_
  have e011 : Ex H H11 := e010.trans e11
  have e111 : Ex H1 H11 := ((e18.trans e9).trans e10).trans e11
  have hb11 := hb.ex e011
  walk_at "rd"
  refine r_newT (sz_le (by simp)) fun q1 H12 hq1 f1 hh1 => ?_
  walk_at "rd"
  refine r_newT (sz_le (by simp)) fun q2 H13 hq2 f2 hh2 => ?_
  walk_at "rd"
  refine r_newT (sz_le (by simp)) fun q3 H14 hq3 f3 hh3 => ?_
  walk_at "rd"
  refine r_newT (sz_le (by simp)) fun q4 H15 hq4 f4 hh4 => ?_
  walk_at "rd"
  refine r_newL (sz_le (by simp)) fun q5 H16 hq5 f5 hh5 => ?_
  have f15 : Ex H11 H15 := ((f1.trans f2).trans f3).trans f4
  have f16 : Ex H11 H16 := f15.trans f5
  have hb15 := hb11.ex f15
  have hb16 := hb11.ex f16
  have nq : q5 ≠ b := by
    rintro rfl
    obtain ⟨L, xs, x, y, h1, _⟩ := hb15.is
    rw [hq5] at h1
    cases h1
  refine ⟨b, n, q5, _, rfl, rfl, hh5, nq, by simp, by simp, by omega, hb16, fun v H17 hv bu hb17 => ?_⟩
  walk_at "rd"
  have hBu : Bu b H H17 := (Bu.of (e011.trans f16)).trans bu
  have hB17 : Bd K H17 B w1 p1 u1 := (hB.ex (e111.trans f16)).bu hb16 bu
  have other : ∃ q w2 p2 u2, v = .ref q ∧ T3 H17 q w2 p2 u2 ∧ 0 ≤ u2 ∧ ¬ (w2 = w1 ∧ p2 = p1 ∧ u2 = u1) := by
    have up : ∀ {q : Addr} {w2 p2 u2 : Int}, H16 q = some (.tup [.int w2, .int p2, .int u2]) → T3 H17 q w2 p2 u2 := fun {q w2 p2 u2} h => bu _ _ (hb16.ne h fun _ _ _ z => by cases z) h
    simp only [List.mem_cons, List.mem_nil_iff, or_false] at hv
    rcases hv with rfl | rfl | rfl | rfl
    · exact ⟨q1, _, _, _, rfl, up (f5 _ _ (f4 _ _ (f3 _ _ (f2 _ _ hh1)))), hu, by omega⟩
    · exact ⟨q2, _, _, _, rfl, up (f5 _ _ (f4 _ _ (f3 _ _ hh2))), hu, by omega⟩
    · exact ⟨q3, _, _, _, rfl, up (f5 _ _ (f4 _ _ hh3)), by omega, by omega⟩
    · exact ⟨q4, _, _, _, rfl, up (f5 _ _ hh4), hu, by omega⟩
  obtain ⟨q, w2, p2, u2, rfl, hq, hu2, ne⟩ := other
  unfold T3 at hq
  walk_at "rd"
  refine r_ixT hq (v := .int w2) rfl ?_
  walk_at "rd"
  refine r_ixT hq (v := .int p2) rfl ?_
  walk_at "rd"
  refine r_ixT hq (v := .int u2) rfl ?_
  walk_at "rd"
  refine r_Bound hu2 fun B5 H18 _ e18' hB5 => ?_
  walk_at "rd"
  refine r_eqB T hB5 (hB17.ex e18') ?_
  walk_at "rd"
  refine ite_f (decide_eq_false ne) ?_
  walk_at "rd"
  refine r_Bound hu fun B6 H19 _ e19 hB6 => ?_
  walk_at "rd"
  have hB19 := (hB17.ex e18').ex e19
  refine r_eqB T hB19 hB6 ?_
  walk_at "rd"
  refine ite_f (by simp) ?_
  have ht19 : H19 t = some (.tup [.int w1, .int p1, .int u1]) := e19 _ _ (e18' _ _ (hBu _ _ (hb.ne htt fun _ _ _ z => by cases z) htt))
  walk_at "rd"
  refine r_eqT T hB19 (kt_tup ht19) ?_
  walk_at "rd"
  refine ite_f rfl ?_
  walk_at "rd"
  refine r_eqT T hB19 (kt_int w1) ?_
  walk_at "rd"
  refine ite_f rfl ?_
  walk_at "rd"
  refine r_I (mulOk (Z.small (i := 2) (by decide)) z2 (by decide) (by decide) (by decide)) ?_
  walk_at "rd"
  refine r_Bound (by decide) fun B7 H20 _ e20 hB7 => ?_
  walk_at "rd"
  have hB20 := hB19.ex e20
  refine r_eqB T hB20 hB7 ?_
  walk_at "rd"
  have end_ : (tNotV (tOp (rNeOwn K (He.ga K "Bound") (spBEq K) E0) (tVar 5) (tSMeth (He.ga K "Bound") (spBRead K) E0 (tC (.ref (He.ga K "Bound"))) (tCons (tCB (rStrOwn (He.ga K "Bound") (spBStr K) E0) (tCons (tVar 5) tNil)) tNil)))) [some (.ref b), some (.ref t), some (.int w1), some (.int p1), some (.int u1), some (.ref B), some (.ref q)] H20 Q := by
    walk_at "rd"
    refine r_strB hB20 z1 z2 z3 fun H21 e21 => ?_
    refine r_read hu z1 z2 z3 fun B8 H22 e22 hB8 => ?_
    walk_at "rd"
    refine r_neB T (hB20.ex (e21.trans e22)) hB8 ?_
    walk_at "rd"
    have e : (!(!decide (w1 = w1 ∧ p1 = p1 ∧ u1 = u1))) = true := by simp
    rw [e]
    have f := ((e18'.trans e19).trans e20).trans (e21.trans e22)
    exact k H22 (hBu.trans (Bu.of f)) (hb17.ex f)
  by_cases c1 : p1 = 0
  · by_cases c2 : u1 = 4
    · refine ite_t (by simp [c1]) ?_
      walk_at "rd"
      refine r_eq rfl ?_
      walk_at "rd"
      refine ite_t (by simp [c1, c2]) end_
    · refine ite_t (by simp [c1]) ?_
      walk_at "rd"
      refine r_eq rfl ?_
      walk_at "rd"
      refine ite_t (by simp [c1, c2]) end_
  · refine ite_f (by simp [c1]) ?_
    refine r_eq rfl ?_
    walk_at "rd"
    refine ite_t (by simp [c1]) end_

end K03
namespace K03
open PySem PySem.Spec PyProof.Rows L2 GS TL
local macro_rules | `(tactic| walk_at "rd") => `(tactic| (repeat (first
  | with_reducible refine r_next ?_
  | with_reducible refine r_seq ?_
  | with_reducible refine r_ret ?_
  | with_reducible refine r_ifS ?_
  | with_reducible refine r_asg ?_
  | with_reducible refine r_drop ?_
  | with_reducible refine r_op ?_
  | with_reducible refine r_un ?_
  | with_reducible refine r_cbInt ?_
  | with_reducible refine r_cbAbs ?_
  | with_reducible refine r_cbLen ?_
  | with_reducible refine r_cb ?_
  | with_reducible refine r_call ?_
  | with_reducible refine r_make ?_
  | with_reducible refine r_callN0 ?_
  | with_reducible refine r_makeK0 ?_
  | with_reducible refine r_makeS ?_
  | with_reducible refine r_callS ?_
  | with_reducible refine r_cons ?_
  | with_reducible refine r_nil ?_
  | with_reducible refine r_test ?_
  | with_reducible refine r_B ?_
  | with_reducible refine r_and ?_
  | with_reducible refine r_or ?_
  | with_reducible refine r_not ?_
  | with_reducible refine r_andV ?_
  | with_reducible refine r_orV ?_
  | with_reducible refine r_notV ?_
  | with_reducible refine r_if ?_
  | with_reducible refine r_tup ?_
  | with_reducible refine r_lst ?_
  | with_reducible refine r_c ?_
  | with_reducible refine r_lc ?_
  | with_reducible refine r_chain ?_
  | with_reducible refine r_iT ?_
  | with_reducible refine r_iL ?_
  | with_reducible refine r_iR1 ?_
  | with_reducible refine r_asgG ?_
  | with_reducible refine r_gSub ?_
  | with_reducible refine r_smeth ?_
  | with_reducible refine r_par ?_
  | with_reducible refine r_parK ?_
  | with_reducible refine r_gCons ?_
  | with_reducible refine r_gNil ?_
  | with_reducible refine r_gName ?_
  | with_reducible refine r_intI ?_
  | with_reducible refine r_intB ?_
  | with_reducible refine r_absI ?_
  | with_reducible refine r_k ?_
  | with_reducible refine r_kV ?_
  | ((with_reducible show tVar _ _ _ _); refine r_var3 ?_ (by rfl))
  | with_reducible refine r_I0 ?_
  | with_reducible refine r_U ?_
  | with_reducible refine r_eqI ?_
  | with_reducible refine r_neI ?_
  | dsimp only)))
local macro_rules | `(tactic| walk_at "rx") => `(tactic| (repeat (first
  | with_reducible refine r_next ?_
  | with_reducible refine r_ret ?_
  | with_reducible refine r_ifS ?_
  | with_reducible refine r_asg ?_
  | with_reducible refine r_drop ?_
  | with_reducible refine r_op ?_
  | with_reducible refine r_un ?_
  | with_reducible refine r_cbInt ?_
  | with_reducible refine r_cbAbs ?_
  | with_reducible refine r_cbLen ?_
  | with_reducible refine r_cb ?_
  | with_reducible refine r_call ?_
  | with_reducible refine r_make ?_
  | with_reducible refine r_callN0 ?_
  | with_reducible refine r_makeK0 ?_
  | with_reducible refine r_makeS ?_
  | with_reducible refine r_callS ?_
  | with_reducible refine r_cons ?_
  | with_reducible refine r_nil ?_
  | with_reducible refine r_test ?_
  | with_reducible refine r_B ?_
  | with_reducible refine r_and ?_
  | with_reducible refine r_or ?_
  | with_reducible refine r_not ?_
  | with_reducible refine r_andV ?_
  | with_reducible refine r_orV ?_
  | with_reducible refine r_notV ?_
  | with_reducible refine r_if ?_
  | with_reducible refine r_tup ?_
  | with_reducible refine r_lst ?_
  | with_reducible refine r_c ?_
  | with_reducible refine r_lc ?_
  | with_reducible refine r_chain ?_
  | with_reducible refine r_iT ?_
  | with_reducible refine r_iL ?_
  | with_reducible refine r_iR1 ?_
  | with_reducible refine r_asgG ?_
  | with_reducible refine r_gSub ?_
  | with_reducible refine r_smeth ?_
  | with_reducible refine r_par ?_
  | with_reducible refine r_parK ?_
  | with_reducible refine r_gCons ?_
  | with_reducible refine r_gNil ?_
  | with_reducible refine r_gName ?_
  | with_reducible refine r_intI ?_
  | with_reducible refine r_intB ?_
  | with_reducible refine r_absI ?_
  | with_reducible refine r_k ?_
  | with_reducible refine r_kV ?_
  | ((with_reducible show tVar _ _ _ _); refine r_var3 ?_ (by rfl))
  | with_reducible refine r_I0 ?_
  | with_reducible refine r_U ?_
  | with_reducible refine r_eqI ?_
  | with_reducible refine r_neI ?_
  | dsimp only)))
/-! ### signs of products -/
theorem sgI_three (i : Int) : sgI i = -1 ∨ sgI i = 0 ∨ sgI i = 1 := by rcases sgI_cases i with ⟨h, _⟩ | ⟨h, _⟩ | ⟨h, _⟩ <;> simp [h]
theorem sgI_mul (a b : Int) : sgI (a * b) = sgI a * sgI b := by
  rcases sgI_cases a with ⟨e, h⟩ | ⟨e, h⟩ | ⟨e, h⟩ <;> rcases sgI_cases b with ⟨f, g⟩ | ⟨f, g⟩ | ⟨f, g⟩ <;> rw [e, f]
  · rw [h, Int.zero_mul]; rfl
  · rw [h, Int.zero_mul]; rfl
  · rw [h, Int.zero_mul]; rfl
  · rw [g, Int.mul_zero]; rfl
  · rw [sgI_pos (Int.mul_pos h g)]; rfl
  · rw [sgI_negv (Int.mul_neg_of_pos_of_neg h g)]; rfl
  · rw [g, Int.mul_zero]; rfl
  · rw [sgI_negv (Int.mul_neg_of_neg_of_pos h g)]; rfl
  · rw [sgI_pos (Int.mul_pos_of_neg_of_neg h g)]; rfl
theorem sgI_sgI (a : Int) : sgI (sgI a) = sgI a := by rcases sgI_three a with h | h | h <;> rw [h] <;> rfl
theorem sgI_dom {a b : Int} (h : b * b < a * a) : sgI (a + b) = sgI a := by
  have key : ∀ x y : Int, 0 ≤ x → x ≤ y → x * x ≤ y * y := fun x y h0 h1 => Int.mul_le_mul h1 h1 h0 (by omega)
  rcases sgI_cases a with ⟨e, h1⟩ | ⟨e, h1⟩ | ⟨e, h1⟩
  · rw [h1] at h
    have := sq_nn b
    omega
  · rw [e]
    refine sgI_pos ?_
    refine Int.not_le.mp fun c => ?_
    have := key a (-b) (by omega) (by omega)
    rw [Int.neg_mul_neg] at this
    omega
  · rw [e]
    refine sgI_negv ?_
    refine Int.not_le.mp fun c => ?_
    have := key (-a) b (by omega) (by omega)
    rw [Int.neg_mul_neg] at this
    omega
theorem sgI_same {a b : Int} (h : sgI a = sgI b) : sgI (a + b) = sgI a := by
  rcases sgI_cases a with ⟨e, h1⟩ | ⟨e, h1⟩ | ⟨e, h1⟩ <;> rcases sgI_cases b with ⟨f, h2⟩ | ⟨f, h2⟩ | ⟨f, h2⟩ <;> rw [e, f] at h <;> first | omega | skip
  · rw [e, h1, h2]; rfl
  · rw [e]; exact sgI_pos (by omega)
  · rw [e]; exact sgI_negv (by omega)
theorem sgI_opp {a b : Int} (h : a * a = b * b) (n : sgI a ≠ sgI b) : a + b = 0 := by
  have e : (a - b) * (a + b) = 0 := by grind
  rcases Int.mul_eq_zero.mp e with z | z
  · exact absurd (by rw [show a = b by omega]) n
  · exact z
/-- by the sign of the norm -/
def ch (n s t : Int) : Int := if 0 < n then s else if n < 0 then t else if s = t then s else 0
theorem ch_pos {n s t : Int} (h : 0 < n) : ch n s t = s := by unfold ch; rw [if_pos h]
theorem ch_neg {n s t : Int} (h : n < 0) : ch n s t = t := by unfold ch; rw [if_neg (by omega), if_pos h]
theorem sgI_00 {a b : Int} (h : sgI a = 0) (g : sgI b = 0) : sgI (a + b) = 0 := by rw [sgI_same (by rw [h, g]), h]
theorem sgn_ch {w p c : Int} (hc : 0 < c) : sgn w p c = ch (w * w - p * p * c) (sgI w) (sgI p) := by
  have e1 : w ^ 2 - p ^ 2 * c = w * w - p * p * c := by grind
  unfold sgn
  rw [e1, show rt p c = sgI p by unfold rt; rw [if_pos hc]]
  unfold ch
  rcases sgI_cases w with ⟨a, h⟩ | ⟨a, h⟩ | ⟨a, h⟩ <;> rcases sgI_cases p with ⟨b, g⟩ | ⟨b, g⟩ | ⟨b, g⟩ <;> rw [a, b]
  · rw [h, g]; simp [sgI]
  · have : 0 < p * p * c := Int.mul_pos (Int.mul_pos g g) hc
    rw [if_pos (by decide), h, if_neg (by omega), if_pos (by omega)]; rfl
  · have : 0 < p * p * c := Int.mul_pos (Int.mul_pos_of_neg_of_neg g g) hc
    rw [if_pos (by decide), h, if_neg (by omega), if_pos (by omega)]; rfl
  · have : 0 < w * w := Int.mul_pos h h
    rw [if_pos (by decide), g, if_pos (by simp; omega)]; rfl
  · rw [if_pos (by decide)]
    split
    · rfl
    · split <;> rfl
  · rw [if_neg (by decide)]
    rcases sgI_cases (w * w - p * p * c) with ⟨d, k⟩ | ⟨d, k⟩ | ⟨d, k⟩ <;> rw [d]
    · rw [if_neg (by omega), if_neg (by omega)]; rfl
    · rw [if_pos k]; rfl
    · rw [if_neg (by omega), if_pos k]; rfl
  · have : 0 < w * w := Int.mul_pos_of_neg_of_neg h h
    rw [if_pos (by decide), g, if_pos (by simp; omega)]; rfl
  · rw [if_neg (by decide)]
    rcases sgI_cases (w * w - p * p * c) with ⟨d, k⟩ | ⟨d, k⟩ | ⟨d, k⟩ <;> rw [d]
    · rw [if_neg (by omega), if_neg (by omega)]; rfl
    · rw [if_pos k]; rfl
    · rw [if_neg (by omega), if_pos k]; rfl
  · rw [if_pos (by decide)]
    split
    · rfl
    · split <;> rfl
theorem sgn_noPart (w u : Int) : sgn w 0 u = sgI w := by
  have : rt 0 u = 0 := by unfold rt; split <;> rfl
  unfold sgn
  rw [this, Int.mul_zero, if_pos (by decide), Int.add_zero, sgI_sgI]
theorem sgn_zero (w p : Int) : sgn w p 0 = sgI w := by
  have : rt p 0 = 0 := rfl
  unfold sgn
  rw [this, Int.mul_zero, if_pos (by decide), Int.add_zero, sgI_sgI]
theorem mul_lt2 {A B C D : Int} (hB : 0 ≤ B) (hD : 0 ≤ D) (h1 : B < A) (h2 : D < C) : B * D < A * C := by
  have a1 : B * D ≤ B * C := Int.mul_le_mul_of_nonneg_left (by omega) hB
  have a2 : B * C < A * C := Int.mul_lt_mul_of_pos_right h1 (by omega)
  omega
theorem sgn_mul {w1 p1 w2 p2 c : Int} (hc : 0 ≤ c) : sgn (w1 * w2 + p1 * p2 * c) (w1 * p2 + p1 * w2) c = sgn w1 p1 c * sgn w2 p2 c := by
  rcases (show c = 0 ∨ 0 < c by omega) with rfl | hc
  · rw [sgn_zero, sgn_zero, sgn_zero, Int.mul_zero, Int.add_zero, sgI_mul]
  rw [sgn_ch hc, sgn_ch hc, sgn_ch hc]
  have eN : (w1 * w2 + p1 * p2 * c) * (w1 * w2 + p1 * p2 * c) - (w1 * p2 + p1 * w2) * (w1 * p2 + p1 * w2) * c = (w1 * w1 - p1 * p1 * c) * (w2 * w2 - p2 * p2 * c) := by grind
  rw [eN]
  have hA := sq_nn w1
  have hC := sq_nn w2
  have hB : 0 ≤ p1 * p1 * c := Int.mul_nonneg (sq_nn p1) (by omega)
  have hD : 0 ≤ p2 * p2 * c := Int.mul_nonneg (sq_nn p2) (by omega)
  have sb : sgI (p1 * p2 * c) = sgI p1 * sgI p2 := by rw [sgI_mul, sgI_mul, sgI_pos hc, Int.mul_one]
  have s1 := sgI_mul w1 w2
  have s2 := sgI_mul w1 p2
  have s3 := sgI_mul p1 w2
  -- squares
  have q1 : (w1 * w2) * (w1 * w2) = (w1 * w1) * (w2 * w2) := by grind
  have q2 : (p1 * p2 * c) * (p1 * p2 * c) = (p1 * p1 * c) * (p2 * p2 * c) := by grind
  have q3 : (w1 * p2) * (w1 * p2) * c = (w1 * w1) * (p2 * p2 * c) := by grind
  have q4 : (p1 * w2) * (p1 * w2) * c = (p1 * p1 * c) * (w2 * w2) := by grind
  have cut : ∀ {x y : Int}, x * c < y * c → x < y := fun {x y} h => Int.lt_of_mul_lt_mul_right h (by omega)
  have cutE : ∀ {x y : Int}, x * c = y * c → x = y := fun {x y} h => Int.eq_of_mul_eq_mul_right (by omega) h
  have zw : ∀ {x : Int}, x * x = 0 ↔ sgI x = 0 := fun {x} => by
    rcases sgI_cases x with ⟨e, h⟩ | ⟨e, h⟩ | ⟨e, h⟩
    · simp [h, sgI_zero]
    · have := Int.mul_pos h h
      constructor <;> omega
    · have := Int.mul_pos_of_neg_of_neg h h
      constructor <;> omega
  have zp : ∀ {x : Int}, x * x * c = 0 ↔ sgI x = 0 := fun {x} => by
    rw [← zw]
    constructor
    · intro h
      rcases Int.mul_eq_zero.mp h with z | z
      · exact z
      · omega
    · intro h
      rw [h, Int.zero_mul]
  have k1 := zw (x := w1)
  have k2 := zp (x := p1)
  have k3 := zw (x := w2)
  have k4 := zp (x := p2)
  have t1 := sgI_three w1
  have t2 := sgI_three p1
  have t3 := sgI_three w2
  have t4 := sgI_three p2
  generalize w1 * w2 = a1 at *
  generalize p1 * p2 * c = b1 at *
  generalize w1 * p2 = a2 at *
  generalize p1 * w2 = b2 at *
  generalize w1 * w1 = A at *
  generalize p1 * p1 * c = B at *
  generalize w2 * w2 = C at *
  generalize p2 * p2 * c = D at *
  generalize sgI w1 = x1 at *
  generalize sgI p1 = y1 at *
  generalize sgI w2 = x2 at *
  generalize sgI p2 = y2 at *
  have dX : B * D < A * C → sgI (a1 + b1) = x1 * x2 := fun h => by rw [sgI_dom (by rw [q1, q2]; exact h), s1]
  have dX' : A * C < B * D → sgI (a1 + b1) = y1 * y2 := fun h => by rw [Int.add_comm, sgI_dom (by rw [q1, q2]; exact h), sb]
  have dP : B * C < A * D → sgI (a2 + b2) = x1 * y2 := fun h => by rw [sgI_dom (cut (by rw [q3, q4]; exact h)), s2]
  have dP' : A * D < B * C → sgI (a2 + b2) = y1 * x2 := fun h => by rw [Int.add_comm, sgI_dom (cut (by rw [q3, q4]; exact h)), s3]
  have brute : ∀ {s x y : Int}, (s = -1 ∨ s = 0 ∨ s = 1) → (x = -1 ∨ x = 0 ∨ x = 1) → (y = -1 ∨ y = 0 ∨ y = 1) → ch 0 (s * x) (s * y) = s * ch 0 x y ∧ ch 0 (s * y) (s * x) = s * ch 0 x y ∧ ch 0 (x * s) (y * s) = ch 0 x y * s ∧ ch 0 (y * s) (x * s) = ch 0 x y * s := by
    intro s x y hs hx hy
    rcases hs with rfl | rfl | rfl <;> rcases hx with rfl | rfl | rfl <;> rcases hy with rfl | rfl | rfl <;> decide
  rcases Int.lt_trichotomy A B with n1 | n1 | n1 <;> rcases Int.lt_trichotomy C D with n2 | n2 | n2
  · rw [dX' (mul_lt2 hA hC n1 n2), ch_pos (Int.mul_pos_of_neg_of_neg (by omega) (by omega)), ch_neg (by omega), ch_neg (by omega)]
  · subst n2
    rw [show C - C = 0 by omega, Int.mul_zero, ch_neg (n := A - B) (by omega)]
    by_cases z : C = 0
    · rw [k3.mp z, Int.mul_zero] at s1 s3
      rw [k4.mp z, Int.mul_zero] at sb s2
      rw [sgI_00 s1 sb, sgI_00 s2 s3, k3.mp z, k4.mp z]
      exact (Int.mul_zero _).symm
    · have h := Int.mul_lt_mul_of_pos_right n1 (show 0 < C by omega)
      rw [dX' h, dP' h]
      exact (brute t2 t3 t4).2.1
  · rw [dP' (mul_lt2 hA hD n1 n2), ch_neg (Int.mul_neg_of_neg_of_pos (by omega) (by omega)), ch_neg (by omega), ch_pos (by omega)]
  · subst n1
    rw [show A - A = 0 by omega, Int.zero_mul, ch_neg (n := C - D) (by omega)]
    by_cases z : A = 0
    · rw [k1.mp z, Int.zero_mul] at s1 s2
      rw [k2.mp z, Int.zero_mul] at sb s3
      rw [sgI_00 s1 sb, sgI_00 s2 s3, k1.mp z, k2.mp z]
      exact (Int.zero_mul _).symm
    · have h := Int.mul_lt_mul_of_pos_left n2 (show 0 < A by omega)
      rw [dX' h, dP h]
      exact (brute t4 t1 t2).2.2.2
  · subst n1
    subst n2
    rw [show A - A = 0 by omega, show C - C = 0 by omega, Int.zero_mul]
    have eX : sgI (a1 + b1) = if x1 * x2 = y1 * y2 then x1 * x2 else 0 := by
      split
      · rename_i h
        rw [sgI_same (by rw [s1, sb, h]), s1]
      · rename_i h
        rw [sgI_opp (by rw [q1, q2]) (by rw [s1, sb]; exact h)]
        rfl
    have eP : sgI (a2 + b2) = if x1 * y2 = y1 * x2 then x1 * y2 else 0 := by
      split
      · rename_i h
        rw [sgI_same (by rw [s2, s3, h]), s2]
      · rename_i h
        rw [sgI_opp (cutE (by rw [q3, q4])) (by rw [s2, s3]; exact h)]
        rfl
    rw [eX, eP]
    have l1 : x1 = 0 ↔ y1 = 0 := k1.symm.trans k2
    have l2 : x2 = 0 ↔ y2 = 0 := k3.symm.trans k4
    clear eX eP dX dX' dP dP' k1 k2 k3 k4 brute cut cutE zw zp q1 q2 q3 q4 s1 s2 s3 sb eN
    rcases t1 with rfl | rfl | rfl <;> rcases t2 with rfl | rfl | rfl <;> first | (exfalso; omega) | skip
    all_goals (rcases t3 with rfl | rfl | rfl <;> rcases t4 with rfl | rfl | rfl <;> first | (exfalso; omega) | decide)
  · subst n1
    rw [show A - A = 0 by omega, Int.zero_mul, ch_pos (n := C - D) (by omega)]
    by_cases z : A = 0
    · rw [k1.mp z, Int.zero_mul] at s1 s2
      rw [k2.mp z, Int.zero_mul] at sb s3
      rw [sgI_00 s1 sb, sgI_00 s2 s3, k1.mp z, k2.mp z]
      exact (Int.zero_mul _).symm
    · have h := Int.mul_lt_mul_of_pos_left n2 (show 0 < A by omega)
      rw [dX h, dP' h]
      exact (brute t3 t1 t2).2.2.1
  · rw [dP (mul_lt2 hB hC n1 n2), ch_neg (Int.mul_neg_of_pos_of_neg (by omega) (by omega)), ch_pos (by omega), ch_neg (by omega)]
  · subst n2
    rw [show C - C = 0 by omega, Int.mul_zero, ch_pos (n := A - B) (by omega)]
    by_cases z : C = 0
    · rw [k3.mp z, Int.mul_zero] at s1 s3
      rw [k4.mp z, Int.mul_zero] at sb s2
      rw [sgI_00 s1 sb, sgI_00 s2 s3, k3.mp z, k4.mp z]
      exact (Int.mul_zero _).symm
    · have h := Int.mul_lt_mul_of_pos_right n1 (show 0 < C by omega)
      rw [dX h, dP h]
      exact (brute t1 t3 t4).1
  · rw [dX (mul_lt2 hB hD n1 n2), ch_pos (Int.mul_pos (by omega) (by omega)), ch_pos (by omega), ch_pos (by omega)]
/-- the sign under the common under -/
theorem sgn_common {w1 p1 u1 w2 p2 u2 c : Int} (h : cmu p1 u1 p2 u2 = some c) : sgn w1 p1 u1 = sgn w1 p1 c ∧ sgn w2 p2 u2 = sgn w2 p2 c := by
  unfold cmu at h
  split at h
  · cases h
  · rename_i n
    have e := Option.some.inj h
    subst e
    constructor
    · by_cases z : p1 = 0
      · rw [z, sgn_noPart, sgn_noPart]
      · by_cases z2 : p2 = 0
        · rw [if_pos z2]
        · rw [if_neg z2]
          have : u1 = u2 := by
            refine Classical.byContradiction fun ne => n ⟨ne, z, z2⟩
          rw [this]
    · by_cases z2 : p2 = 0
      · rw [z2, sgn_noPart, sgn_noPart]
      · rw [if_neg z2]

end K03
namespace K03
open PySem PySem.Spec PyProof.Rows L2 GS TL
local macro_rules | `(tactic| walk_at "rd") => `(tactic| (repeat (first
  | with_reducible refine r_next ?_
  | with_reducible refine r_seq ?_
  | with_reducible refine r_ret ?_
  | with_reducible refine r_ifS ?_
  | with_reducible refine r_asg ?_
  | with_reducible refine r_drop ?_
  | with_reducible refine r_op ?_
  | with_reducible refine r_un ?_
  | with_reducible refine r_cbInt ?_
  | with_reducible refine r_cbAbs ?_
  | with_reducible refine r_cbLen ?_
  | with_reducible refine r_cb ?_
  | with_reducible refine r_call ?_
  | with_reducible refine r_make ?_
  | with_reducible refine r_callN0 ?_
  | with_reducible refine r_makeK0 ?_
  | with_reducible refine r_makeS ?_
  | with_reducible refine r_callS ?_
  | with_reducible refine r_cons ?_
  | with_reducible refine r_nil ?_
  | with_reducible refine r_test ?_
  | with_reducible refine r_B ?_
  | with_reducible refine r_and ?_
  | with_reducible refine r_or ?_
  | with_reducible refine r_not ?_
  | with_reducible refine r_andV ?_
  | with_reducible refine r_orV ?_
  | with_reducible refine r_notV ?_
  | with_reducible refine r_if ?_
  | with_reducible refine r_tup ?_
  | with_reducible refine r_lst ?_
  | with_reducible refine r_c ?_
  | with_reducible refine r_lc ?_
  | with_reducible refine r_chain ?_
  | with_reducible refine r_iT ?_
  | with_reducible refine r_iL ?_
  | with_reducible refine r_iR1 ?_
  | with_reducible refine r_asgG ?_
  | with_reducible refine r_gSub ?_
  | with_reducible refine r_smeth ?_
  | with_reducible refine r_par ?_
  | with_reducible refine r_parK ?_
  | with_reducible refine r_gCons ?_
  | with_reducible refine r_gNil ?_
  | with_reducible refine r_gName ?_
  | with_reducible refine r_intI ?_
  | with_reducible refine r_intB ?_
  | with_reducible refine r_absI ?_
  | with_reducible refine r_k ?_
  | with_reducible refine r_kV ?_
  | ((with_reducible show tVar _ _ _ _); refine r_var3 ?_ (by rfl))
  | with_reducible refine r_I0 ?_
  | with_reducible refine r_U ?_
  | with_reducible refine r_eqI ?_
  | with_reducible refine r_neI ?_
  | dsimp only)))
local macro_rules | `(tactic| walk_at "rx") => `(tactic| (repeat (first
  | with_reducible refine r_next ?_
  | with_reducible refine r_ret ?_
  | with_reducible refine r_ifS ?_
  | with_reducible refine r_asg ?_
  | with_reducible refine r_drop ?_
  | with_reducible refine r_op ?_
  | with_reducible refine r_un ?_
  | with_reducible refine r_cbInt ?_
  | with_reducible refine r_cbAbs ?_
  | with_reducible refine r_cbLen ?_
  | with_reducible refine r_cb ?_
  | with_reducible refine r_call ?_
  | with_reducible refine r_make ?_
  | with_reducible refine r_callN0 ?_
  | with_reducible refine r_makeK0 ?_
  | with_reducible refine r_makeS ?_
  | with_reducible refine r_callS ?_
  | with_reducible refine r_cons ?_
  | with_reducible refine r_nil ?_
  | with_reducible refine r_test ?_
  | with_reducible refine r_B ?_
  | with_reducible refine r_and ?_
  | with_reducible refine r_or ?_
  | with_reducible refine r_not ?_
  | with_reducible refine r_andV ?_
  | with_reducible refine r_orV ?_
  | with_reducible refine r_notV ?_
  | with_reducible refine r_if ?_
  | with_reducible refine r_tup ?_
  | with_reducible refine r_lst ?_
  | with_reducible refine r_c ?_
  | with_reducible refine r_lc ?_
  | with_reducible refine r_chain ?_
  | with_reducible refine r_iT ?_
  | with_reducible refine r_iL ?_
  | with_reducible refine r_iR1 ?_
  | with_reducible refine r_asgG ?_
  | with_reducible refine r_gSub ?_
  | with_reducible refine r_smeth ?_
  | with_reducible refine r_par ?_
  | with_reducible refine r_parK ?_
  | with_reducible refine r_gCons ?_
  | with_reducible refine r_gNil ?_
  | with_reducible refine r_gName ?_
  | with_reducible refine r_intI ?_
  | with_reducible refine r_intB ?_
  | with_reducible refine r_absI ?_
  | with_reducible refine r_k ?_
  | with_reducible refine r_kV ?_
  | ((with_reducible show tVar _ _ _ _); refine r_var3 ?_ (by rfl))
  | with_reducible refine r_I0 ?_
  | with_reducible refine r_U ?_
  | with_reducible refine r_eqI ?_
  | with_reducible refine r_neI ?_
  | dsimp only)))
/-- [b, d] != [b, d] -/
theorem r_neBools {K : PySem.W.Frag} {H : Hp} {Q : VK} {p q : Addr} {x y : Bool} (h1 : H p = some (.lst [.bl x, .bl y])) (h2 : H q = some (.lst [.bl x, .bl y])) (k : Q (.bl false) H) : rNeD K (.ref p) (.ref q) H Q := by
  refine ⟨.list [.bool x, .bool y], .list [.bool x, .bool y], .lst (SqL.of h1) (.cons (.bl _) (.cons (.bl _) .nil)), .lst (SqL.of h2) (.cons (.bl _) (.cons (.bl _) .nil)), rfl, rfl, ?_⟩
  have e : PyData.eqv (.list [.bool x, .bool y]) (.list [.bool x, .bool y]) = true := by cases x <;> cases y <;> rfl
  rw [e]
  exact k
theorem sgn_flip (w1 p1 w2 p2 c : Int) : sgn (w1 - w2) (p1 - p2) c = -sgn (w2 - w1) (p2 - p1) c := by
  rw [← sgn_neg, show -(w2 - w1) = w1 - w2 by omega, show -(p2 - p1) = p1 - p2 by omega]
/-! ### lists of pairs of words -/
def tup2 (x : Str × Str) : PyData := .tuple [.str x.1, .str x.2]
def Prs (H : Hp) : List V → List (Str × Str) → Prop
  | [], [] => True
  | y :: ys, p :: ps => (∃ t, y = .ref t ∧ H t = some (.tup [.str p.1, .str p.2])) ∧ Prs H ys ps
  | _, _ => False
theorem Prs.ex {H H' : Hp} : ∀ {ys : List V} {ps : List (Str × Str)}, Prs H ys ps → Ex H H' → Prs H' ys ps
  | [], [], _, _ => trivial
  | _ :: _, _ :: _, ⟨⟨t, h1, h2⟩, r⟩, e => ⟨⟨t, h1, e _ _ h2⟩, Prs.ex r e⟩
theorem Prs.append {H : Hp} : ∀ {ys zs : List V} {ps qs : List (Str × Str)}, Prs H ys ps → Prs H zs qs → Prs H (ys ++ zs) (ps ++ qs)
  | [], _, [], _, _, b => b
  | _ :: _, _, _ :: _, _, ⟨h, r⟩, b => ⟨h, Prs.append r b⟩
theorem Prs.dp {K : PySem.W.Frag} {H : Hp} : ∀ {ys : List V} {ps : List (Str × Str)}, Prs H ys ps → DpAll K H ys (ps.map tup2)
  | [], [], _ => .nil
  | _ :: _, p :: _, ⟨⟨t, h1, h2⟩, r⟩ => by
    subst h1
    exact .cons (.tup (SqT.of h2) (.cons (.str _) (.cons (.str _) .nil))) (Prs.dp r)
theorem prs_all {H : Hp} {p : Str × Str} : ∀ {ys : List V} {n : Nat}, ys.length = n → (∀ y ∈ ys, ∃ t, y = .ref t ∧ H t = some (.tup [.str p.1, .str p.2])) → Prs H ys (List.replicate n p)
  | [], n, l, _ => by
    subst l
    exact trivial
  | y :: ys, n, l, h => by
    subst l
    exact ⟨h y (List.mem_cons_self ..), prs_all rfl fun z hz => h z (List.mem_cons_of_mem _ hz)⟩
theorem r_eqPrs {K : PySem.W.Frag} {H : Hp} {Q : VK} {p q : Addr} {ys zs : List V} (ps : List (Str × Str)) (h1 : H p = some (.lst ys)) (h2 : H q = some (.lst zs)) (a : Prs H ys ps) (b : Prs H zs ps) (hs : SeqAt.shaped (.list (ps.map tup2)) = true) (he : PyData.eqv (.list (ps.map tup2)) (.list (ps.map tup2)) = true) (k : Q (.bl true) H) : rEqD K (.ref p) (.ref q) H Q :=
  ⟨_, _, .lst (SqL.of h1) a.dp, .lst (SqL.of h2) b.dp, hs, hs, by rw [he]; exact k⟩
theorem r_nePrs {K : PySem.W.Frag} {H : Hp} {Q : VK} {p q : Addr} {ys zs : List V} (ps : List (Str × Str)) (h1 : H p = some (.lst ys)) (h2 : H q = some (.lst zs)) (a : Prs H ys ps) (b : Prs H zs ps) (hs : SeqAt.shaped (.list (ps.map tup2)) = true) (he : PyData.eqv (.list (ps.map tup2)) (.list (ps.map tup2)) = true) (k : Q (.bl false) H) : rNeD K (.ref p) (.ref q) H Q :=
  ⟨_, _, .lst (SqL.of h1) a.dp, .lst (SqL.of h2) b.dp, hs, hs, by rw [he]; exact k⟩
theorem r_Done {K : PySem.W.Frag} {H : Hp} {Q : VK} {E : XK} {a b : Addr} {i w1 p1 u1 w2 p2 u2 : Int} (hp : Bd K H a w1 p1 u1) (hq : Bd K H b w2 p2 u2) (hc : cmu p1 u1 p2 u2 = none) (k : Res "misfit" "under" H Q) : spDone K ([.int i, .ref a, .ref b] ++ []) H Q E := ⟨⟨i, rfl⟩, .inr ⟨a, w1, p1, u1, rfl, hp, .inr ⟨b, w2, p2, u2, rfl, hq, hc, k⟩⟩⟩
/-! ### two bounds -/
section
variable {K : PySem.W.Frag} {H : Hp} {Q : VK} {E : XK} {a b : Addr} {w1 p1 u1 w2 p2 u2 c : Int}
theorem two_ok {R : Int → Int → Int → Int → Int → Hp → VK → Prop} (hp : Bd K H a w1 p1 u1) (hq : Bd K H b w2 p2 u2) (hc : cmu p1 u1 p2 u2 = some c) (k : R w1 p1 w2 p2 c H Q) : spTwo K R ([.ref a, .ref b] ++ []) H Q E :=
  .inr ⟨a, w1, p1, u1, rfl, hp, .inr ⟨b, w2, p2, u2, rfl, hq, fun c' h => (by rw [hc] at h; cases h; exact k), fun h => (by rw [hc] at h; cases h)⟩⟩
theorem r_add (hp : Bd K H a w1 p1 u1) (hq : Bd K H b w2 p2 u2) (hc : cmu p1 u1 p2 u2 = some c) (k : ∀ r H', Ex H H' → Bd K H' r (w1 + w2) (p1 + p2) c → Q (.ref r) H') : spTwo K (rAdded K) ([.ref a, .ref b] ++ []) H Q E := two_ok hp hq hc k
theorem r_mult (hp : Bd K H a w1 p1 u1) (hq : Bd K H b w2 p2 u2) (hc : cmu p1 u1 p2 u2 = some c) (z1 : Z 300 w1) (z2 : Z 300 p1) (z3 : Z 300 w2) (z4 : Z 300 p2) (z5 : Z 300 c) (k : ∀ r H', Ex H H' → Bd K H' r (w1 * w2 + p1 * p2 * c) (w1 * p2 + p1 * w2) c → Q (.ref r) H') : spTwo K (rMult K) ([.ref a, .ref b] ++ []) H Q E := two_ok hp hq hc ⟨z1, z2, z3, z4, z5, k⟩
theorem r_most (hp : Bd K H a w1 p1 u1) (hq : Bd K H b w2 p2 u2) (hc : cmu p1 u1 p2 u2 = some c) (z1 : Z 900 w1) (z2 : Z 900 p1) (z3 : Z 900 w2) (z4 : Z 900 p2) (z5 : Z 900 c) (k : ∀ H', Ex H H' → Q (.bl (decide (sgn (w1 - w2) (p1 - p2) c ≤ 0))) H') : spTwo K rAtMost ([.ref a, .ref b] ++ []) H Q E := two_ok hp hq hc ⟨z1, z2, z3, z4, z5, k⟩
end
theorem cmu_z {p1 u1 p2 u2 c : Int} {n : Nat} (h1 : Z n u1) (h2 : Z n u2) (h : cmu p1 u1 p2 u2 = some c) : Z n c := by
  unfold cmu at h
  split at h
  · cases h
  · have e := Option.some.inj h
    subst e
    split <;> assumption
/-- the other way round -/
theorem cmu_sym {p1 u1 p2 u2 c : Int} (h : cmu p1 u1 p2 u2 = some c) : ∃ c', cmu p2 u2 p1 u1 = some c' ∧ (c' = c ∨ (p1 = 0 ∧ p2 = 0)) := by
  unfold cmu at *
  split at h
  · cases h
  · rename_i n
    have e := Option.some.inj h
    refine ⟨if p1 = 0 then u2 else u1, by rw [if_neg (fun z => n ⟨fun e => z.1 e.symm, z.2.2, z.2.1⟩)], ?_⟩
    by_cases z1 : p1 = 0 <;> by_cases z2 : p2 = 0
    · exact .inr ⟨z1, z2⟩
    · left; rw [if_pos z1, ← e, if_neg z2]
    · left; rw [if_neg z1, ← e, if_pos z2]
    · left
      rw [if_neg z1, ← e, if_neg z2]
      exact Classical.byContradiction fun ne => n ⟨ne, z1, z2⟩
theorem cmu_gain {p1 u1 p2 u2 c ug : Int} (h : cmu p1 u1 p2 u2 = some c) : cmu (p1 + 0) u1 (0 + p2) (if p2 = 0 then ug else u2) = some c := by
  rw [Int.add_zero, Int.zero_add]
  by_cases z : p2 = 0
  · subst z
    simpa [cmu] using h
  · rw [if_neg z]
    exact h
theorem cmu_symN {p1 u1 p2 u2 : Int} (h : cmu p1 u1 p2 u2 = none) : cmu p2 u2 p1 u1 = none := by
  unfold cmu at *
  split at h
  · rename_i n
    rw [if_pos ⟨fun e => n.1 e.symm, n.2.2, n.2.1⟩]
  · cases h
def spTwoR : Sp := sp3 fun b v v2 H Q _ => ∃ (p : Addr) (n : Int) (t : Addr) (w1 p1 u1 : Int) (t' : Addr) (w2 p2 u2 : Int), b = .ref p ∧ v = .ref t ∧ v2 = .ref t' ∧ n ≤ 50000 ∧ Bag H p n ∧ Told 110 H t w1 p1 u1 ∧ Told 110 H t' w2 p2 u2 ∧ ∀ H', Bu p H H' → Bag H' p (n + 5) → Q (.bl true) H'
theorem ok__law_two_right {P : Program} {w : World} {K : PySem.W.Frag} {mg : Str → Option Value} {base : Heap} (T : Txt K mg) : ∃ fd, FnOk P w K mg base (L2.CX P w) 8 (He.ga K "_law_two_right") fd ["bag", "one", "other"] (spTwoR) ∧ Binds K fd ["bag", "one", "other"] [] := by
  obtain ⟨fd, F⟩ := T.d__law_two_right
  obtain ⟨fd__law_is, F__law_is, B__law_is⟩ := ok__law_is (P := P) (w := w) (base := base) T
  obtain ⟨fd_at_most, F_at_most, B_at_most, kb_at_most_0⟩ := ok_at_most (P := P) (w := w) (base := base) T
  obtain ⟨fd_added, F_added, B_added, kb_added_0⟩ := ok_added (P := P) (w := w) (base := base) T
  obtain ⟨fd_Bound_init, F_Bound_init, B_Bound_init, kb_Bound_init_0⟩ := ok_Bound_init (P := P) (w := w) (base := base) T
  obtain ⟨fd__law_draw, F__law_draw, B__law_draw⟩ := ok__law_draw (P := P) (w := w) (base := base) T
  obtain ⟨fd__law_signed, F__law_signed, B__law_signed⟩ := ok__law_signed (P := P) (w := w) (base := base) T
  obtain ⟨fd__law_great, F__law_great, B__law_great⟩ := ok__law_great (P := P) (w := w) (base := base) T
  obtain ⟨fd__law_sign, F__law_sign, B__law_sign⟩ := ok__law_sign (P := P) (w := w) (base := base) T
  obtain ⟨fd_sign_of, F_sign_of, B_sign_of, kb_sign_of_0⟩ := ok_sign_of (P := P) (w := w) (base := base) T
  obtain ⟨fd_multiplied, F_multiplied, B_multiplied, kb_multiplied_0⟩ := ok_multiplied (P := P) (w := w) (base := base) T
  obtain ⟨fd__law_done, F__law_done, B__law_done⟩ := ok__law_done (P := P) (w := w) (base := base) T
  obtain ⟨fd__law_common, F__law_common, B__law_common⟩ := ok__law_common (P := P) (w := w) (base := base) T
  refine ⟨fd, F.ok sc__law_two_right sp3_len (fun cdv A outer s H vs Q E hr h => ?_), F.bindsN fun _ _ _ _ _ _ us hl => match us, hl with | [_, _, _], _ => rfl⟩
  have hr__law_is : Room 1 _ := hr.mono (by decide)
  have hr_at_most : Room 6 _ := hr.mono (by decide)
  have hr_added : Room 6 _ := hr.mono (by decide)
  have hr_Bound_init : Room 5 _ := hr.mono (by decide)
  have hr__law_draw : Room 1 _ := hr.mono (by decide)
  have hr__law_signed : Room 2 _ := hr.mono (by decide)
  have hr__law_great : Room 2 _ := hr.mono (by decide)
  have hr__law_sign : Room 3 _ := hr.mono (by decide)
  have hr_sign_of : Room 4 _ := hr.mono (by decide)
  have hr_multiplied : Room 6 _ := hr.mono (by decide)
  have hr__law_done : Room 7 _ := hr.mono (by decide)
  have hr__law_common : Room 1 _ := hr.mono (by decide)
  obtain ⟨b0, v0, v1, rfl, b, n, t, w1, p1, u1, t', w2, p2, u2, rfl, rfl, rfl, hn, hb, ht, ht', k⟩ := sp3_is h
  refine ⟨_, (pss_cons (ps_asg (pe_tup (pa_cons (pe_make T.mk_Bound F_Bound_init hr_Bound_init (by rfl) T.g_Bound B_Bound_init .nil passL (pa_cons (pe_ix ix_tup (pv 1) pe_int (fun _ _ => rfl)) (pa_cons (pe_ix ix_tup (pv 1) pe_int (fun _ _ => rfl)) (pa_cons (pe_ix ix_tup (pv 1) pe_int (fun _ _ => rfl)) pa_nil)))) (pa_cons (pe_make T.mk_Bound F_Bound_init hr_Bound_init (by rfl) T.g_Bound B_Bound_init .nil passL (pa_cons (pe_ix ix_tup (pv 2) pe_int (fun _ _ => rfl)) (pa_cons (pe_ix ix_tup (pv 2) pe_int (fun _ _ => rfl)) (pa_cons (pe_ix ix_tup (pv 2) pe_int (fun _ _ => rfl)) pa_nil)))) pa_nil))) (pg_tup rfl (pgs_cons (pg_name (i := 3) sc__law_two_right.nd rfl (Or.inr rfl)) (pgs_cons (pg_name (i := 4) sc__law_two_right.nd rfl (Or.inr rfl)) pgs_nil))))
      (pss_cons (ps_set (i := 5) sc__law_two_right.nd rfl (Or.inl rfl) (pe_call F__law_common hr__law_common (by rfl) T.g__law_common T.k__law_common B__law_common .nil passL (pa_cons (pv 1) (pa_cons (pv 2) pa_nil))))
      (pss_cons (ps_if (pt_cmpR op_isN (pv 5) pe_non (nomark _)) (pss_cons (ps_set (i := 6) sc__law_two_right.nd rfl (Or.inl rfl) (pe_op op_cat (pe_lc (own := [("way", 7)]) (g := gName 7) (tt := tYes)  rfl sc__law_two_right.nd (pi_range1 (by rfl) T.b_range (pa_cons pe_int pa_nil)) (blkOk_by (own := [("way", 7)]) (N := ["bag", "one", "other", "mine", "its", "under", "told", "way", "total", "product", "left", "gain"]) (sc := defScope s__law_two_right) (by decide +kernel)) (fun _ _ _ _ _ => (pg_name (i := 7) sc__law_two_right.nd rfl (Or.inl rfl))) (fun _ _ _ _ _ => pts_nil) (fun _ _ _ _ _ => (pe_call F__law_done hr__law_done (by rfl) T.g__law_done T.k__law_done B__law_done .nil passL (pa_cons (pv 7) (pa_cons (pv 3) (pa_cons (pv 4) pa_nil)))))) (pe_lc (own := [("way", 7)]) (g := gName 7) (tt := tYes)  rfl sc__law_two_right.nd (pi_range1 (by rfl) T.b_range (pa_cons pe_int pa_nil)) (blkOk_by (own := [("way", 7)]) (N := ["bag", "one", "other", "mine", "its", "under", "told", "way", "total", "product", "left", "gain"]) (sc := defScope s__law_two_right) (by decide +kernel)) (fun _ _ _ _ _ => (pg_name (i := 7) sc__law_two_right.nd rfl (Or.inl rfl))) (fun _ _ _ _ _ => pts_nil) (fun _ _ _ _ _ => (pe_call F__law_done hr__law_done (by rfl) T.g__law_done T.k__law_done B__law_done .nil passL (pa_cons (pv 7) (pa_cons (pv 4) (pa_cons (pv 3) pa_nil))))))))
      (pss_one (ps_ret (pe_cmpR (op_eqD hr.units) (pv 6) (pe_op op_rep (pe_lst (pa_cons (pe_tup (pa_cons pe_str (pa_cons pe_str pa_nil))) pa_nil)) pe_int) (nomark _))))) pss_nil)
      (pss_cons (ps_set (i := 8) sc__law_two_right.nd rfl (Or.inl rfl) (pe_tup (pa_cons (pe_op op_add (pe_ix ix_tup (pv 1) pe_int (fun _ _ => rfl)) (pe_ix ix_tup (pv 2) pe_int (fun _ _ => rfl))) (pa_cons (pe_op op_add (pe_ix ix_tup (pv 1) pe_int (fun _ _ => rfl)) (pe_ix ix_tup (pv 2) pe_int (fun _ _ => rfl))) (pa_cons (pv 5) pa_nil)))))
      (pss_cons (ps_set (i := 9) sc__law_two_right.nd rfl (Or.inl rfl) (pe_tup (pa_cons (pe_op op_add (pe_op op_mulW (pe_ix ix_tup (pv 1) pe_int (fun _ _ => rfl)) (pe_ix ix_tup (pv 2) pe_int (fun _ _ => rfl))) (pe_op op_mulW (pe_op op_mulW (pe_ix ix_tup (pv 1) pe_int (fun _ _ => rfl)) (pe_ix ix_tup (pv 2) pe_int (fun _ _ => rfl))) (pv 5))) (pa_cons (pe_op op_add (pe_op op_mulW (pe_ix ix_tup (pv 1) pe_int (fun _ _ => rfl)) (pe_ix ix_tup (pv 2) pe_int (fun _ _ => rfl))) (pe_op op_mulW (pe_ix ix_tup (pv 1) pe_int (fun _ _ => rfl)) (pe_ix ix_tup (pv 2) pe_int (fun _ _ => rfl)))) (pa_cons (pv 5) pa_nil)))))
      (pss_cons (ps_if (PW.pt (pw_or (pt_not (pt_val (pe_call F__law_is hr__law_is (by rfl) T.g__law_is T.k__law_is B__law_is .nil passL (pa_cons (pe_call F_added hr_added (by rfl) T.g_added T.k_added B_added .nil passL (pa_cons (pv 3) (pa_cons (pv 4) pa_nil))) (pa_cons (pv 8) pa_nil))))) (pw_or1 (pt_not (pt_val (pe_call F__law_is hr__law_is (by rfl) T.g__law_is T.k__law_is B__law_is .nil passL (pa_cons (pe_callK0 F_multiplied hr_multiplied (by rfl) T.g_multiplied T.k_multiplied kb_multiplied_0 passL (pk_cons (pv 3) (pk_cons (pv 4) pk_nil))) (pa_cons (pv 9) pa_nil)))))))) (pss_one (ps_ret pe_bl)) pss_nil)
      (pss_cons (ps_if (PW.pt (pw_or (pt_cmpR op_ne (pe_call F_sign_of hr_sign_of (by rfl) T.g_sign_of T.k_sign_of B_sign_of .nil passL (pa_cons (pe_call F_multiplied hr_multiplied (by rfl) T.g_multiplied T.k_multiplied B_multiplied .nil passL (pa_cons (pv 3) (pa_cons (pv 4) pa_nil))) pa_nil)) (pe_op op_mulW (pe_call F__law_sign hr__law_sign (by rfl) T.g__law_sign T.k__law_sign B__law_sign .nil passL (pa_cons (pv 1) pa_nil)) (pe_call F__law_sign hr__law_sign (by rfl) T.g__law_sign T.k__law_sign B__law_sign .nil passL (pa_cons (pv 2) pa_nil))) (nomark _)) (pw_or1 (pt_cmpR op_ne (pe_call F_sign_of hr_sign_of (by rfl) T.g_sign_of T.k_sign_of B_sign_of .nil passL (pa_cons (pe_callK0 F_added hr_added (by rfl) T.g_added T.k_added kb_added_0 passL (pk_cons (pv 4) (pk_cons (pv 3) pk_nil))) pa_nil)) (pe_call F__law_sign hr__law_sign (by rfl) T.g__law_sign T.k__law_sign B__law_sign .nil passL (pa_cons (pv 8) pa_nil)) (nomark _))))) (pss_one (ps_ret pe_bl)) pss_nil)
      (pss_cons (ps_set (i := 10) sc__law_two_right.nd rfl (Or.inl rfl) (pe_call F__law_sign hr__law_sign (by rfl) T.g__law_sign T.k__law_sign B__law_sign .nil passL (pa_cons (pe_tup (pa_cons (pe_op op_sub (pe_ix ix_tup (pv 2) pe_int (fun _ _ => rfl)) (pe_ix ix_tup (pv 1) pe_int (fun _ _ => rfl))) (pa_cons (pe_op op_sub (pe_ix ix_tup (pv 2) pe_int (fun _ _ => rfl)) (pe_ix ix_tup (pv 1) pe_int (fun _ _ => rfl))) (pa_cons (pv 5) pa_nil)))) pa_nil)))
      (pss_cons (ps_if (PW.pt (pw_or (pt_cmpR (op_neD hr.units) (pe_lst (pa_cons (pe_call F_at_most hr_at_most (by rfl) T.g_at_most T.k_at_most B_at_most .nil passL (pa_cons (pv 3) (pa_cons (pv 4) pa_nil))) (pa_cons (pe_callK0 F_at_most hr_at_most (by rfl) T.g_at_most T.k_at_most kb_at_most_0 passL (pk_cons (pv 3) (pk_cons (pv 4) pk_nil))) pa_nil))) (pe_lst (pa_cons (pe_cmpR op_ge (pv 10) pe_int (nomark _)) (pa_cons (pe_cmpR op_le (pv 10) pe_int (nomark _)) pa_nil))) (nomark _)) (pw_or1 (pt_not (pt_val (pe_callB (cr_isi rfl) (by rfl) T.b_isinstance (by decide +kernel) (pa_cons (pe_call F_at_most hr_at_most (by rfl) T.g_at_most T.k_at_most B_at_most .nil passL (pa_cons (pv 3) (pa_cons (pv 4) pa_nil))) (pa_cons (pe_bltn (v := .ty "bool") (by rfl) T.b_bool (by decide +kernel) rfl) pa_nil)))))))) (pss_one (ps_ret pe_bl)) pss_nil)
      (pss_cons (ps_set (i := 11) sc__law_two_right.nd rfl (Or.inl rfl) (pe_make T.mk_Bound F_Bound_init hr_Bound_init (by rfl) T.g_Bound B_Bound_init .nil passL (pa_cons (pe_call F__law_signed hr__law_signed (by rfl) T.g__law_signed T.k__law_signed B__law_signed .nil passL (pa_cons (pv 0) (pa_cons (pe_call F__law_great hr__law_great (by rfl) T.g__law_great T.k__law_great B__law_great .nil passL (pa_cons (pv 0) pa_nil)) pa_nil))) (pa_cons pe_int (pa_cons (pe_call F__law_draw hr__law_draw (by rfl) T.g__law_draw T.k__law_draw B__law_draw .nil passL (pa_cons (pv 0) (pa_cons pe_int pa_nil))) pa_nil)))))
      (pss_cons (ps_if (pt_cmpR op_ne (pe_call F_at_most hr_at_most (by rfl) T.g_at_most T.k_at_most B_at_most .nil passL (pa_cons (pe_call F_added hr_added (by rfl) T.g_added T.k_added B_added .nil passL (pa_cons (pv 3) (pa_cons (pv 11) pa_nil))) (pa_cons (pe_call F_added hr_added (by rfl) T.g_added T.k_added B_added .nil passL (pa_cons (pv 11) (pa_cons (pv 4) pa_nil))) pa_nil))) (pe_cmpR op_ge (pv 10) pe_int (nomark _)) (nomark _)) (pss_one (ps_ret pe_bl)) pss_nil)
      (pss_one (ps_ret (pe_and (pe_call F__law_is hr__law_is (by rfl) T.g__law_is T.k__law_is B__law_is .nil passL (pa_cons (pv 3) (pa_cons (pv 1) pa_nil))) (pe_one (pe_call F__law_is hr__law_is (by rfl) T.g__law_is T.k__law_is B__law_is .nil passL (pa_cons (pv 4) (pa_cons (pv 2) pa_nil)))))))))))))))))), ?_⟩
  obtain ⟨ho, hu1, zw1, zp1, zu1⟩ := ht
  obtain ⟨ho', hu2, zw2, zp2, zu2⟩ := ht'
  walk_at "rd"
  refine r_ixT ho (v := .int w1) rfl ?_
  walk_at "rd"
  refine r_ixT ho (v := .int p1) rfl ?_
  walk_at "rd"
  refine r_ixT ho (v := .int u1) rfl ?_
  walk_at "rd"
  refine r_Bound hu1 fun B H1 _ e1 hB => ?_
  have g1 := e1 _ _ ho'
  walk_at "rd"
  refine r_ixT g1 (v := .int w2) rfl ?_
  walk_at "rd"
  refine r_ixT g1 (v := .int p2) rfl ?_
  walk_at "rd"
  refine r_ixT g1 (v := .int u2) rfl ?_
  walk_at "rd"
  refine r_Bound hu2 fun B' H2 _ e2 hB' => ?_
  walk_at "rd"
  refine r_newT (sz_le (by simp)) fun q H3 hq e3 h3 => ?_
  refine r_gTup h3 rfl ?_
  have hB3 := hB.ex (e2.trans e3)
  have hB3' := hB'.ex e3
  have e03 : Ex H H3 := (e1.trans e2).trans e3
  walk_at "rd"
  refine ⟨t, w1, p1, u1, t', w2, p2, u2, rfl, rfl, e03 _ _ ho, e03 _ _ ho', ?_⟩
  walk_at "rx"
  clear hB hB' g1 h3 e1 e2 e3
  cases hc : cmu p1 u1 p2 u2 with
  | none =>
    walk_at "rd"
    refine ⟨rfl, ?_⟩
    walk_at "rd"
    refine ite_t (by simp [oV]) ?_
    walk_at "rd"
    refine ⟨3, rfl, by decide, by decide, ?_⟩
    refine r_lcT (n := 3) (k := 7) (walk_range (lo := 0) (n := 3)) [.str "misfit", .str "under"] (by decide) (fun _ _ => trivial) (fun _ => rfl) ?_ ?_
    · rintro i x H4 H5 hi e4 ⟨rfl, rfl⟩
      refine ⟨Ex.refl _, fun R r => ?_⟩
      walk_at "rd"
      exact r_Done (hB3.ex e4) (hB3'.ex e4) hc r
    intro D1 ys H4 hD1 e4 hl1 ln1 al1
    walk_at "rd"
    refine ⟨3, rfl, by decide, by decide, ?_⟩
    refine r_lcT (n := 3) (k := 7) (walk_range (lo := 0) (n := 3)) [.str "misfit", .str "under"] (by decide) (fun _ _ => trivial) (fun _ => rfl) ?_ ?_
    · rintro i x H5 H6 hi e5 ⟨rfl, rfl⟩
      refine ⟨Ex.refl _, fun R r => ?_⟩
      walk_at "rd"
      exact r_Done ((hB3'.ex e4).ex e5) ((hB3.ex e4).ex e5) (cmu_symN hc) r
    intro D2 zs H5 hD2 e5 hl2 ln2 al2
    walk_at "rd"
    have P1 := (prs_all (p := ("misfit", "under")) ln1 al1).ex e5
    have P2 := prs_all (p := ("misfit", "under")) ln2 al2
    have P12 := P1.append P2
    refine ⟨D1, D2, ys, zs, rfl, rfl, e5 _ _ hl1, hl2, sz_le (by omega), fun D hD => ?_⟩
    have e6 : Ex H5 (upd H5 D (.lst (ys ++ zs))) := Ex.new hD
    have h6 : (upd H5 D (.lst (ys ++ zs))) D = some (.lst (ys ++ zs)) := upd_same
    generalize upd H5 D (.lst (ys ++ zs)) = H6 at e6 h6 ⊢
    walk_at "rd"
    refine r_newT (sz_le (by simp)) fun T1 H7 hT1 e7 h7 => ?_
    walk_at "rd"
    refine r_newL (sz_le (by simp)) fun L1 H8 hL1 e8 h8 => ?_
    refine ⟨L1, 6, _, rfl, rfl, h8, by decide, by decide, sz_le (by simp), fun D3 hD3 => ?_⟩
    have e9 : Ex H8 (upd H8 D3 (.lst (List.replicate (Int.toNat 6) [V.ref T1]).flatten)) := Ex.new hD3
    have h9 : (upd H8 D3 (.lst (List.replicate (Int.toNat 6) [V.ref T1]).flatten)) D3 = some (.lst (List.replicate (Int.toNat 6) [V.ref T1]).flatten) := upd_same
    generalize upd H8 D3 (.lst (List.replicate (Int.toNat 6) [V.ref T1]).flatten) = H9 at e9 h9 ⊢
    have e69 : Ex H6 H9 := (e7.trans e8).trans e9
    have P3 : Prs H9 (List.replicate (Int.toNat 6) [V.ref T1]).flatten (List.replicate 3 (("misfit", "under") : Str × Str) ++ List.replicate 3 (("misfit", "under") : Str × Str)) := by
      have : ∃ t, V.ref T1 = .ref t ∧ H9 t = some (.tup [.str "misfit", .str "under"]) := ⟨T1, rfl, (e8.trans e9) _ _ h7⟩
      exact ⟨this, this, this, this, this, this, trivial⟩
    refine r_eqPrs _ (e69 _ _ h6) h9 (P12.ex (e6.trans e69)) P3 (by decide +kernel) (by decide +kernel) ?_
    have ee : Ex H H9 := ((e03.trans (e4.trans e5)).trans e6).trans e69
    exact k H9 (Bu.of ee) ((hb.ex ee).le (by omega))
  | some c =>
    walk_at "rd"
    refine ⟨rfl, ?_⟩
    walk_at "rd"
    refine ite_f (by simp [oV]) ?_
    walk_at "rd"
    have zc := cmu_z zu1 zu2 hc
    have hcn := cmu_nn hu1 hu2 hc
    have ho3 := e03 _ _ ho
    have ho3' := e03 _ _ ho'
    refine r_ixT ho3 (v := .int w1) rfl ?_
    walk_at "rd"
    refine r_ixT ho3' (v := .int w2) rfl ?_
    walk_at "rd"
    refine r_ixT ho3 (v := .int p1) rfl ?_
    walk_at "rd"
    refine r_ixT ho3' (v := .int p2) rfl ?_
    walk_at "rd"
    refine r_newT (sz_le (by simp)) fun T1 H4 hT1 e4 hT => ?_
    have ho4 := e4 _ _ ho3
    have ho4' := e4 _ _ ho3'
    walk_at "rd"
    refine r_ixT ho4 (v := .int w1) rfl ?_
    walk_at "rd"
    refine r_ixT ho4' (v := .int w2) rfl ?_
    walk_at "rd"
    refine r_I (mulOk zw1 zw2 (by decide) (by decide) (by decide)) ?_
    walk_at "rd"
    refine r_ixT ho4 (v := .int p1) rfl ?_
    walk_at "rd"
    refine r_ixT ho4' (v := .int p2) rfl ?_
    walk_at "rd"
    refine r_I (mulOk zp1 zp2 (by decide) (by decide) (by decide)) ?_
    walk_at "rd"
    refine r_I (mulOk (zp1.mul zp2) zc (by decide) (by decide) (by decide)) ?_
    walk_at "rd"
    refine r_ixT ho4 (v := .int w1) rfl ?_
    walk_at "rd"
    refine r_ixT ho4' (v := .int p2) rfl ?_
    walk_at "rd"
    refine r_I (mulOk zw1 zp2 (by decide) (by decide) (by decide)) ?_
    walk_at "rd"
    refine r_ixT ho4 (v := .int p1) rfl ?_
    walk_at "rd"
    refine r_ixT ho4' (v := .int w2) rfl ?_
    walk_at "rd"
    refine r_I (mulOk zp1 zw2 (by decide) (by decide) (by decide)) ?_
    walk_at "rd"
    refine r_newT (sz_le (by simp)) fun T2 H5 hT2 e5 hP => ?_
    have hT5 := e5 _ _ hT
    have hB5 := (hB3.ex e4).ex e5
    have hB5' := (hB3'.ex e4).ex e5
    have ho5 := e5 _ _ ho4
    have ho5' := e5 _ _ ho4'
    have e05 : Ex H H5 := (e03.trans e4).trans e5
    clear hT ho3 ho3' ho4 ho4' hB3 hB3' e4 e5 e03
    walk_at "rd"
    refine r_add hB5 hB5' hc fun S H6 e6 hS => ?_
    walk_at "rd"
    refine r_isT hS (e6 _ _ hT5) fun H7 e7 => ?_
    walk_at "rd"
    refine ite_f rfl ?_
    have e57 : Ex H5 H7 := e6.trans e7
    walk_at "rd"
    refine r_clKN (vs := [.ref B, .ref B']) rfl rfl (r_mult (hB5.ex e57) (hB5'.ex e57) hc (zw1.mono (by decide)) (zp1.mono (by decide)) (zw2.mono (by decide)) (zp2.mono (by decide)) (zc.mono (by decide)) fun M H8 e8 hM => ?_)
    walk_at "rd"
    have e58 : Ex H5 H8 := e57.trans e8
    walk_at "rd"
    refine r_isT hM (e58 _ _ hP) fun H9 e9 => ?_
    walk_at "rd"
    refine ite_f rfl ?_
    have e59 : Ex H5 H9 := e58.trans e9
    walk_at "rd"
    refine r_mult (hB5.ex e59) (hB5'.ex e59) hc (zw1.mono (by decide)) (zp1.mono (by decide)) (zw2.mono (by decide)) (zp2.mono (by decide)) (zc.mono (by decide)) fun M2 H10 e10 hM2 => ?_
    walk_at "rd"
    have zW : Z 1000 (w1 * w2 + p1 * p2 * c) := (((zw1.mul zw2).mono (m := 330) (by decide)).add ((zp1.mul zp2).mul zc)).mono (by decide)
    have zP : Z 1000 (w1 * p2 + p1 * w2) := ((zw1.mul zp2).add (zp1.mul zw2)).mono (by decide)
    walk_at "rd"
    refine r_sg hM2 zW zP (zc.mono (by decide)) ?_
    walk_at "rd"
    have e510 : Ex H5 H10 := e59.trans e10
    walk_at "rd"
    refine r_ls (e510 _ _ ho5) hu1 (zw1.mono (by decide)) (zp1.mono (by decide)) (zu1.mono (by decide)) fun H11 e11 => ?_
    walk_at "rd"
    refine r_ls (e11 _ _ (e510 _ _ ho5')) hu2 (zw2.mono (by decide)) (zp2.mono (by decide)) (zu2.mono (by decide)) fun H12 e12 => ?_
    walk_at "rd"
    have zs : ∀ w p u, Z 2 (sgn w p u) := fun w p u => by
      unfold sgn
      split
      · exact Z.sg _
      · rw [← sgI_mul]
        exact Z.sg _
    refine r_I (mulOk (zs _ _ _) (zs _ _ _) (by decide) (by decide) (by decide)) ?_
    walk_at "rd"
    rw [sgn_mul hcn, ← (sgn_common (w1 := w1) (w2 := w2) hc).1, ← (sgn_common (w1 := w1) (w2 := w2) hc).2]
    refine ite_f (by simp) ?_
    have e512 : Ex H5 H12 := (e510.trans e11).trans e12
    walk_at "rd"
    refine r_clKN (vs := [.ref B, .ref B']) rfl rfl (r_add (hB5.ex e512) (hB5'.ex e512) hc fun S2 H13 e13 hS2 => ?_)
    walk_at "rd"
    have zT1 : Z 111 (w1 + w2) := zw1.add zw2
    have zT2 : Z 111 (p1 + p2) := zp1.add zp2
    refine r_sg hS2 (zT1.mono (by decide)) (zT2.mono (by decide)) (zc.mono (by decide)) ?_
    walk_at "rd"
    have e513 : Ex H5 H13 := e512.trans e13
    refine r_ls (e513 _ _ hT5) hcn (zT1.mono (by decide)) (zT2.mono (by decide)) (zc.mono (by decide)) fun H14 e14 => ?_
    walk_at "rd"
    refine ite_f (by simp) ?_
    have e514 : Ex H5 H14 := e513.trans e14
    walk_at "rd"
    have ho14 := e514 _ _ ho5
    have ho14' := e514 _ _ ho5'
    refine r_ixT ho14' (v := .int w2) rfl ?_
    walk_at "rd"
    refine r_ixT ho14 (v := .int w1) rfl ?_
    walk_at "rd"
    refine r_ixT ho14' (v := .int p2) rfl ?_
    walk_at "rd"
    refine r_ixT ho14 (v := .int p1) rfl ?_
    walk_at "rd"
    refine r_newT (sz_le (by simp)) fun T3' H15 _ e15 hL => ?_
    have zd1 : Z 111 (w2 - w1) := zw2.sub zw1
    have zd2 : Z 111 (p2 - p1) := zp2.sub zp1
    refine r_ls hL hcn (zd1.mono (by decide)) (zd2.mono (by decide)) (zc.mono (by decide)) fun H16 e16 => ?_
    walk_at "rx"
    have e516 : Ex H5 H16 := (e514.trans e15).trans e16
    have hB16 := hB5.ex e516
    have hB16' := hB5'.ex e516
    have hb16 := hb.ex (e05.trans e516)
    have ho16 := e516 _ _ ho5
    have ho16' := e516 _ _ ho5'
    have e016 := e05.trans e516
    clear e6 e7 e8 e9 e10 e11 e12 e13 e14 e15 e16 e57 e58 e59 e510 e512 e513 e514 hS hM hM2 hS2 hL hB5 hB5' ho14 ho14' hT5 hP
    generalize hl : sgn (w2 - w1) (p2 - p1) c = left
    have hfl : ∀ c', (c' = c ∨ (p1 = 0 ∧ p2 = 0)) → sgn (w2 - w1) (p2 - p1) c' = left := by
      intro c' hc'
      rcases hc' with rfl | ⟨z1, z2⟩
      · exact hl
      · rw [← hl, z1, z2, Int.sub_self, sgn_noPart, sgn_noPart]
    have hfl2 : sgn (w1 - w2) (p1 - p2) c = -left := by rw [sgn_flip, hl]
    walk_at "rd"
    refine r_most hB16 hB16' hc (zw1.mono (by decide)) (zp1.mono (by decide)) (zw2.mono (by decide)) (zp2.mono (by decide)) (zc.mono (by decide)) fun H17 e17 => ?_
    walk_at "rd"
    obtain ⟨c', hc', ec⟩ := cmu_sym hc
    have zc' := cmu_z zu2 zu1 hc'
    refine r_clKN (vs := [.ref B', .ref B]) rfl rfl (r_most (hB16'.ex e17) (hB16.ex e17) hc' (zw2.mono (by decide)) (zp2.mono (by decide)) (zw1.mono (by decide)) (zp1.mono (by decide)) (zc'.mono (by decide)) fun H18 e18 => ?_)
    walk_at "rd"
    rw [hfl c' ec, hfl2]
    refine r_newL (sz_le (by simp)) fun D1 H19 _ e19 h19 => ?_
    walk_at "rd"
    refine r_newL (sz_le (by simp)) fun D2 H20 _ e20 h20 => ?_
    have ed1 : decide (-left ≤ 0) = decide (0 ≤ left) := by
      by_cases z : 0 ≤ left
      · rw [decide_eq_true z, decide_eq_true (by omega)]
      · rw [decide_eq_false z, decide_eq_false (by omega)]
    rw [ed1] at h19
    refine r_neBools (e20 _ _ h19) h20 ?_
    walk_at "rd"
    refine ite_f rfl ?_
    have e620 : Ex H16 H20 := ((e17.trans e18).trans e19).trans e20
    walk_at "rd"
    refine r_most (hB16.ex e620) (hB16'.ex e620) hc (zw1.mono (by decide)) (zp1.mono (by decide)) (zw2.mono (by decide)) (zp2.mono (by decide)) (zc.mono (by decide)) fun H21 e21 => ?_
    walk_at "rd"
    refine ⟨_, _, _, _, true, rfl, .ty "bool", .base (.bl _), kit_ty (by decide +kernel), ?_⟩
    walk_at "rd"
    refine ite_f rfl ?_
    have e621 := e620.trans e21
    have hB21 := hB16.ex e621
    have hB21' := hB16'.ex e621
    have hb21 := hb16.ex e621
    have ho21 := e621 _ _ ho16
    have ho21' := e621 _ _ ho16'
    have e021 := e016.trans e621
    clear e17 e18 e19 e20 e21 h19 h20 e620 e621 hB16 hB16' hb16 ho16 ho16'
    walk_at "rd"
    refine r_Great hb21 (by omega) fun d1 H22 a1 b1 u22 hb22 => ?_
    have gd : G20 d1 := .pos a1 b1
    walk_at "rd"
    refine r_Signed hb22 (by omega) (gd.z.mono (by decide)) fun s1 H23 es u23 hb23 => ?_
    have gs := gd.sg es
    walk_at "rd"
    refine r_Draw hb23 (by omega) (by decide) ((Z.small (by decide)).mono (by decide)) fun ug H24 a2 b2 u24 hb24 => ?_
    have hB24 := ((hB21.bu hb21 u22).bu hb22 u23).bu hb23 u24
    have hB24' := ((hB21'.bu hb21 u22).bu hb22 u23).bu hb23 u24
    have tt : ∀ {x : Addr} {l : List V}, H21 x = some (.tup l) → H24 x = some (.tup l) := fun {x l} hx => by
      have h1 := u22 _ _ (hb21.ne hx fun _ _ _ z => by cases z) hx
      have h2 := u23 _ _ (hb22.ne h1 fun _ _ _ z => by cases z) h1
      exact u24 _ _ (hb23.ne h2 fun _ _ _ z => by cases z) h2
    have ho24 := tt ho21
    have ho24' := tt ho21'
    have bu24 : Bu b H H24 := (((Bu.of e021).trans u22).trans u23).trans u24
    clear hB21 hB21' ho21 ho21' hb21 hb22 hb23 u22 u23 u24 e021
    walk_at "rd"
    refine r_Bound a2 fun Gn H25 _ e25 hG => ?_
    walk_at "rd"
    have hB25 := hB24.ex e25
    have hB25' := hB24'.ex e25
    have c1 : cmu p1 u1 0 ug = some u1 := by unfold cmu; rw [if_neg (fun z => z.2.2 rfl), if_pos rfl]
    have c2 : cmu 0 ug p2 u2 = some (if p2 = 0 then ug else u2) := by unfold cmu; rw [if_neg (fun z => z.2.1 rfl)]
    refine r_add hB25 hG c1 fun A1 H26 e26 hA1 => ?_
    walk_at "rd"
    refine r_add (hG.ex e26) (hB25'.ex e26) c2 fun A2 H27 e27 hA2 => ?_
    walk_at "rd"
    have c3 : cmu (p1 + 0) u1 (0 + p2) (if p2 = 0 then ug else u2) = some c := by
      exact cmu_gain hc
    have zA1 : Z 111 (w1 + s1) := zw1.add (gs.z.mono (by decide))
    have zA2 : Z 111 (s1 + w2) := (gs.z.mono (by decide)).add zw2
    refine r_most (hA1.ex e27) hA2 c3 (zA1.mono (by decide)) (by rw [Int.add_zero]; exact zp1.mono (by decide)) (zA2.mono (by decide)) (by rw [Int.zero_add]; exact zp2.mono (by decide)) (zc.mono (by decide)) fun H28 e28 => ?_
    walk_at "rd"
    refine r_ne rfl ?_
    rw [show w1 + s1 - (s1 + w2) = w1 - w2 by omega, show p1 + 0 - (0 + p2) = p1 - p2 by omega, hfl2, ed1]
    walk_at "rd"
    refine ite_f (by simp) ?_
    have e2528 : Ex H25 H28 := (e26.trans e27).trans e28
    walk_at "rd"
    refine r_isT (hB25.ex e2528) (e2528 _ _ (e25 _ _ ho24)) fun H29 e29 => ?_
    walk_at "rd"
    refine ite_t rfl ?_
    walk_at "rd"
    refine r_isT ((hB25'.ex e2528).ex e29) (e29 _ _ (e2528 _ _ (e25 _ _ ho24'))) fun H30 e30 => ?_
    have e2430 : Ex H24 H30 := ((e25.trans e2528).trans e29).trans e30
    refine k H30 (bu24.trans (Bu.of e2430)) ?_
    have := hb24.ex e2430
    exact this.le (by omega)

end K03
namespace K03
open PySem PySem.Spec PyProof.Rows L2 GS TL
local macro_rules | `(tactic| walk_at "rd") => `(tactic| (repeat (first
  | with_reducible refine r_next ?_
  | with_reducible refine r_seq ?_
  | with_reducible refine r_ret ?_
  | with_reducible refine r_ifS ?_
  | with_reducible refine r_asg ?_
  | with_reducible refine r_drop ?_
  | with_reducible refine r_op ?_
  | with_reducible refine r_un ?_
  | with_reducible refine r_cbInt ?_
  | with_reducible refine r_cbAbs ?_
  | with_reducible refine r_cbLen ?_
  | with_reducible refine r_cb ?_
  | with_reducible refine r_call ?_
  | with_reducible refine r_make ?_
  | with_reducible refine r_callN0 ?_
  | with_reducible refine r_makeK0 ?_
  | with_reducible refine r_makeS ?_
  | with_reducible refine r_callS ?_
  | with_reducible refine r_cons ?_
  | with_reducible refine r_nil ?_
  | with_reducible refine r_test ?_
  | with_reducible refine r_B ?_
  | with_reducible refine r_and ?_
  | with_reducible refine r_or ?_
  | with_reducible refine r_not ?_
  | with_reducible refine r_andV ?_
  | with_reducible refine r_orV ?_
  | with_reducible refine r_notV ?_
  | with_reducible refine r_if ?_
  | with_reducible refine r_tup ?_
  | with_reducible refine r_lst ?_
  | with_reducible refine r_c ?_
  | with_reducible refine r_lc ?_
  | with_reducible refine r_chain ?_
  | with_reducible refine r_iT ?_
  | with_reducible refine r_iL ?_
  | with_reducible refine r_iR1 ?_
  | with_reducible refine r_asgG ?_
  | with_reducible refine r_gSub ?_
  | with_reducible refine r_for ?_
  | with_reducible refine r_smeth ?_
  | with_reducible refine r_par ?_
  | with_reducible refine r_parK ?_
  | with_reducible refine r_gCons ?_
  | with_reducible refine r_gNil ?_
  | with_reducible refine r_gName ?_
  | with_reducible refine r_intI ?_
  | with_reducible refine r_intB ?_
  | with_reducible refine r_absI ?_
  | with_reducible refine r_k ?_
  | with_reducible refine r_kV ?_
  | ((with_reducible show tVar _ _ _ _); refine r_var3 ?_ (by rfl))
  | with_reducible refine r_I0 ?_
  | with_reducible refine r_U ?_
  | with_reducible refine r_eqI ?_
  | with_reducible refine r_neI ?_
  | dsimp only)))
local macro_rules | `(tactic| walk_at "rx") => `(tactic| (repeat (first
  | with_reducible refine r_next ?_
  | with_reducible refine r_ret ?_
  | with_reducible refine r_ifS ?_
  | with_reducible refine r_asg ?_
  | with_reducible refine r_drop ?_
  | with_reducible refine r_op ?_
  | with_reducible refine r_un ?_
  | with_reducible refine r_cbInt ?_
  | with_reducible refine r_cbAbs ?_
  | with_reducible refine r_cbLen ?_
  | with_reducible refine r_cb ?_
  | with_reducible refine r_call ?_
  | with_reducible refine r_make ?_
  | with_reducible refine r_callN0 ?_
  | with_reducible refine r_makeK0 ?_
  | with_reducible refine r_makeS ?_
  | with_reducible refine r_callS ?_
  | with_reducible refine r_cons ?_
  | with_reducible refine r_nil ?_
  | with_reducible refine r_test ?_
  | with_reducible refine r_B ?_
  | with_reducible refine r_and ?_
  | with_reducible refine r_or ?_
  | with_reducible refine r_not ?_
  | with_reducible refine r_andV ?_
  | with_reducible refine r_orV ?_
  | with_reducible refine r_notV ?_
  | with_reducible refine r_if ?_
  | with_reducible refine r_tup ?_
  | with_reducible refine r_lst ?_
  | with_reducible refine r_c ?_
  | with_reducible refine r_lc ?_
  | with_reducible refine r_chain ?_
  | with_reducible refine r_iT ?_
  | with_reducible refine r_iL ?_
  | with_reducible refine r_iR1 ?_
  | with_reducible refine r_asgG ?_
  | with_reducible refine r_gSub ?_
  | with_reducible refine r_for ?_
  | with_reducible refine r_smeth ?_
  | with_reducible refine r_par ?_
  | with_reducible refine r_parK ?_
  | with_reducible refine r_gCons ?_
  | with_reducible refine r_gNil ?_
  | with_reducible refine r_gName ?_
  | with_reducible refine r_intI ?_
  | with_reducible refine r_intB ?_
  | with_reducible refine r_absI ?_
  | with_reducible refine r_k ?_
  | with_reducible refine r_kV ?_
  | ((with_reducible show tVar _ _ _ _); refine r_var3 ?_ (by rfl))
  | with_reducible refine r_I0 ?_
  | with_reducible refine r_U ?_
  | with_reducible refine r_eqI ?_
  | with_reducible refine r_neI ?_
  | dsimp only)))
/-! ### what is refused -/
def Odd (K : PySem.W.Frag) (H : Hp) (b : Addr) (v : V) : Prop := isI v = false ∧ Kn K H v ∧ v ≠ .ref b
theorem Odd.bu {K : PySem.W.Frag} {H H' : Hp} {b : Addr} {v : V} (h : Odd K H b v) (e : Bu b H H') : Odd K H' b v := ⟨h.1, h.2.1.bu h.2.2 e, h.2.2⟩
theorem Odd.ex {K : PySem.W.Frag} {H H' : Hp} {b : Addr} {v : V} (h : Odd K H b v) (e : Ex H H') : Odd K H' b v := h.bu (Bu.of e)
theorem inB_not {v : V} {l m : Option Int} (h : isI v = false) : inB v l m = false := by cases v <;> first | rfl | cases h
section
variable {K : PySem.W.Frag} {H : Hp} {Q : VK} {E : XK} {x y z : V}
theorem r_m1 (h : isI x = false) (kn : Kn K H x) (k : Res "number" "whole" H Q) : spMade K ([x, y, z] ++ []) H Q E := ⟨_, .inl ⟨h, kn, rfl⟩, k⟩
theorem r_m2 (h0 : isI x = true) (h : isI y = false) (kn : Kn K H y) (k : Res "number" "part" H Q) : spMade K ([x, y, z] ++ []) H Q E := ⟨_, .inr (.inl ⟨h0, h, kn, rfl⟩), k⟩
theorem r_m3 (h0 : isI x = true) (h1 : isI y = true) (h : inB z (some 0) none = false) (kn : Kn K H z) (k : Res "number" "under" H Q) : spMade K ([x, y, z] ++ []) H Q E := ⟨_, .inr (.inr ⟨h0, h1, h, kn, rfl⟩), k⟩
end
theorem prs_ix {H : Hp} : ∀ {ys : List V} {ps : List (Str × Str)}, ys.length = ps.length → (∀ (i : Nat) (y : V) (p : Str × Str), ys[i]? = some y → ps[i]? = some p → ∃ t, y = .ref t ∧ H t = some (.tup [.str p.1, .str p.2])) → Prs H ys ps
  | [], [], _, _ => trivial
  | y :: ys, p :: ps, l, h => ⟨h 0 y p rfl rfl, prs_ix (Nat.succ.inj l) fun i y' p' a b => h (i + 1) y' p' a b⟩
theorem Kt.ex {K : PySem.W.Frag} {H H' : Hp} {v : V} (h : Kt K H v) (e : Ex H H') : Kt K H' v := let ⟨T, hT, h⟩ := h; ⟨T, hT, TyOf.ex' h fun a _ o q => e a o q⟩
theorem r_d1 {K : PySem.W.Frag} {H : Hp} {Q : VK} {E : XK} {i : Int} {v o : V} (h : Kt K H v) (k : Res "badbound" "one" H Q) : spDone K ([.int i, v, o] ++ []) H Q E := ⟨⟨_, rfl⟩, .inl ⟨h, k⟩⟩
theorem r_d2 {K : PySem.W.Frag} {H : Hp} {Q : VK} {E : XK} {i w p u : Int} {a : Addr} {o : V} (hb : Bd K H a w p u) (h : Kt K H o) (k : Res "badbound" "other" H Q) : spDone K ([.int i, .ref a, o] ++ []) H Q E := ⟨⟨_, rfl⟩, .inr ⟨a, w, p, u, rfl, hb, .inl ⟨h, k⟩⟩⟩
def spRefused : Sp := sp2 fun b v H Q _ => ∃ (p : Addr) (n : Int) (t : Addr) (w1 p1 u1 : Int), b = .ref p ∧ v = .ref t ∧ n ≤ 50000 ∧ Bag H p n ∧ Told 110 H t w1 p1 u1 ∧ ∀ H', Q (.bl true) H'
theorem ok__law_refused {P : Program} {w : World} {K : PySem.W.Frag} {mg : Str → Option Value} {base : Heap} (T : Txt K mg) : ∃ fd, FnOk P w K mg base (L2.CX P w) 8 (He.ga K "_law_refused") fd ["bag", "told"] (spRefused) ∧ Binds K fd ["bag", "told"] [] := by
  obtain ⟨fd, F⟩ := T.d__law_refused
  obtain ⟨fd_sign_of, F_sign_of, B_sign_of, kb_sign_of_0⟩ := ok_sign_of (P := P) (w := w) (base := base) T
  obtain ⟨fd__law_done, F__law_done, B__law_done⟩ := ok__law_done (P := P) (w := w) (base := base) T
  obtain ⟨fd__law_pick, F__law_pick, B__law_pick⟩ := ok__law_pick (P := P) (w := w) (base := base) T
  obtain ⟨fd_Bound_str, F_Bound_str, B_Bound_str⟩ := ok_Bound_str (P := P) (w := w) (base := base) T
  obtain ⟨fd_Bound_init, F_Bound_init, B_Bound_init, kb_Bound_init_0⟩ := ok_Bound_init (P := P) (w := w) (base := base) T
  obtain ⟨fd__law_made, F__law_made, B__law_made⟩ := ok__law_made (P := P) (w := w) (base := base) T
  obtain ⟨fd__law_great, F__law_great, B__law_great⟩ := ok__law_great (P := P) (w := w) (base := base) T
  refine ⟨fd, F.ok sc__law_refused sp2_len (fun cdv A outer s H vs Q E hr h => ?_), F.bindsN fun _ _ _ _ _ _ us hl => match us, hl with | [_, _], _ => rfl⟩
  have hr_sign_of : Room 4 _ := hr.mono (by decide)
  have hr__law_done : Room 7 _ := hr.mono (by decide)
  have hr__law_pick : Room 2 _ := hr.mono (by decide)
  have hr_Bound_str : Room 4 _ := hr.mono (by decide)
  have hr_Bound_init : Room 5 _ := hr.mono (by decide)
  have hr__law_made : Room 6 _ := hr.mono (by decide)
  have hr__law_great : Room 2 _ := hr.mono (by decide)
  obtain ⟨b0, v0, rfl, b, n, t, w1, p1, u1, rfl, rfl, hn, hb, ht, k⟩ := sp2_is h
  refine ⟨_, (pss_cons (ps_asg (pv 1) (pg_tup rfl (pgs_cons (pg_name (i := 2) sc__law_refused.nd rfl (Or.inl rfl)) (pgs_cons (pg_name (i := 3) sc__law_refused.nd rfl (Or.inl rfl)) (pgs_cons (pg_name (i := 4) sc__law_refused.nd rfl (Or.inl rfl)) pgs_nil)))))
      (pss_cons (ps_set (i := 5) sc__law_refused.nd rfl (Or.inl rfl) (pe_lst (pa_cons pe_bl (pa_cons pe_non (pa_cons pe_str (pa_cons (pe_lst (pa_cons pe_int pa_nil)) (pa_cons (pe_tup (pa_cons pe_int pa_nil)) (pa_cons (pe_make T.mk_Bound F_Bound_init hr_Bound_init (by rfl) T.g_Bound B_Bound_init .nil passL (pa_cons pe_int (pa_cons pe_int (pa_cons pe_int pa_nil)))) (pa_cons (pe_disp (pps_cons pe_str pe_int pps_nil) (by rfl) (by rfl) (fun z => by cases z) (by decide)) pa_nil)))))))))
      (pss_cons (ps_par (i := 6) (j := 7) (by rfl) sc__law_refused.nd rfl rfl (by decide) rfl rfl (pa_cons (pe_call F__law_pick hr__law_pick (by rfl) T.g__law_pick T.k__law_pick B__law_pick .nil passL (pa_cons (pv 0) (pa_cons (pv 5) pa_nil))) (pa_cons (pe_call F__law_pick hr__law_pick (by rfl) T.g__law_pick T.k__law_pick B__law_pick .nil passL (pa_cons (pv 0) (pa_cons (pv 5) pa_nil))) pa_nil)) (by rfl))
      (pss_cons (ps_set (i := 8) sc__law_refused.nd rfl (Or.inl rfl) (pe_op op_sub (pe_un un_neg pe_int) (pe_call F__law_great hr__law_great (by rfl) T.g__law_great T.k__law_great B__law_great .nil passL (pa_cons (pv 0) pa_nil))))
      (pss_cons (ps_set (i := 9) sc__law_refused.nd rfl (Or.inl rfl) (pe_lst (pa_cons (pe_call F__law_made hr__law_made (by rfl) T.g__law_made T.k__law_made B__law_made .nil passL (pa_cons (pv 6) (pa_cons (pv 3) (pa_cons (pv 4) pa_nil)))) (pa_cons (pe_call F__law_made hr__law_made (by rfl) T.g__law_made T.k__law_made B__law_made .nil passL (pa_cons (pv 6) (pa_cons (pv 7) (pa_cons (pv 8) pa_nil)))) (pa_cons (pe_call F__law_made hr__law_made (by rfl) T.g__law_made T.k__law_made B__law_made .nil passL (pa_cons (pv 2) (pa_cons (pv 6) (pa_cons (pv 8) pa_nil)))) (pa_cons (pe_call F__law_made hr__law_made (by rfl) T.g__law_made T.k__law_made B__law_made .nil passL (pa_cons (pv 2) (pa_cons (pv 3) (pa_cons (pv 6) pa_nil)))) pa_nil))))))
      (pss_cons (ps_set (i := 9) sc__law_refused.nd rfl (Or.inl rfl) (pe_op op_cat (pv 9) (pe_lst (pa_cons (pe_call F__law_made hr__law_made (by rfl) T.g__law_made T.k__law_made B__law_made .nil passL (pa_cons (pv 2) (pa_cons (pv 3) (pa_cons (pv 8) pa_nil)))) (pa_cons (pe_call F__law_made hr__law_made (by rfl) T.g__law_made T.k__law_made B__law_made .nil passL (pa_cons (pv 2) (pa_cons (pv 3) (pa_cons pe_bl pa_nil)))) pa_nil)))))
      (pss_cons (ps_if (pt_cmpR (op_neD hr.units) (pv 9) (pe_lc (own := [("word", 10)]) (g := gName 10) (tt := tYes)  rfl sc__law_refused.nd (pi_tup (pe_tup (pa_cons pe_str (pa_cons pe_str (pa_cons pe_str (pa_cons pe_str (pa_cons pe_str (pa_cons pe_str pa_nil)))))))) (blkOk_by (own := [("word", 10)]) (N := ["bag", "told", "whole", "part", "under", "odd", "one", "other", "below", "made", "word", "bound", "strange", "way", "told_errors", "error"]) (sc := defScope s__law_refused) (by decide +kernel)) (fun _ _ _ _ _ => (pg_name (i := 10) sc__law_refused.nd rfl (Or.inl rfl))) (fun _ _ _ _ _ => pts_nil) (fun _ _ _ _ _ => (pe_tup (pa_cons pe_str (pa_cons (pv 10) pa_nil))))) (nomark _)) (pss_one (ps_ret pe_bl)) pss_nil)
      (pss_cons (ps_set (i := 11) sc__law_refused.nd rfl (Or.inl rfl) (pe_make T.mk_Bound F_Bound_init hr_Bound_init (by rfl) T.g_Bound B_Bound_init .nil passL (pa_cons (pv 2) (pa_cons (pv 3) (pa_cons (pv 4) pa_nil)))))
      (pss_cons (ps_set (i := 12) sc__law_refused.nd rfl (Or.inl rfl) (pe_call F__law_pick hr__law_pick (by rfl) T.g__law_pick T.k__law_pick B__law_pick .nil passL (pa_cons (pv 0) (pa_cons (pe_lst (pa_cons (pv 1) (pa_cons (pe_callTy call_list_of (by rfl) T.b_list (by decide +kernel) (pa_cons (pv 1) pa_nil)) (pa_cons pe_non (pa_cons (pv 2) (pa_cons (pe_callTy (call_strOwn F_Bound_str hr_Bound_str T.me_Bound_str.at_ T.me_Bound_str.fn B_Bound_str passL) (by rfl) T.b_str (by decide +kernel) (pa_cons (pv 11) pa_nil)) (pa_cons pe_bl pa_nil))))))) pa_nil))))
      (pss_cons (ps_for (passes_of rfl) rfl (pi_range1 (by rfl) T.b_range (pa_cons pe_int pa_nil)) (pg_name (i := 13) sc__law_refused.nd rfl (Or.inl rfl)) (pss_cons (ps_set (i := 14) sc__law_refused.nd rfl (Or.inl rfl) (pe_lst (pa_cons (pe_call F__law_done hr__law_done (by rfl) T.g__law_done T.k__law_done B__law_done .nil passL (pa_cons (pv 13) (pa_cons (pv 12) (pa_cons (pv 12) pa_nil)))) (pa_cons (pe_call F__law_done hr__law_done (by rfl) T.g__law_done T.k__law_done B__law_done .nil passL (pa_cons (pv 13) (pa_cons (pv 12) (pa_cons (pv 11) pa_nil)))) (pa_cons (pe_call F__law_done hr__law_done (by rfl) T.g__law_done T.k__law_done B__law_done .nil passL (pa_cons (pv 13) (pa_cons (pv 11) (pa_cons (pv 12) pa_nil)))) pa_nil)))))
      (pss_one (ps_if (pt_cmpR (op_neD hr.units) (pv 14) (pe_lst (pa_cons (pe_tup (pa_cons pe_str (pa_cons pe_str pa_nil))) (pa_cons (pe_tup (pa_cons pe_str (pa_cons pe_str pa_nil))) (pa_cons (pe_tup (pa_cons pe_str (pa_cons pe_str pa_nil))) pa_nil)))) (nomark _)) (pss_one (ps_ret pe_bl)) pss_nil))))
      (pss_cons (ps_try_cls (Wout := fun _ _ _ _ => False) rfl rfl takes0 (fun W pn xe tk po => (pss_one (ps_expr (pe_callS F_sign_of hr_sign_of (by rfl) T.g_sign_of T.k_sign_of B_sign_of (fun σ => passAt tk σ) (pa_cons (pv 12) pa_nil))))) (ClsOk.cons (ClOk.as (i := 15) ⟨rfl, by decide, Or.inl T.g_BadBound⟩ sc__law_refused.nd rfl rfl (fun a oe cls d pn hz hf => (pss_one (ps_ret (pe_cmpR op_eq (pe_xf T.e_BadBound.xf (T.e_BadBound.no_ "part" (by simp)) hz hf (pv 15)) pe_str (nomark _)))))) (ClsOk.cons (ClOk.bare ⟨rfl, by decide, Or.inl T.g_SignsError⟩ (fun a oe cls d pn hz hf => (pss_one (ps_ret pe_bl)))) ClsOk.nil)))
      (pss_one (ps_ret pe_bl))))))))))))), ?_⟩
  obtain ⟨ho, hu1, zw1, zp1, zu1⟩ := ht
  walk_at "rd"
  refine r_gTup ho rfl ?_
  walk_at "rd"
  refine r_newL (sz_le (by simp)) fun L1 H1 hL1 e1 h1 => ?_
  walk_at "rd"
  refine r_newT (sz_le (by simp)) fun T1 H2 hT1 e2 h2 => ?_
  walk_at "rd"
  refine r_Bound (by decide) fun B0 H3 hB0 e3 h3 => ?_
  walk_at "rd"
  intro D hD
  refine ⟨upd_same, [(.inr "a", .int 1)], rfl, by decide, ?_⟩
  have e4 : Ex H3 (upd (upd H3 D (.dK [])) D (.dK (mergeK [] [(.inr "a", .int 1)]))) := Ex.mut (Ex.new hD) hD
  have h4 : (upd (upd H3 D (.dK [])) D (.dK (mergeK [] [(.inr "a", .int 1)]))) D = some (.dK (mergeK [] [(.inr "a", .int 1)])) := upd_same
  generalize upd (upd H3 D (.dK [])) D (.dK (mergeK [] [(.inr "a", .int 1)])) = H4 at e4 h4 ⊢
  walk_at "rd"
  refine r_newL (sz_le (by simp)) fun L0 H5 hL0 e5 h5 => ?_
  have nb : ∀ {x : Addr} {H0 : Hp}, Ex H H0 → H0 x = none → x ≠ b := fun {x H0} e hx => by
    obtain ⟨L, xs, y, z, hbb, _⟩ := hb.is
    intro ee
    rw [ee, e _ _ hbb] at hx
    cases hx
  have odd : ∀ v ∈ [V.bl true, .non, .str "1", .ref L1, .ref T1, .ref B0, .ref D], Odd K H5 b v := by
    intro v hv
    simp only [List.mem_cons, List.mem_nil_iff, or_false] at hv
    rcases hv with rfl | rfl | rfl | rfl | rfl | rfl | rfl
    · exact ⟨rfl, .inl ⟨"bool", by decide, .bl _⟩, fun z => by cases z⟩
    · exact ⟨rfl, .inl ⟨"NoneType", by decide, .non⟩, fun z => by cases z⟩
    · exact ⟨rfl, .inl ⟨"str", by decide, .str _⟩, fun z => by cases z⟩
    · exact ⟨rfl, .inl ⟨"list", by decide, .lst (e5 _ _ (e4 _ _ (e3 _ _ (e2 _ _ h1))))⟩, fun z => nb (Ex.refl _) hL1 (by cases z; rfl)⟩
    · exact ⟨rfl, .inl ⟨"tuple", by decide, .tup (e5 _ _ (e4 _ _ (e3 _ _ h2)))⟩, fun z => nb e1 hT1 (by cases z; rfl)⟩
    · exact ⟨rfl, .inr ⟨B0, _, _, _, rfl, (h3.ex e4).ex e5⟩, fun z => nb (e1.trans e2) hB0 (by cases z; rfl)⟩
    · exact ⟨rfl, .inl ⟨"dict", by decide, .dK (e5 _ _ h4)⟩, fun z => nb ((e1.trans e2).trans e3) hD (by cases z; rfl)⟩
  have e05 : Ex H H5 := (((e1.trans e2).trans e3).trans e4).trans e5
  have nL0 : L0 ≠ b := nb (((e1.trans e2).trans e3).trans e4) hL0
  have hb5 := hb.ex e05
  have ho5 := e05 _ _ ho
  clear h1 h2 h3 h4 e1 e2 e3 e4 e5
  generalize hod : [V.bl true, .non, .str "1", .ref L1, .ref T1, .ref B0, .ref D] = od at odd h5
  have lod : od ≠ [] ∧ od.length ≤ 1000 := by rw [← hod]; simp
  walk_at "rd"
  refine ⟨b, n, L0, od, rfl, rfl, h5, nL0, lod.1, lod.2, by omega, hb5, fun v1 H6 hv1 u6 hb6 => ?_⟩
  walk_at "rd"
  refine ⟨b, n + 1, L0, od, rfl, rfl, u6 _ _ nL0 h5, nL0, lod.1, lod.2, by omega, hb6, fun v2 H7 hv2 u7 hb7 => ?_⟩
  walk_at "rd"
  refine r_Great hb7 (by omega) fun g H8 g0 g1 u8 hb8 => ?_
  walk_at "rx"
  have u58 := (u6.trans u7).trans u8
  have od1 := (odd v1 hv1).bu u58
  have od2 := (odd v2 hv2).bu u58
  have ho8 := u58 _ _ (hb5.ne ho5 fun _ _ _ z => by cases z) ho5
  generalize hbl : -1 - g = below
  have hbelow : inB (.int below) (some 0) none = false := by simp [inB, loB, upB]; omega
  walk_at "rd"
  refine r_m1 od1.1 od1.2.1 fun t1 H9 e9 k1 => ?_
  walk_at "rd"
  refine r_m1 (od1.ex e9).1 (od1.ex e9).2.1 fun t2 H10 e10 k2 => ?_
  walk_at "rd"
  refine r_m2 rfl od1.1 ((od1.ex e9).ex e10).2.1 fun t3 H11 e11 k3 => ?_
  walk_at "rd"
  refine r_m3 rfl rfl (inB_not od1.1) (((od1.ex e9).ex e10).ex e11).2.1 fun t4 H12 e12 k4 => ?_
  walk_at "rd"
  refine r_newL (sz_le (by simp)) fun M1 H13 _ e13 hM1 => ?_
  walk_at "rd"
  refine r_m3 rfl rfl hbelow (kn_int _) fun t5 H14 e14 k5 => ?_
  walk_at "rd"
  refine r_m3 rfl rfl rfl (.inl ⟨"bool", by decide, .bl _⟩) fun t6 H15 e15 k6 => ?_
  walk_at "rd"
  refine r_newL (sz_le (by simp)) fun M2 H16 _ e16 hM2 => ?_
  walk_at "rd"
  refine ⟨M1, M2, _, _, rfl, rfl, e16 _ _ (e15 _ _ (e14 _ _ hM1)), hM2, sz_le (by simp), fun M3 hM3 => ?_⟩
  have e817 : Ex H8 H16 := ((((((e9.trans e10).trans e11).trans e12).trans e13).trans e14).trans e15).trans e16
  have K1 : ∃ t, V.ref t1 = .ref t ∧ H16 t = some (.tup [.str "number", .str "whole"]) := ⟨t1, rfl, ((((((e10.trans e11).trans e12).trans e13).trans e14).trans e15).trans e16) _ _ k1⟩
  have K2 : ∃ t, V.ref t2 = .ref t ∧ H16 t = some (.tup [.str "number", .str "whole"]) := ⟨t2, rfl, (((((e11.trans e12).trans e13).trans e14).trans e15).trans e16) _ _ k2⟩
  have K3 : ∃ t, V.ref t3 = .ref t ∧ H16 t = some (.tup [.str "number", .str "part"]) := ⟨t3, rfl, ((((e12.trans e13).trans e14).trans e15).trans e16) _ _ k3⟩
  have K4 : ∃ t, V.ref t4 = .ref t ∧ H16 t = some (.tup [.str "number", .str "under"]) := ⟨t4, rfl, (((e13.trans e14).trans e15).trans e16) _ _ k4⟩
  have K5 : ∃ t, V.ref t5 = .ref t ∧ H16 t = some (.tup [.str "number", .str "under"]) := ⟨t5, rfl, (e15.trans e16) _ _ k5⟩
  have K6 : ∃ t, V.ref t6 = .ref t ∧ H16 t = some (.tup [.str "number", .str "under"]) := ⟨t6, rfl, e16 _ _ k6⟩
  have PA : Prs H16 ([.ref t1, .ref t2, .ref t3, .ref t4] ++ [.ref t5, .ref t6]) [("number", "whole"), ("number", "whole"), ("number", "part"), ("number", "under"), ("number", "under"), ("number", "under")] := ⟨K1, K2, K3, K4, K5, K6, trivial⟩
  have e17 : Ex H16 (upd H16 M3 (.lst ([.ref t1, .ref t2, .ref t3, .ref t4] ++ [.ref t5, .ref t6]))) := Ex.new hM3
  have h17 : (upd H16 M3 (.lst ([.ref t1, .ref t2, .ref t3, .ref t4] ++ [.ref t5, .ref t6]))) M3 = some (.lst ([.ref t1, .ref t2, .ref t3, .ref t4] ++ [.ref t5, .ref t6])) := upd_same
  generalize upd H16 M3 (.lst ([.ref t1, .ref t2, .ref t3, .ref t4] ++ [.ref t5, .ref t6])) = H17 at e17 h17 ⊢
  replace PA := PA.ex e17
  have e87 : Ex H8 H17 := e817.trans e17
  have hb17 := hb8.ex e87
  have ho17 := e87 _ _ ho8
  clear K1 K2 K3 K4 K5 K6 k1 k2 k3 k4 k5 k6 hM1 hM2 e9 e10 e11 e12 e13 e14 e15 e16 e17 e817 odd od1 od2 e87 ho8 hb8 u6 u7 u8 u58 hb5 hb6 hb7 ho5
  walk_at "rd"
  refine r_newT (sz_le (by simp)) fun W1 H18 _ e18 hW => ?_
  refine ⟨W1, rfl, ⟨_, SqT.of hW⟩, ?_⟩
  refine r_lcI (n := 6) (k := 10) (walk_tup (xs := [.str "whole", .str "whole", .str "part", .str "under", .str "under", .str "under"])) (fun i => [.str "number", .str ((["whole", "whole", "part", "under", "under", "under"] : List Str).getD i "")]) (by decide) (fun H' e => e.sqt (SqT.of hW)) (fun _ => rfl) ?_ ?_
  · rintro j y H0 H' hj e0 ⟨rfl, hy⟩
    refine ⟨Ex.refl _, fun R r => ?_⟩
    have : y = .str ((["whole", "whole", "part", "under", "under", "under"] : List Str).getD j "") := by
      match j, hj with
      | 0, _ => exact (Option.some.inj hy).symm
      | 1, _ => exact (Option.some.inj hy).symm
      | 2, _ => exact (Option.some.inj hy).symm
      | 3, _ => exact (Option.some.inj hy).symm
      | 4, _ => exact (Option.some.inj hy).symm
      | 5, _ => exact (Option.some.inj hy).symm
    subst this
    walk_at "rd"
    exact r_newT (sz_le (by simp)) fun t H4 _ e4 h4 => r t H4 e4 h4
  intro M4 ys H19 hM4 e19 hl ln al
  have PB : Prs H19 ys [("number", "whole"), ("number", "whole"), ("number", "part"), ("number", "under"), ("number", "under"), ("number", "under")] := by
    refine prs_ix ln fun i y p h1 h2 => ?_
    obtain ⟨t, e, h3⟩ := al i y h1
    refine ⟨t, e, ?_⟩
    rw [h3]
    match i, h2 with
    | 0, h2 => cases h2; rfl
    | 1, h2 => cases h2; rfl
    | 2, h2 => cases h2; rfl
    | 3, h2 => cases h2; rfl
    | 4, h2 => cases h2; rfl
    | 5, h2 => cases h2; rfl
  have e1719 := e18.trans e19
  refine r_nePrs _ (e1719 _ _ h17) hl (PA.ex e1719) PB (by decide +kernel) (by decide +kernel) ?_
  walk_at "rd"
  refine ite_f rfl ?_
  walk_at "rd"
  have hb19 := hb17.ex e1719
  have ho19 := e1719 _ _ ho17
  clear PA PB h17 hl ho17 hb17 e1719 e18 e19 al hW
  refine r_Bound hu1 fun B H20 _ e20 hB => ?_
  walk_at "rd"
  have ho20 := e20 _ _ ho19
  refine ⟨t, _, rfl, .inr (SqT.of ho20), fun L2 hL2 => ?_⟩
  have hL2' : L2 ≠ b := by
    obtain ⟨L, xs, y, z, hbb, _⟩ := (hb19.ex e20).is
    intro ee
    rw [ee, hbb] at hL2
    cases hL2
  have e21 : Ex H20 (upd H20 L2 (.lst [.int w1, .int p1, .int u1])) := Ex.new hL2
  have h21 : (upd H20 L2 (.lst [.int w1, .int p1, .int u1])) L2 = some (.lst [.int w1, .int p1, .int u1]) := upd_same
  generalize upd H20 L2 (.lst [.int w1, .int p1, .int u1]) = H21 at e21 h21 ⊢
  walk_at "rd"
  refine r_strB (hB.ex e21) zw1 zp1 zu1 fun H22 e22 => ?_
  walk_at "rd"
  refine r_newL (sz_le (by simp)) fun L3 H23 hL3 e23 h23 => ?_
  have hb22 := (hb19.ex e20).ex (e21.trans e22)
  have hb23 := hb22.ex e23
  have hB23 := hB.ex ((e21.trans e22).trans e23)
  have nL3 : L3 ≠ b := by
    obtain ⟨L, xs, y, z, hbb, _⟩ := hb22.is
    intro ee
    rw [ee, hbb] at hL3
    cases hL3
  refine ⟨b, n + 5, L3, _, rfl, rfl, h23, nL3, by simp, by simp, by omega, hb23.le (by omega), fun v H24 hv u24 hb24 => ?_⟩
  have ktv : Kt K H24 v := by
    have tt : H24 t = some (.tup [.int w1, .int p1, .int u1]) := by
      have h := ((e21.trans e22).trans e23) _ _ ho20
      exact u24 _ _ (hb23.ne h fun _ _ _ z => by cases z) h
    have tl : H24 L2 = some (.lst [.int w1, .int p1, .int u1]) := u24 _ _ hL2' ((e22.trans e23) _ _ h21)
    simp only [List.mem_cons, List.mem_nil_iff, or_false] at hv
    rcases hv with rfl | rfl | rfl | rfl | rfl | rfl
    · exact ⟨"tuple", by decide, .tup tt⟩
    · exact ⟨"list", by decide, .lst tl⟩
    · exact ⟨"NoneType", by decide, .non⟩
    · exact ⟨"int", by decide, .int _⟩
    · exact ⟨"str", by decide, .str _⟩
    · exact ⟨"bool", by decide, .bl _⟩
  have hB24 := hB23.bu hb23 u24
  clear hB23 hb23 hb22 h21 h23 e20 e21 e22 e23 ho20 ho19 hb19 hv u24 hb24 hB
  walk_at "rd"
  refine ⟨3, rfl, by decide, by decide, ?_⟩
  refine for_of (walk_range (lo := 0) (n := 3)) (fun i σ H => Ex H24 H ∧ ∃ x y, σ = [some (.ref b), some (.ref t), some (.int w1), some (.int p1), some (.int u1), some (.ref L0), some v1, some v2, some (.int below), some (.ref M3), none, some (.ref B), some v, x, y, none]) ⟨Ex.refl _, none, none, rfl⟩ (fun _ _ _ _ _ => trivial) ?_ ?_
  · rintro i x σ H0 H' hi ⟨e0, x', y', rfl⟩ ⟨rfl, rfl⟩
    have hB0 := hB24.ex e0
    have kt0 := ktv.ex e0
    walk_at "rd"
    refine r_d1 kt0 fun t1 H1 e1 k1 => ?_
    walk_at "rd"
    refine r_d1 (kt0.ex e1) fun t2 H2 e2 k2 => ?_
    walk_at "rd"
    refine r_d2 ((hB0.ex e1).ex e2) ((kt0.ex e1).ex e2) fun t3 H3 e3 k3 => ?_
    walk_at "rd"
    refine r_newL (sz_le (by simp)) fun A1 H4 _ e4 h4 => ?_
    walk_at "rd"
    refine r_newT (sz_le (by simp)) fun s1 H5 _ e5 g1 => ?_
    walk_at "rd"
    refine r_newT (sz_le (by simp)) fun s2 H6 _ e6 g2 => ?_
    walk_at "rd"
    refine r_newT (sz_le (by simp)) fun s3 H7 _ e7 g3 => ?_
    walk_at "rd"
    refine r_newL (sz_le (by simp)) fun A2 H8 _ e8 h8 => ?_
    have P1 : Prs H8 [.ref t1, .ref t2, .ref t3] [("badbound", "one"), ("badbound", "one"), ("badbound", "other")] :=
      ⟨⟨t1, rfl, ((((((e2.trans e3).trans e4).trans e5).trans e6).trans e7).trans e8) _ _ k1⟩, ⟨t2, rfl, (((((e3.trans e4).trans e5).trans e6).trans e7).trans e8) _ _ k2⟩, ⟨t3, rfl, ((((e4.trans e5).trans e6).trans e7).trans e8) _ _ k3⟩, trivial⟩
    have P2 : Prs H8 [.ref s1, .ref s2, .ref s3] [("badbound", "one"), ("badbound", "one"), ("badbound", "other")] :=
      ⟨⟨s1, rfl, ((e6.trans e7).trans e8) _ _ g1⟩, ⟨s2, rfl, (e7.trans e8) _ _ g2⟩, ⟨s3, rfl, e8 _ _ g3⟩, trivial⟩
    refine r_nePrs _ ((((e5.trans e6).trans e7).trans e8) _ _ h4) h8 P1 P2 (by decide +kernel) (by decide +kernel) ?_
    walk_at "rd"
    refine ite_f rfl ?_
    walk_at "rd"
    exact ⟨((((((((e0.trans e1).trans e2).trans e3).trans e4).trans e5).trans e6).trans e7).trans e8), _, _, rfl⟩
  · rintro σ H1 ⟨e1, x, y, rfl⟩
    dsimp only
    walk_at "rd"
    refine .inr ⟨ktv.ex e1, fun d H2 e2 hd => ?_⟩
    refine r_cl1 (T.e_BadBound.y "BadBound" (by simp)) fun a ha => r_wAs ?_
    walk_at "rd"
    refine ⟨_, rfl, rfl, rfl, d, _, _, rfl, hd, rfl, ?_⟩
    refine r_eq rfl ?_
    have e : decide (V.str "bound" = V.str "bound") = true := decide_eq_true rfl
    rw [e]
    exact k H2

end K03
namespace K03
open PySem PySem.Spec PyProof.Rows L2 GS TL
local macro_rules | `(tactic| walk_at "rd") => `(tactic| (repeat (first
  | with_reducible refine r_next ?_
  | with_reducible refine r_seq ?_
  | with_reducible refine r_ret ?_
  | with_reducible refine r_ifS ?_
  | with_reducible refine r_asg ?_
  | with_reducible refine r_drop ?_
  | with_reducible refine r_op ?_
  | with_reducible refine r_un ?_
  | with_reducible refine r_cbInt ?_
  | with_reducible refine r_cbAbs ?_
  | with_reducible refine r_cbLen ?_
  | with_reducible refine r_cb ?_
  | with_reducible refine r_call ?_
  | with_reducible refine r_make ?_
  | with_reducible refine r_callN0 ?_
  | with_reducible refine r_makeK0 ?_
  | with_reducible refine r_makeS ?_
  | with_reducible refine r_callS ?_
  | with_reducible refine r_cons ?_
  | with_reducible refine r_nil ?_
  | with_reducible refine r_test ?_
  | with_reducible refine r_B ?_
  | with_reducible refine r_and ?_
  | with_reducible refine r_or ?_
  | with_reducible refine r_not ?_
  | with_reducible refine r_andV ?_
  | with_reducible refine r_orV ?_
  | with_reducible refine r_notV ?_
  | with_reducible refine r_if ?_
  | with_reducible refine r_tup ?_
  | with_reducible refine r_lst ?_
  | with_reducible refine r_c ?_
  | with_reducible refine r_lc ?_
  | with_reducible refine r_chain ?_
  | with_reducible refine r_iT ?_
  | with_reducible refine r_iL ?_
  | with_reducible refine r_iR1 ?_
  | with_reducible refine r_asgG ?_
  | with_reducible refine r_gSub ?_
  | with_reducible refine r_for ?_
  | with_reducible refine r_smeth ?_
  | with_reducible refine r_par ?_
  | with_reducible refine r_parK ?_
  | with_reducible refine r_gCons ?_
  | with_reducible refine r_gNil ?_
  | with_reducible refine r_gName ?_
  | with_reducible refine r_intI ?_
  | with_reducible refine r_intB ?_
  | with_reducible refine r_absI ?_
  | with_reducible refine r_k ?_
  | with_reducible refine r_kV ?_
  | ((with_reducible show tVar _ _ _ _); refine r_var3 ?_ (by rfl))
  | with_reducible refine r_I0 ?_
  | with_reducible refine r_U ?_
  | with_reducible refine r_eqI ?_
  | with_reducible refine r_neI ?_
  | dsimp only)))
local macro_rules | `(tactic| walk_at "rx") => `(tactic| (repeat (first
  | with_reducible refine r_next ?_
  | with_reducible refine r_ret ?_
  | with_reducible refine r_ifS ?_
  | with_reducible refine r_asg ?_
  | with_reducible refine r_drop ?_
  | with_reducible refine r_op ?_
  | with_reducible refine r_un ?_
  | with_reducible refine r_cbInt ?_
  | with_reducible refine r_cbAbs ?_
  | with_reducible refine r_cbLen ?_
  | with_reducible refine r_cb ?_
  | with_reducible refine r_call ?_
  | with_reducible refine r_make ?_
  | with_reducible refine r_callN0 ?_
  | with_reducible refine r_makeK0 ?_
  | with_reducible refine r_makeS ?_
  | with_reducible refine r_callS ?_
  | with_reducible refine r_cons ?_
  | with_reducible refine r_nil ?_
  | with_reducible refine r_test ?_
  | with_reducible refine r_B ?_
  | with_reducible refine r_and ?_
  | with_reducible refine r_or ?_
  | with_reducible refine r_not ?_
  | with_reducible refine r_andV ?_
  | with_reducible refine r_orV ?_
  | with_reducible refine r_notV ?_
  | with_reducible refine r_if ?_
  | with_reducible refine r_tup ?_
  | with_reducible refine r_lst ?_
  | with_reducible refine r_c ?_
  | with_reducible refine r_lc ?_
  | with_reducible refine r_chain ?_
  | with_reducible refine r_iT ?_
  | with_reducible refine r_iL ?_
  | with_reducible refine r_iR1 ?_
  | with_reducible refine r_asgG ?_
  | with_reducible refine r_gSub ?_
  | with_reducible refine r_for ?_
  | with_reducible refine r_smeth ?_
  | with_reducible refine r_par ?_
  | with_reducible refine r_parK ?_
  | with_reducible refine r_gCons ?_
  | with_reducible refine r_gNil ?_
  | with_reducible refine r_gName ?_
  | with_reducible refine r_intI ?_
  | with_reducible refine r_intB ?_
  | with_reducible refine r_absI ?_
  | with_reducible refine r_k ?_
  | with_reducible refine r_kV ?_
  | ((with_reducible show tVar _ _ _ _); refine r_var3 ?_ (by rfl))
  | with_reducible refine r_I0 ?_
  | with_reducible refine r_U ?_
  | with_reducible refine r_eqI ?_
  | with_reducible refine r_neI ?_
  | dsimp only)))
/-! ### the law -/
def spLaw (K : PySem.W.Frag) : Sp := sp1 fun v H Q _ => ∃ (L : Addr) (xs : List Int), v = .ref L ∧ SqL K H L (xs.map V.int) ∧ (∀ x ∈ xs, Z 2000000 x) ∧ ∀ H', Q (.bl true) H'
theorem ok_law {P : Program} {w : World} {K : PySem.W.Frag} {mg : Str → Option Value} {base : Heap} {fd : FuncData} (T : Txt K mg) (F : FunD K "law" "law" (defArgs s_law) (defBody s_law) (defScope s_law) [] [] (He.ga K "law") fd) : FnOk P w K mg base (L2.CX P w) 9 (He.ga K "law") fd ["script"] (spLaw K) := by
  obtain ⟨fd__law_refused, F__law_refused, B__law_refused⟩ := ok__law_refused (P := P) (w := w) (base := base) T
  obtain ⟨fd__law_told, F__law_told, B__law_told⟩ := ok__law_told (P := P) (w := w) (base := base) T
  obtain ⟨fd__law_two_right, F__law_two_right, B__law_two_right⟩ := ok__law_two_right (P := P) (w := w) (base := base) T
  obtain ⟨fd__law_one_right, F__law_one_right, B__law_one_right⟩ := ok__law_one_right (P := P) (w := w) (base := base) T
  obtain ⟨fd__law_other, F__law_other, B__law_other⟩ := ok__law_other (P := P) (w := w) (base := base) T
  obtain ⟨fd__law_bag, F__law_bag, B__law_bag⟩ := ok__law_bag (P := P) (w := w) (base := base) T
  refine F.ok sc_law sp1_len (fun cdv A outer s H vs Q E hr h => ?_)
  have hr__law_refused : Room 8 _ := hr.mono (by decide)
  have hr__law_told : Room 3 _ := hr.mono (by decide)
  have hr__law_two_right : Room 8 _ := hr.mono (by decide)
  have hr__law_one_right : Room 7 _ := hr.mono (by decide)
  have hr__law_other : Room 4 _ := hr.mono (by decide)
  have hr__law_bag : Room 1 _ := hr.mono (by decide)
  obtain ⟨v0, rfl, L, xs, rfl, hL, hz, k⟩ := sp1_is h
  refine ⟨_, (pss_cons (ps_set (i := 1) sc_law.nd rfl (Or.inl rfl) (pe_call F__law_bag hr__law_bag (by rfl) T.g__law_bag T.k__law_bag B__law_bag .nil passL (pa_cons (pv 0) pa_nil)))
      (pss_cons (ps_for (passes_of rfl) rfl (pi_range1 (by rfl) T.b_range (pa_cons pe_int pa_nil)) (pg_name (i := 2) sc_law.nd rfl (Or.inl rfl)) (pss_cons (ps_set (i := 3) sc_law.nd rfl (Or.inl rfl) (pe_call F__law_told hr__law_told (by rfl) T.g__law_told T.k__law_told B__law_told .nil passL (pa_cons (pv 1) pa_nil)))
      (pss_cons (ps_set (i := 4) sc_law.nd rfl (Or.inl rfl) (pe_call F__law_other hr__law_other (by rfl) T.g__law_other T.k__law_other B__law_other .nil passL (pa_cons (pv 1) (pa_cons (pv 3) pa_nil))))
      (pss_one (ps_if (PW.pt (pw_or (pt_not (pt_val (pe_call F__law_one_right hr__law_one_right (by rfl) T.g__law_one_right T.k__law_one_right B__law_one_right .nil passL (pa_cons (pv 1) (pa_cons (pv 3) pa_nil))))) (pw_or (pt_not (pt_val (pe_call F__law_two_right hr__law_two_right (by rfl) T.g__law_two_right T.k__law_two_right B__law_two_right .nil passL (pa_cons (pv 1) (pa_cons (pv 3) (pa_cons (pv 4) pa_nil)))))) (pw_or1 (pt_not (pt_val (pe_call F__law_two_right hr__law_two_right (by rfl) T.g__law_two_right T.k__law_two_right B__law_two_right .nil passL (pa_cons (pv 1) (pa_cons (pv 4) (pa_cons (pv 3) pa_nil)))))))))) (pss_one (ps_ret pe_bl)) pss_nil)))))
      (pss_one (ps_ret (pe_call F__law_refused hr__law_refused (by rfl) T.g__law_refused T.k__law_refused B__law_refused .nil passL (pa_cons (pv 1) (pa_cons (pe_call F__law_told hr__law_told (by rfl) T.g__law_told T.k__law_told B__law_told .nil passL (pa_cons (pv 1) pa_nil)) pa_nil))))))), ?_⟩
  walk_at "rd"
  refine ⟨L, xs, rfl, hL, hz, fun b H1 e1 hb0 hb => ?_⟩
  walk_at "rd"
  refine ⟨6, rfl, by decide, by decide, ?_⟩
  refine for_of (walk_range (lo := 0) (n := 6)) (fun i σ H => Bag H b (37 * (i : Nat)) ∧ ∃ x y z, σ = [some (.ref L), some (.ref b), x, y, z]) ⟨hb.le (by decide), none, none, none, rfl⟩ (fun _ _ _ _ _ => trivial) ?_ ?_
  · rintro i x σ H2 H' hi ⟨hb2, x', y', z', rfl⟩ ⟨rfl, rfl⟩
    have hi' : (37 * (i : Int)) ≤ 222 := by omega
    walk_at "rd"
    refine r_Told hb2 (by omega) fun t w1 p1 u1 H3 b3 hb3 ht => ?_
    walk_at "rd"
    refine ⟨b, _, t, w1, p1, u1, rfl, rfl, (by omega : 37 * (i : Int) + 12 ≤ 70000), hb3, ht, fun t' w2 p2 u2 H4 b4 hb4 ht' => ?_⟩
    have ht4 := (ht.bu hb3 b4).le (m := 110) (by decide)
    walk_at "rd"
    refine ⟨b, _, t, w1, p1, u1, rfl, rfl, (by omega : 37 * (i : Int) + 12 + 14 ≤ 60000), hb4, ht4, fun H5 b5 hb5 => ?_⟩
    have ht5 := ht4.bu hb4 b5
    have ht5' := ht'.bu hb4 b5
    walk_at "rd"
    refine ite_f rfl ?_
    walk_at "rd"
    refine ⟨b, _, t, w1, p1, u1, t', w2, p2, u2, rfl, rfl, rfl, (by omega : 37 * (i : Int) + 12 + 14 + 1 ≤ 50000), hb5, ht5, ht5', fun H6 b6 hb6 => ?_⟩
    walk_at "rd"
    refine ite_f rfl ?_
    walk_at "rd"
    refine ⟨b, _, t', w2, p2, u2, t, w1, p1, u1, rfl, rfl, rfl, (by omega : 37 * (i : Int) + 12 + 14 + 1 + 5 ≤ 50000), hb6, ht5'.bu hb5 b6, ht5.bu hb5 b6, fun H7 b7 hb7 => ?_⟩
    walk_at "rd"
    refine ite_f rfl ?_
    walk_at "rd"
    exact ⟨hb7.le (by omega), _, _, _, rfl⟩
  · rintro σ H2 ⟨hb2, x, y, z, rfl⟩
    dsimp only
    walk_at "rd"
    refine r_Told hb2 (by omega) fun t w1 p1 u1 H3 b3 hb3 ht => ?_
    walk_at "rd"
    exact ⟨b, _, t, w1, p1, u1, rfl, rfl, (by omega : 37 * ((6 : Nat) : Int) + 12 ≤ 50000), hb3, ht.le (by decide), fun H' => k H'⟩

end K03
set_option maxHeartbeats 0
namespace K03
open PySem PySem.W PySem.Spec PyProof.Rows L2 GS
abbrev R : PySem.W.OpenRow := PySem.W.OpenLaw.row PySem.Challenge.rw_goodsigns_k03_bounds_by_own_squares
abbrev hk : PySem.W.Hook := hookM 5 fa_all ex_all fn_all
def ob (s : PySem.W.SharedT) : He.AlD := obsMG 5 fa_all ex_all fn_all (HandSHeadRun.getT s)
theorem ob_eq (s : PySem.W.SharedT) : ob s = hk.obs s.abs := obsMG_eq (HandSHeadRun.getT_eq s)
def loose : List PySem.Str := (["SignsError", "BadNumber", "BadBound", "Misfit", "BadText", "DIGITS", "is_integer", "is_within", "need_integer", "MOST_DIGITS"] : List PySem.Str) ++ (["items_of", "is_integer_text", "integer_at", "need_end", "integer_text", "Bound", "need_bound", "common_under", "sign_of_integer", "sign_of"] : List PySem.Str) ++ (["added", "multiplied", "at_most", "_law_bag", "_law_draw", "_law_pick", "_law_great", "_law_signed", "_law_root", "_law_sign"] : List PySem.Str) ++ (["_law_told", "_law_is", "_law_one_right", "_law_other", "_law_common", "_law_done", "_law_two_right", "_law_made", "_law_refused"] : List PySem.Str)
theorem run (w : World) : HandSHeadRun.RunEq R (PySem.W.view R.prog [44]) hk ob 4000 loose w := by
  intro os
  kernel_rfl
end K03
set_option maxHeartbeats 0
namespace K03
open PySem PySem.Spec PyProof.Rows L2 GS
theorem law_fact {P : Program} {w : World} {K : PySem.W.Frag} {h : Heap} {mg : Str → Option Value} {f : Addr} (X : K.In h) (G : h.Ns mainGlobals mg) (hf : mg ("law" : Str) = some (.ref f)) (c : SaysM fa_all ex_all fn_all K) :
    ∃ fd : FuncData, (∀ (s : Shared) (u : Value), BindsTo s fd ⟨[u], []⟩ [("script", u)]) ∧ ∀ base : Heap, FnOk P w K mg base (L2.CX P w) 9 f fd ["script"] (spLaw K) := by
  have T := txt_of X G c
  obtain ⟨fd, F⟩ := T.d_law
  have e := hf.symm.trans T.g_law
  cases e
  refine ⟨fd, fun s u => ?_, fun base => ok_law T F⟩
  exact F.bindsA (ps := ["script"]) (fun _ _ _ _ _ _ us hl => match us, hl with | [_], _ => rfl) s [u] rfl
theorem nothing_out {P : Program} {w : World} {H : Hp} {s s' : Shared} {e : Value} (c : L2.CX P w [] H s (fun _ _ _ => False) e s') : False := by
  obtain ⟨a, B, H', cls, d, -, -, -, -, -, -, -, z⟩ := c
  exact z
/-- the end of a law: the script's bits are told -/
theorem end_bits {l : PySem.W.OpenLaw} {k n : Nat} {q : Program} {loose : List Str} {XP : (Str → Option Value) → Heap → Prop} {YP : World → Heap → Prop} {d : DefRec} {x : Str} (most : l.most = some n) (line : n ≤ sizeLine) (plain : d.params.defaults = []) (room : Room k callerA)
    (F : ∀ (w : World) (mg : Str → Option Value) (fa : Addr) (h : Heap), YP w h → h.Ns mainGlobals mg → mg d.name = some (.ref fa) → ∃ (K : PySem.W.Frag) (fd : FuncData) (sp : Sp), K.In h ∧ (∀ (s : Shared) (u : Value), BindsTo s fd ⟨[u], []⟩ [(x, u)]) ∧
      (∀ (H : Hp) (a : Addr) (ns : List Int), (∀ z ∈ ns, Builtin.Int.intBits z ≤ 1048576) → SqL K H a (ns.map V.int) → sp [.ref a] H (fun v _ => v = .bl true) fun _ _ _ => False) ∧ ∀ base : Heap, FnOk l.prog w K mg base (L2.CX l.prog w) k fa fd [x] sp) :
    PySem.W.WalkO q loose XP YP l.row.toRowW d [] (fun f vs => PySem.call f vs) := by
  refine Att.attach_callB most plain fun w s₀ s₁ mg mb fa o pm cd doc a vs ns Gr Yp _ _ _ named there numb short bits gens => ?_
  obtain ⟨K, fd, sp, KX, binds, goes, ok⟩ := F w mg fa _ Yp Gr.T.g named
  refine law_call (sp := sp) (CX := L2.CX l.prog w) KX Gr.T.g Gr.T.b Gr.T.builtins Gr.T.nolimit gens there numb ?_ room ?_ binds ?_ ?_
  · exact Nat.le_trans short line
  · exact fun base _ _ => ok base
  · exact fun H _ hs => goes H a ns bits hs
  · exact fun H e s' z => nothing_out z
theorem law_sp {K : PySem.W.Frag} {H : Hp} {a : Addr} {ns : List Int} (bits : ∀ z ∈ ns, Builtin.Int.intBits z ≤ 1048576) (hs : SqL K H a (ns.map V.int)) : spLaw K [.ref a] H (fun v _ => v = .bl true) fun _ _ _ => False := by
  refine ⟨a, ns, rfl, hs, fun x hx => ?_, fun _ => rfl⟩
  exact Nat.lt_of_lt_of_le (bits_lt x) (Nat.pow_le_pow_right (by decide) (Nat.le_trans (bits x hx) (by decide)))
end K03
open PySem PySem.W PySem.Calls PyProof.Rows
theorem PySem.Challenge.cw_goodsigns_k03_bounds_by_own_squares_holds : PySem.Challenge.rw_goodsigns_k03_bounds_by_own_squares.Holds := by
  w_on; o_law
  refine HandSHeadRun.head_any (r := K03.R) (q := view K03.R.prog [44]) (H := K03.hk) (ob := K03.ob) (M := 4000) (loose := K03.loose) (d := HandSHeadRun.topDef K03.R.prog 44) (kwd := []) K03.ob_eq ?a1 (fun s => ?a2) K03.run ?a3 ?a4 ?a5 ?a6 ?a7 ?a8 ?a9 ?hw ?hc
  case a1 => kernel_rfl
  case a2 => kernel_rfl
  case a3 => kernel_rfl
  case a4 => kernel_rfl
  case a5 => kernel_rfl
  case a6 => rfl
  case a7 => first | assumption | decide +kernel
  case a8 => decide +kernel
  case a9 => exact ⟨rfl, rfl, rfl, rfl, rfl, by decide +kernel⟩
  case hw => w_witness2
  case hc =>
    refine K03.end_bits (l := PySem.Challenge.rw_goodsigns_k03_bounds_by_own_squares) (n := 63) (k := 9) (x := "script") rfl (by decide) (by kernel_rfl) ⟨rfl, by decide, by decide⟩ fun w mg fa h Y G named => ?_
    obtain ⟨K, KX, c⟩ := Y
    have hmg : mg ("law" : PySem.Str) = some (.ref fa) := by
      have e : (HandSHeadRun.topDef K03.R.prog 44).name = ("law" : PySem.Str) := by kernel_rfl
      rw [← e]
      exact named
    obtain ⟨fd, hb, hF⟩ := K03.law_fact (P := (PySem.Challenge.rw_goodsigns_k03_bounds_by_own_squares).prog) (w := w) KX G hmg c
    exact ⟨K, fd, K03.spLaw K, KX, hb, fun H a ns bits hs => K03.law_sp bits hs, hF⟩
