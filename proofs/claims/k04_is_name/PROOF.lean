import PyProof.Rows.All
import Wide.All
import OpenK.AllK
import Wide.FinOn
import HandS.ForMost
import HandS.ForExc
import HandS.TupAny
import HandS.IsInst
import HandS.Codes
import HandS.Style
import HandS.StrMore
import PySem.Challenge.RW_provenames_k04_is_name
set_option Elab.async false
set_option linter.all false
set_option maxRecDepth 100000
set_option maxHeartbeats 4000000
namespace My
open PySem PySem.Spec PyProof.Rows L2
open C8 (tCut pss_cut)
/-! ### defs by their names -/
/-- the def st stands at the module's name x -/
def Def1 (K : PySem.W.Frag) (mg : Str → Option Value) (x : Str) (ps : List Str) (st : Stmt) : Prop := ∃ f fd, mg x = some (.ref f) ∧ Fun K x x st f fd ∧ Binds K fd ps []
/-- the def at the module's name x keeps the promise sp -/
def Fn (P : Program) (w : World) (K : PySem.W.Frag) (mg : Str → Option Value) (base : Heap) (k : Nat) (x : Str) (ps : List Str) (sp : Sp) : Prop :=
  ∃ f fd, mg x = some (.ref f) ∧ PySem.W.keepIn K (.ref f) = true ∧ Binds K fd ps [] ∧ FnOk P w K mg base CX0 k f fd ps sp ∧ ∃ oc od osl, K.lookup f = some ⟨oc, od, .func fd, osl⟩
theorem def1_mk {K : PySem.W.Frag} {h : Heap} {mg : Str → Option Value} {x : Str} {ps : List Str} {st : Stmt} {f : Addr} {oc : Value} {od an : Option Addr} {osl : Array (Option Value)} {kV doc pm cdv ct : Value} (X : K.In h) (G : h.Ns mainGlobals mg)
    (hb : ∀ (kV doc pm : Value) (an : Option Addr) (cdv ct : Value) (us : List Value), us.length = ps.length → bindArgs (PySem.W.fnOf x x (defArgs st) (defBody st) (defScope st) .none kV doc pm an cdv ct) ⟨us, []⟩ = pure (ps.zip us))
    (a : PySem.W.nsIn K mainGlobals x = some (some (.ref f))) (l : K.lookup f = some ⟨oc, od, .func (PySem.W.fnOf x x (defArgs st) (defBody st) (defScope st) .none kV doc pm an cdv ct), osl⟩)
    (c : PySem.W.codeIn K cdv x = true) (k : PySem.W.keepIn K (.ref f) = true) : Def1 K mg x ps st :=
  have F := fun_mk (st := st) l c k
  ⟨f, _, PySem.W.mg_of X G a, F, F.binds hb⟩
section
variable {P : Program} {w : World} {K : PySem.W.Frag} {mg : Str → Option Value} {base : Heap}
theorem Def1.ok {x : Str} {ps N : List Str} {st : Stmt} {k : Nat} {sp : Sp} (d : Def1 K mg x ps st) (S : FnScope N ps (defScope st)) (len : ∀ vs H Q E, sp vs H Q E → vs.length = ps.length)
    (hbody : ∀ (f : Addr) (cdv : Value) (A : Around) (outer : List Env) (s : Shared) (H : Hp) (vs : List V) (Q : VK) (E : XK), Room k (A.deeper (envOfC x (defScope st) s.heap.objs.size f cdv)) → sp vs H Q E →
      ∃ t, PSs (cxOf CX0 P w K mg base N x (defScope st) f cdv A outer s H E).nox (defBody st) t ∧ t { nx := fun _ H' => Q .non H', rt := Q } (start N vs) H) : Fn P w K mg base (k + 1) x ps sp := by
  obtain ⟨f, fd, hm, F, b⟩ := d
  refine ⟨f, fd, hm, F.kp, b, F.ok S len (hbody f), ?_⟩
  obtain ⟨oc, od, kV, doc, pm, an, cdv, ct, osl, _, lk, _⟩ := F.ex
  exact ⟨oc, od, osl, lk⟩
/-- the law's def, at the end -/
theorem Fn.fin {x p : Str} {st : Stmt} {k : Nat} {sp : Sp} {fa : Addr} (d : Def1 K mg x [p] st) (hfa : mg x = some (.ref fa))
    (hb : ∀ (kV doc pm : Value) (an : Option Addr) (cdv ct u : Value), bindArgs (PySem.W.fnOf x x (defArgs st) (defBody st) (defScope st) .none kV doc pm an cdv ct) ⟨[u], []⟩ = pure [(p, u)])
    (h : ∀ base : Heap, Fn P w K mg base k x [p] sp) : ∃ fd : FuncData, (∀ (s : Shared) (u : Value), BindsTo s fd ⟨[u], []⟩ [(p, u)]) ∧ ∀ base : Heap, K.In base → base.Ns mainGlobals mg → FnOk P w K mg base CX0 k fa fd [p] sp := by
  obtain ⟨f, fd, hm, F, b⟩ := d
  obtain ⟨oc, od, kV, doc, pm, an, cdv, ct, osl, e, lk, _⟩ := F.ex
  have ef : f = fa := Value.ref.inj (Option.some.inj (hm.symm.trans hfa))
  subst ef
  refine ⟨fd, fun s u => ?_, fun base _ _ => ?_⟩
  · rw [e]
    exact .of_eq (hb _ _ _ _ _ _ _)
  · obtain ⟨f', fd', hm', _, _, ok, oc', od', osl', lk'⟩ := h base
    have ef : f' = f := Value.ref.inj (Option.some.inj (hm'.symm.trans hm))
    subst ef
    rw [lk] at lk'
    have e2 := Option.some.inj lk'
    have e3 : fd = fd' := by
      injection e2 with _ _ e4 _
      injection e4
    rw [e3]
    exact ok
end
section
variable {X : Cx} {k : Nat} {x : Str} {ps : List Str} {sp : Sp}
def tFn (sp : Sp) (t : TA) : TE := fun σ H Q => t σ H fun vs H1 => sp vs H1 Q E0
theorem pe_fn {e : Expr} {es : List Expr} {t : TA} {p pos : Pos} (G : Fn X.prog X.w X.K X.mg X.base k x ps sp) (hr : Room k X.A) (hg : Gl X x) (ha : PA X (e :: es) t) (hdb : (x == ("__debug__" : Str)) = false := by decide)
    (he : starEach (e :: es) X.env = (false, eval e X.env) :: starEach es X.env := by rfl) (hpl : (backTo pos (starEach es X.env)).any (·.1) = false := by rfl) : PE X (.Call (.Name x p) (e :: es) [] pos) (tFn sp t) := by
  obtain ⟨f, fd, hm, hk, hb, F, _⟩ := G
  have h := pe_call (p := p) F hr hg hm hk hb .nil (E := E0) pass0 ha hdb he hpl
  refine ⟨fun pins s σ H Q I q => h.run pins s σ H Q I ?_⟩
  unfold tCall
  simp only [List.append_nil]
  exact q
theorem pe_fn0 {p pos : Pos} (G : Fn X.prog X.w X.K X.mg X.base k x ps sp) (hr : Room k X.A) (hg : Gl X x) (hdb : (x == ("__debug__" : Str)) = false := by decide) : PE X (.Call (.Name x p) [] [] pos) (tFn sp tNil) := by
  obtain ⟨f, fd, hm, hk, hb, F, _⟩ := G
  have h := pe_call0 F hr hg hm hk hb .nil (E := E0) pass0 hdb (p := p) (pos := pos)
  refine ⟨fun pins s σ H Q I q => h.run pins s σ H Q I ?_⟩
  unfold tCall
  simp only [List.append_nil]
  exact q
/-- a constant of the module -/
def GC (mg : Str → Option Value) (x : Str) (v : V) : Prop := ∃ u, mg x = some u ∧ RelV v u
theorem pe_gc {x : Str} {v : V} {pos : Pos} (h : GC X.mg x v) (hg : Gl X x) (hd : (x == ("__debug__" : Str)) = false := by decide) : PE X (.Name x pos) (tC v) := by
  obtain ⟨u, hm, r⟩ := h
  exact pe_glob hg hm r hd
end

/-! ### a statement, then the rest, with a word between them -/
section
variable {X : Cx}
theorem r_cut {t u : TS} {a c d : L2.St → Hp → Prop} {b : VK} {σ : L2.St} {H : Hp} (Mid : L2.St → Hp → Prop) (h : t ⟨Mid, b, c, d⟩ σ H) (k : ∀ σ' H', Mid σ' H' → u ⟨a, b, c, d⟩ σ' H') : tCut t u ⟨a, b, c, d⟩ σ H := ⟨Mid, h, k⟩
end
section
variable {X : Cx}
/-- an expression's value, told by a word between it and what follows -/
def tCutE (t : TE) : TE := fun σ H Q => ∃ Mid : VK, t σ H Mid ∧ ∀ v H', Mid v H' → Q v H'
theorem pe_cut {e : Expr} {t : TE} (h : PE X e t) : PE X e (tCutE t) := by
  refine ⟨fun pins s σ H Q I q => ?_⟩
  obtain ⟨Mid, hm, hk⟩ := q
  refine thn (h.run pins s σ H Mid I hm) fun v s1 q1 => ?_
  obtain ⟨x, H', I', r, m⟩ := q1
  exact ⟨x, H', I', r, hk _ _ m⟩
theorem r_cutE {t : TE} {σ : L2.St} {H : Hp} {Q : VK} (Mid : VK) (h : t σ H Mid) (k : ∀ v H', Mid v H' → Q v H') : tCutE t σ H Q := ⟨Mid, h, k⟩
end
/-! ### the rules under names of their own -/
section
variable {X : Cx} {to te : TE}
def rLenS : List V → Hp → VK → Prop := fun xs H Q => ∃ z, xs = [.str z] ∧ z.length ≤ sizeLine ∧ Q (.int z.length) H
theorem cLenS : CallR X (.builtin "len") rLenS := call_len_str
def rLenQ (K : PySem.W.Frag) : List V → Hp → VK → Prop := fun xs H Q => ∃ p ys, xs = [.ref p] ∧ (SqL K H p ys ∨ SqT K H p ys) ∧ Q (.int ys.length) H
theorem cLenQ : CallR X (.builtin "len") (rLenQ X.K) := call_len_seq
def rInt : List V → Hp → VK → Prop := fun xs H Q => (∃ i, xs = [.int i] ∧ Q (.int i) H) ∨ ∃ k, xs = [.bl k] ∧ Q (.int (if k then 1 else 0)) H
theorem cInt : CallR X (.type "int") rInt := call_int1
def rAddS : R2 := fun x y H Q => ∃ i j, x = .str i ∧ y = .str j ∧ i.length + j.length ≤ sizeLine ∧ Q (.str (i ++ j)) H
theorem oAddS : OpR X (binaryOp .Add) rAddS := op_add_str
def rInS : R2 := fun x y H Q => ∃ (c : Nat) (z : Str), x = .str ⟨#[c]⟩ ∧ y = .str z ∧ Q (.bl (decide (c ∈ z.cps.toList))) H
def rNotInS : R2 := fun x y H Q => ∃ (c : Nat) (z : Str), x = .str ⟨#[c]⟩ ∧ y = .str z ∧ Q (.bl (!decide (c ∈ z.cps.toList))) H
theorem oInS : OpR X (compareOp .In) rInS := op_in_sign
theorem oNotInS : OpR X (compareOp .NotIn) rNotInS := op_notIn_sign
def rTupOf (K : PySem.W.Frag) : List V → Hp → VK → Prop := fun xs H Q => ∃ p ys, xs = [.ref p] ∧ ((SqL K H p ys ∧ ∀ l, H l = none → Q (.ref l) (upd H l (.tup ys))) ∨ (SqT K H p ys ∧ Q (.ref p) H))
theorem cTupOf : CallR X (.type "tuple") (rTupOf X.K) := call_tuple_of
def rListOf (K : PySem.W.Frag) : List V → Hp → VK → Prop := fun xs H Q => ∃ p ys, xs = [.ref p] ∧ (SqL K H p ys ∨ SqT K H p ys) ∧ ∀ l, H l = none → Q (.ref l) (upd H l (.lst ys))
theorem cListOf : CallR X (.type "list") (rListOf X.K) := call_list_of
def tUp (to : TE) : TE := tM0 (fun x xs H Q => ∃ a, x = .str a ∧ xs = [] ∧ a.length ≤ 5592405 ∧ Q (.str (Txt.upper a)) H) to
theorem pe_up {o : Expr} {apos pos : Pos} (ho : PE X o to) (hbase : attributeBase o "upper" X.env (eval o X.env) = eval o X.env := by rfl) (hline : (apos.endLine == pos.line) = true := by rfl) : PE X (.Call (.Attribute o "upper" apos) [] [] pos) (tUp to) := pe_upper ho hbase hline
def tLow (to : TE) : TE := tM0 (fun x xs H Q => ∃ a, x = .str a ∧ xs = [] ∧ a.length ≤ 5592405 ∧ Q (.str (Txt.lower a)) H) to
theorem pe_low {o : Expr} {apos pos : Pos} (ho : PE X o to) (hbase : attributeBase o "lower" X.env (eval o X.env) = eval o X.env := by rfl) (hline : (apos.endLine == pos.line) = true := by rfl) : PE X (.Call (.Attribute o "lower" apos) [] [] pos) (tLow to) := pe_lower ho hbase hline
end
theorem nox_K {CX : CXT} {P : Program} {w : World} {K : PySem.W.Frag} {mg : Str → Option Value} {base : Heap} {N : List Str} {q : Str} {sc : Scope} {f : Addr} {cdv : Value} {A : Around} {outer : List Env} {s : Shared} {H : Hp} {E : XK} :
    (cxOf CX P w K mg base N q sc f cdv A outer s H E).nox.K = K := rfl
/-! ### heaps -/
theorem ex_new {H : Hp} {p : Addr} {o : HO} (h : H p = none) : Same H (upd H p o) := fun a u e => by
  rw [upd_ne (ne_of_none e h)]
  exact e
/-- all but what stands at l is as it was -/
def But (l : Addr) (H H' : Hp) : Prop := ∀ b o, b ≠ l → H b = some o → H' b = some o
theorem But.refl (l : Addr) (H : Hp) : But l H H := fun _ _ _ h => h
theorem But.trans {l : Addr} {H H1 H2 : Hp} (a : But l H H1) (b : But l H1 H2) : But l H H2 := fun c o n h => b c o n (a c o n h)
theorem But.of {l : Addr} {H H' : Hp} (a : Same H H') : But l H H' := fun c o _ h => a c o h
theorem But.upd {l : Addr} {H : Hp} {o : HO} : But l H (upd H l o) := fun c u n h => by
  rw [upd_ne n]
  exact h
theorem But.same {l : Addr} {H H0 H' : Hp} (e : Same H0 H) (b : But l H H') (h : H0 l = none) : Same H0 H' := fun c o h0 => b c o (ne_of_none h0 h) (e c o h0)
theorem ex_l {K : PySem.W.Frag} {H H' : Hp} {a : Addr} {xs : List V} (e : Same H H') (h : SqL K H a xs) : SqL K H' a xs := e.seq h
theorem ex_t {K : PySem.W.Frag} {H H' : Hp} {a : Addr} {xs : List V} (e : Same H H') (h : SqT K H a xs) : SqT K H' a xs :=
  h.imp (fun h => h.imp (e a _) fun ⟨o, h⟩ => ⟨o, e a _ h⟩) id
theorem but_rd {l : Addr} {H H' : Hp} {a : Addr} {u : HO} (e : But l H H') (n : a ≠ l) (h : Rd H a u) : Rd H' a u := by
  rcases h with h | ⟨o, h⟩
  · exact Or.inl (e a _ n h)
  · exact Or.inr ⟨o, e a _ n h⟩
theorem but_t {K : PySem.W.Frag} {l : Addr} {H H' : Hp} {a : Addr} {xs ys : List V} (e : But l H H') (hl : H l = some (.lst ys)) (h : SqT K H a xs) : SqT K H' a xs := by
  rcases h with h | h
  · refine Or.inl (but_rd e ?_ h)
    rintro rfl
    rcases h with h | ⟨o, h⟩
    · rw [hl] at h; cases h
    · rw [hl] at h; cases h
  · exact Or.inr h
theorem but_l {K : PySem.W.Frag} {l : Addr} {H H' : Hp} {a : Addr} {xs : List V} (e : But l H H') (n : a ≠ l) (h : SqL K H a xs) : SqL K H' a xs := by
  rcases h with h | h
  · exact Or.inl (but_rd e n h)
  · exact Or.inr h
theorem fresh_back {H H' : Hp} {p : Addr} (e : Same H H') (h : H' p = none) : H p = none := by
  cases h1 : H p with
  | none => rfl
  | some o =>
    rw [e p o h1] at h
    cases h
theorem but_fresh {l : Addr} {H H' : Hp} {p : Addr} (e : But l H H') (n : p ≠ l) (h : H' p = none) : H p = none := by
  cases h1 : H p with
  | none => rfl
  | some o =>
    rw [e p o n h1] at h
    cases h
/-! ### the readings' steps -/
section
variable {σ : L2.St} {H : Hp} {Q : VK} {QT : Bool → Hp → Prop} {QA : List V → Hp → Prop} {QO : Option Int → Hp → Prop} {ta tb tc te : TE} {t u : TT} {v x y : V} {i j : Nat} {K : PySem.W.Frag}
theorem r_var (h : σ[i]? = some (some v)) (q : Q v H) : tVar i σ H Q := ⟨v, h, q⟩
theorem r_c (q : Q v H) : tC v σ H Q := q
theorem r_op {r : R2} (h : ta σ H fun x H1 => tb σ H1 fun y H2 => r x y H2 Q) : tOp r ta tb σ H Q := h
theorem r_un {r : V → Hp → VK → Prop} (h : ta σ H fun x H1 => r x H1 Q) : tUn r ta σ H Q := h
theorem r_if (h : t σ H fun c H1 => if c = true then ta σ H1 Q else tb σ H1 Q) : tIf t ta tb σ H Q := h
theorem r_fn {sp : Sp} {t : TA} (h : t σ H fun vs H1 => sp vs H1 Q E0) : tFn sp t σ H Q := h
theorem r_cb {r : List V → Hp → VK → Prop} {t : TA} (h : t σ H fun vs H1 => r vs H1 Q) : tCB r t σ H Q := h
theorem r_nil (q : QA [] H) : tNil σ H QA := q
theorem r_cons {tr : TA} (h : ta σ H fun x H1 => tr σ H1 fun xs H2 => QA (x :: xs) H2) : tCons ta tr σ H QA := h
/-- a new tuple, a new list, whatever the heap's form -/
def NewT (xs : List V) (H : Hp) (Q : VK) : Prop := xs.length ≤ sizeLine ∧ ∀ p, H p = none → Q (.ref p) (upd H p (.tup xs))
def NewL (xs : List V) (H : Hp) (Q : VK) : Prop := xs.length ≤ sizeLine ∧ ∀ p, H p = none → Q (.ref p) (upd H p (.lst xs))
theorem r_tup {t : TA} (h : t σ H fun xs H1 => NewT xs H1 Q) : tTup t σ H Q := h
theorem r_lst {t : TA} (h : t σ H fun xs H1 => NewL xs H1 Q) : tLst t σ H Q := h
theorem r_newT {xs : List V} (hl : xs.length ≤ 100000) (h : ∀ p H2, H p = none → Same H H2 → H2 p = some (.tup xs) → Q (.ref p) H2) : NewT xs H Q :=
  ⟨Nat.le_trans hl (by decide), fun p hp => h p _ hp (ex_new hp) upd_same⟩
theorem r_newL {xs : List V} (hl : xs.length ≤ 100000) (h : ∀ p H2, H p = none → Same H H2 → H2 p = some (.lst xs) → Q (.ref p) H2) : NewL xs H Q :=
  ⟨Nat.le_trans hl (by decide), fun p hp => h p _ hp (ex_new hp) upd_same⟩
theorem r_sl {r : V → Option Int → Option Int → Hp → VK → Prop} {tl th : TO} (h : te σ H fun x H1 => tl σ H1 fun l H2 => th σ H2 fun u H3 => r x l u H3 Q) : tSl r te tl th σ H Q := h
theorem r_noPart (q : QO none H) : tNoPart σ H QO := q
theorem r_part (h : te σ H fun x H1 => ∃ i, x = .int i ∧ QO (some i) H1) : tPart te σ H QO := h
theorem r_andV (h : ta σ H fun x H1 => ∃ c, x = .bl c ∧ if c = true then tb σ H1 Q else Q (.bl false) H1) : tAndV ta tb σ H Q := h
theorem r_orV (h : ta σ H fun x H1 => ∃ c, x = .bl c ∧ if c = true then Q (.bl true) H1 else tb σ H1 Q) : tOrV ta tb σ H Q := h
theorem r_notV (h : ta σ H fun x H1 => ∃ c, x = .bl c ∧ Q (.bl (!c)) H1) : tNotV ta σ H Q := h
theorem r_test (h : te σ H fun x H' => ∃ k, x = .bl k ∧ QT k H') : tTest te σ H QT := h
theorem r_tB (h : te σ H fun x H' => ∃ k, x = .bl k ∧ QT k H') : tB te σ H QT := h
theorem r_and (h : t σ H fun c H1 => if c = true then u σ H1 QT else QT false H1) : tAnd t u σ H QT := h
theorem r_or (h : t σ H fun c H1 => if c = true then QT true H1 else u σ H1 QT) : tOr t u σ H QT := h
theorem r_not (h : t σ H fun c H1 => QT (!c) H1) : tNot t σ H QT := h
theorem r_chain {r r' : R2} (h : ta σ H fun x H1 => tb σ H1 fun y H2 => r x y H2 fun z H3 => ∃ k, z = .bl k ∧ if k = true then tc σ H3 fun z' H4 => r' y z' H4 Q else Q (.bl false) H3) : tChain r r' ta tb tc σ H Q := h
theorem r_bl {b : Bool} {QB : Bool → Prop} (q : QB b) : ∃ k, V.bl b = .bl k ∧ QB k := ⟨b, rfl, q⟩
theorem r_I0 {g : Int → Int → V} {a b : Int} (q : Q (g a b) H) : rI0 g (.int a) (.int b) H Q := ⟨a, b, rfl, rfl, q⟩
theorem r_I {C : Int → Int → Prop} {g : Int → Int → V} {a b : Int} (c : C a b) (q : Q (g a b) H) : rI C g (.int a) (.int b) H Q := ⟨a, b, rfl, rfl, c, q⟩
theorem r_U {g : Int → V} {a : Int} (q : Q (g a) H) : rU g (.int a) H Q := ⟨a, rfl, q⟩
theorem r_eqI {a b : Int} (q : Q (.bl (decide (a = b))) H) : rEq (.int a) (.int b) H Q := ⟨rfl, by
  have e : decide (V.int a = V.int b) = decide (a = b) := decide_eq_decide.mpr ⟨fun z => V.int.inj z, fun z => by rw [z]⟩
  rw [e]; exact q⟩
theorem r_neI {a b : Int} (q : Q (.bl (!decide (a = b))) H) : rNe (.int a) (.int b) H Q := ⟨rfl, by
  have e : decide (V.int a = V.int b) = decide (a = b) := decide_eq_decide.mpr ⟨fun z => V.int.inj z, fun z => by rw [z]⟩
  rw [e]; exact q⟩
theorem r_eqS {a b : Str} (q : Q (.bl (decide (a = b))) H) : rEq (.str a) (.str b) H Q := ⟨rfl, by
  have e : decide (V.str a = V.str b) = decide (a = b) := decide_eq_decide.mpr ⟨fun z => V.str.inj z, fun z => by rw [z]⟩
  rw [e]; exact q⟩
theorem r_neS {a b : Str} (q : Q (.bl (!decide (a = b))) H) : rNe (.str a) (.str b) H Q := ⟨rfl, by
  have e : decide (V.str a = V.str b) = decide (a = b) := decide_eq_decide.mpr ⟨fun z => V.str.inj z, fun z => by rw [z]⟩
  rw [e]; exact q⟩
theorem r_eqB {a b : Bool} (q : Q (.bl (decide (a = b))) H) : rEq (.bl a) (.bl b) H Q := ⟨rfl, by
  have e : decide (V.bl a = V.bl b) = decide (a = b) := decide_eq_decide.mpr ⟨fun z => V.bl.inj z, fun z => by rw [z]⟩
  rw [e]; exact q⟩
theorem r_neB {a b : Bool} (q : Q (.bl (!decide (a = b))) H) : rNe (.bl a) (.bl b) H Q := ⟨rfl, by
  have e : decide (V.bl a = V.bl b) = decide (a = b) := decide_eq_decide.mpr ⟨fun z => V.bl.inj z, fun z => by rw [z]⟩
  rw [e]; exact q⟩
theorem r_lenS {z : Str} (hz : z.length ≤ 100000) (q : Q (.int (z.length : Int)) H) : rLenS [.str z] H Q := ⟨z, rfl, Nat.le_trans hz (by decide), q⟩
theorem r_lenT {p : Addr} {ys : List V} (h : SqT K H p ys) (q : Q (.int (ys.length : Int)) H) : rLenQ K [.ref p] H Q := ⟨p, ys, rfl, .inr h, q⟩
theorem r_lenL {p : Addr} {ys : List V} (h : SqL K H p ys) (q : Q (.int (ys.length : Int)) H) : rLenQ K [.ref p] H Q := ⟨p, ys, rfl, .inl h, q⟩
theorem r_int {n : Int} (q : Q (.int n) H) : rInt [.int n] H Q := .inl ⟨n, rfl, q⟩
theorem r_addS {x y : Str} (hz : x.length + y.length ≤ 100000) (q : Q (.str (x ++ y)) H) : rAddS (.str x) (.str y) H Q := ⟨x, y, rfl, rfl, Nat.le_trans hz (by decide), q⟩
theorem r_inS {c : Nat} {z : Str} (q : Q (.bl (decide (c ∈ z.cps.toList))) H) : rInS (.str ⟨#[c]⟩) (.str z) H Q := ⟨c, z, rfl, rfl, q⟩
theorem r_notInS {c : Nat} {z : Str} (q : Q (.bl (!decide (c ∈ z.cps.toList))) H) : rNotInS (.str ⟨#[c]⟩) (.str z) H Q := ⟨c, z, rfl, rfl, q⟩
theorem r_tupOf {p : Addr} {ys : List V} (h : SqL K H p ys) (q : ∀ l H2, H l = none → Same H H2 → H2 l = some (.tup ys) → Q (.ref l) H2) : rTupOf K [.ref p] H Q := ⟨p, ys, rfl, .inl ⟨h, fun l hl => q l _ hl (ex_new hl) upd_same⟩⟩
theorem r_tupOfT {p : Addr} {ys : List V} (h : SqT K H p ys) (q : Q (.ref p) H) : rTupOf K [.ref p] H Q := ⟨p, ys, rfl, .inr ⟨h, q⟩⟩
theorem r_listOf {p : Addr} {ys : List V} (h : SqL K H p ys ∨ SqT K H p ys) (q : ∀ l H2, H l = none → Same H H2 → H2 l = some (.lst ys) → Q (.ref l) H2) : rListOf K [.ref p] H Q := ⟨p, ys, rfl, h, fun l hl => q l _ hl (ex_new hl) upd_same⟩
theorem r_ixL {p : Addr} {xs : List V} {i : Int} (h : SqL K H p xs) (ha : atI xs i = some v) (q : Q v H) : rIxL K (.ref p) (.int i) H Q := ⟨p, xs, i, v, rfl, rfl, h, ha, q⟩
theorem r_ixT {p : Addr} {xs : List V} {i : Int} (h : SqT K H p xs) (ha : atI xs i = some v) (q : Q v H) : rIxT K (.ref p) (.int i) H Q := ⟨p, xs, i, v, rfl, rfl, h, ha, q⟩
theorem r_ixS {z : Str} {i : Int} {c : Nat} (hz : z.length ≤ 100000) (ha : atI z.cps.toList i = some c) (q : Q (.str ⟨#[c]⟩) H) : rIxS (.str z) (.int i) H Q := ⟨z, i, c, rfl, rfl, Nat.le_trans hz (by decide), ha, q⟩
theorem r_bm {T : String} {r : V → List V → Hp → VK → Prop} {to : TE} {t : TA} (h : to σ H fun x H1 => tyV K T x H1 ∧ t σ H1 fun xs H2 => r x xs H2 Q) : tBM K T r to t σ H Q := h
/-- xs.append(y) -/
theorem r_append {l : Addr} {xs : List V} {t : TA} (h : H l = some (.lst xs)) (h2 : t σ H fun vs H2 => rAppend (.ref l) vs H2 Q) : tyV K "list" (.ref l) H ∧ t σ H fun vs H2 => rAppend (.ref l) vs H2 Q := ⟨.inl ⟨rfl, _, SqL.of h⟩, h2⟩
theorem r_append1 {l : Addr} {xs : List V} {y : V} (h : H l = some (.lst xs)) (hz : xs.length < 100000) (q : ∀ H2, But l H H2 → H2 l = some (.lst (xs ++ [y])) → Q .non H2) : rAppend (.ref l) [y] H Q := ⟨l, xs, y, rfl, rfl, h, Nat.lt_of_lt_of_le hz (by decide), q _ But.upd upd_same⟩
theorem r_sub {to ti : TE} {r : TSet} {Q : L2.St → Hp → Prop} (h : to σ H fun o H1 => ti σ H1 fun i H2 => r o i v H2 fun H3 => Q σ H3) : gSub to ti r v σ H Q := h
theorem r_setL {p : Addr} {xs : List V} {k : Int} {j : Nat} {Q : Hp → Prop} (h : H p = some (.lst xs)) (hj : ixN xs.length k = some j) (q : ∀ H2, But p H H2 → H2 p = some (.lst (xs.set j v)) → Q H2) : rSetL (.ref p) (.int k) v H Q := ⟨p, xs, k, j, rfl, rfl, h, hj, q _ But.upd upd_same⟩
def UpR (x : V) (H : Hp) (Q : VK) : Prop := (∃ a, x = .str a) ∧ ∃ a, x = .str a ∧ ([] : List V) = [] ∧ a.length ≤ 5592405 ∧ Q (.str (Txt.upper a)) H
theorem r_up {to : TE} (h : to σ H fun x H1 => UpR x H1 Q) : tUp to σ H Q := h
theorem r_up1 {z : Str} (hz : z.length ≤ 100000) (q : Q (.str (Txt.upper z)) H) : UpR (.str z) H Q := ⟨⟨z, rfl⟩, z, rfl, rfl, Nat.le_trans hz (by decide), q⟩
def LowR (x : V) (H : Hp) (Q : VK) : Prop := (∃ a, x = .str a) ∧ ∃ a, x = .str a ∧ ([] : List V) = [] ∧ a.length ≤ 5592405 ∧ Q (.str (Txt.lower a)) H
theorem r_low {to : TE} (h : to σ H fun x H1 => LowR x H1 Q) : tLow to σ H Q := h
theorem r_low1 {z : Str} (hz : z.length ≤ 100000) (q : Q (.str (Txt.lower z)) H) : LowR (.str z) H Q := ⟨⟨z, rfl⟩, z, rfl, rfl, Nat.le_trans hz (by decide), q⟩
theorem r_slS {z : Str} {lo hi : Option Int} (hz : z.length ≤ 100000) (q : Q (.str (cutS z lo hi)) H) : rSlS (.str z) lo hi H Q := ⟨z, rfl, Nat.le_trans hz (by decide), q⟩
/-! statements -/
variable {a b' c d : L2.St → Hp → Prop} {b : VK} {t1 t2 : TS}
theorem r_seq (h : t1 ⟨t2 ⟨a, b, c, d⟩, b, c, d⟩ σ H) : tSeq t1 t2 ⟨a, b, c, d⟩ σ H := h
theorem r_next (h : a σ H) : tNext ⟨a, b, c, d⟩ σ H := h
theorem r_brk (h : c σ H) : tBreak ⟨a, b, c, d⟩ σ H := h
theorem r_cont (h : d σ H) : tCont ⟨a, b, c, d⟩ σ H := h
theorem r_asgN (h : te σ H fun x H1 => a (σ.set i (some x)) H1) : tAsg te (gName i) ⟨a, b, c, d⟩ σ H := h
theorem r_asg {g : TG} (h : te σ H fun x H1 => g x σ H1 a) : tAsg te g ⟨a, b, c, d⟩ σ H := h
theorem r_gName {Q : L2.St → Hp → Prop} (h : Q (σ.set i (some v)) H) : gName i v σ H Q := h
theorem r_ret (h : te σ H b) : tRet te ⟨a, b, c, d⟩ σ H := h
theorem r_retN (h : b .non H) : tRetN ⟨a, b, c, d⟩ σ H := h
theorem r_drop (h : te σ H fun _ H1 => a σ H1) : tDrop te ⟨a, b, c, d⟩ σ H := h
theorem r_ifS (h : t σ H fun k H1 => if k = true then t1 ⟨a, b, c, d⟩ σ H1 else t2 ⟨a, b, c, d⟩ σ H1) : tIfS t t1 t2 ⟨a, b, c, d⟩ σ H := h
end
/-! ### loops -/
section
variable {σ : L2.St} {H : Hp} {te : TE} {ta : TA} {a c d : L2.St → Hp → Prop} {b : VK} {tb : TS} {j : Nat} {K : PySem.W.Frag} {g : TG}
theorem for_str {x : Str} {g : TG} {D : Ends} (Pv : Nat → L2.St → Hp → Prop) (h0 : Pv 0 σ H)
    (hs : ∀ i k σ H, x.cps[i]? = some k → Pv i σ H → g (.str ⟨#[k]⟩) σ H fun σ2 H2 => tb { D with nx := Pv (i + 1), ct := Pv (i + 1), bk := D.nx } σ2 H2) (hd : ∀ σ H, Pv x.cps.size σ H → D.nx σ H) :
    ∃ W : Nat → Nat → L2.St → Hp → Prop, (∃ m, W 0 m σ H) ∧ ∀ i m σ H, W i m σ H →
      ((Its x).stop i H ∧ D.nx σ H) ∨ ((Its x).go i H ∧ ∃ N : L2.St → Hp → Prop, (∀ σ' H', N σ' H' → ∃ m', m' < m ∧ W (i + 1) m' σ' H') ∧ ∀ y H', (Its x).yld i H y H' → g y σ H' fun σ2 H2 => tb { D with nx := N, ct := N, bk := D.nx } σ2 H2) := by
  refine ⟨fun i m σ H => m = x.cps.size - i ∧ i ≤ x.cps.size ∧ Pv i σ H, ⟨x.cps.size, by simp, Nat.zero_le _, h0⟩, ?_⟩
  rintro i m σ H ⟨rfl, hi, p⟩
  by_cases hlt : i < x.cps.size
  · refine .inr ⟨hlt, Pv (i + 1), fun σ' H' p' => ⟨x.cps.size - (i + 1), by omega, rfl, hlt, p'⟩, fun y H' q => ?_⟩
    obtain ⟨rfl, k, hk, rfl⟩ := q
    exact hs i k σ _ hk p
  · have e : i = x.cps.size := by omega
    subst e
    exact .inl ⟨Nat.le_refl _, hd σ H p⟩
def ForR (J : It) (g : TG) (tb : TS) (D : Ends) (σ : L2.St) (H : Hp) : Prop := ∃ W : Nat → Nat → L2.St → Hp → Prop, (∃ m, W 0 m σ H) ∧ ∀ i m σ H, W i m σ H →
  (J.stop i H ∧ D.nx σ H) ∨ (J.go i H ∧ ∃ N : L2.St → Hp → Prop, (∀ σ' H', N σ' H' → ∃ m', m' < m ∧ W (i + 1) m' σ' H') ∧ ∀ x H', J.yld i H x H' → g x σ H' fun σ2 H2 => tb { D with nx := N, ct := N, bk := D.nx } σ2 H2)
theorem r_for {wi : TI} (h : wi σ H fun J H1 => ForR J g tb ⟨a, b, c, d⟩ σ H1) : tFor wi g tb ⟨a, b, c, d⟩ σ H := h
variable {R : It → Hp → Prop}
theorem r_iStr (h : te σ H fun v H1 => ∃ x, v = .str x ∧ R (Its x) H1) : iStr te σ H R := h
theorem r_exI {n : Int} {QS : Int → Prop} (h : QS n) : ∃ y, V.int n = .int y ∧ QS y := ⟨n, rfl, h⟩
theorem r_iStr1 {x : Str} {QS : Str → Prop} (h : QS x) : ∃ y, V.str x = .str y ∧ QS y := ⟨x, rfl, h⟩
theorem r_iList (h : te σ H fun x H1 => ∃ a, x = .ref a ∧ (∃ xs, SqL K H1 a xs) ∧ R (Itl K a) H1) : iList K te σ H R := h
theorem r_iList1 {a : Addr} {QS : Addr → Prop} (xs : List V) (hx : SqL K H a xs) (h : QS a) : ∃ b, V.ref a = .ref b ∧ (∃ xs, SqL K H b xs) ∧ QS b := ⟨a, rfl, ⟨xs, hx⟩, h⟩
theorem r_iTup (h : te σ H fun x H1 => ∃ a, x = .ref a ∧ (∃ xs, SqT K H1 a xs) ∧ R (Itt K a) H1) : iTup K te σ H R := h
theorem r_iTup1 {a : Addr} {QS : Addr → Prop} (xs : List V) (hx : SqT K H a xs) (h : QS a) : ∃ b, V.ref a = .ref b ∧ (∃ xs, SqT K H b xs) ∧ QS b := ⟨a, rfl, ⟨xs, hx⟩, h⟩
theorem r_iRng1 (h : ta σ H fun vs H1 => ∃ j : Int, vs = [.int j] ∧ -(2 ^ 62) ≤ j ∧ j < 2 ^ 62 ∧ R (Itr 0 j.toNat) H1) : iRng1 ta σ H R := h
theorem r_iRng11 {n : Int} {QS : Int → Prop} (h1 : -1000000 ≤ n ∧ n ≤ 1000000) (h : QS n) : ∃ j : Int, [V.int n] = [.int j] ∧ -(2 ^ 62) ≤ j ∧ j < 2 ^ 62 ∧ QS j := ⟨n, rfl, by omega, by omega, h⟩
theorem r_iRng2 (h : ta σ H fun vs H1 => ∃ i j : Int, vs = [.int i, .int j] ∧ (-(2 ^ 62) ≤ i ∧ i < 2 ^ 62 ∧ -(2 ^ 62) ≤ j ∧ j < 2 ^ 62) ∧ R (Itr i (j - i).toNat) H1) : iRng2 ta σ H R := h
theorem r_iRng21 {i n : Int} (h1 : -1000000 ≤ i ∧ i ≤ 1000000 ∧ -1000000 ≤ n ∧ n ≤ 1000000) {QS : Int → Int → Prop} (h : QS i n) : ∃ i' j : Int, [V.int i, V.int n] = [.int i', .int j] ∧ (-(2 ^ 62) ≤ i' ∧ i' < 2 ^ 62 ∧ -(2 ^ 62) ≤ j ∧ j < 2 ^ 62) ∧ QS i' j := ⟨i, n, rfl, by omega, h⟩
/-- the loops, by a word Pv by the turn -/
theorem loopS {x : Str} (Pv : Nat → L2.St → Hp → Prop) (h0 : Pv 0 σ H) (hs : ∀ i k σ' H', x.cps.toList[i]? = some k → Pv i σ' H' → tb ⟨Pv (i + 1), b, a, Pv (i + 1)⟩ (σ'.set j (some (.str ⟨#[k]⟩))) H') (hd : ∀ σ' H', Pv x.cps.toList.length σ' H' → a σ' H') :
    ForR (Its x) (gName j) tb ⟨a, b, c, d⟩ σ H := by
  refine ⟨fun i m σ H => m = x.cps.size - i ∧ i ≤ x.cps.size ∧ Pv i σ H, ⟨x.cps.size, by simp, Nat.zero_le _, h0⟩, ?_⟩
  rintro i m σ H ⟨rfl, hi, p⟩
  by_cases hlt : i < x.cps.size
  · refine .inr ⟨hlt, Pv (i + 1), fun σ' H' p' => ⟨x.cps.size - (i + 1), by omega, rfl, hlt, p'⟩, fun y H' q => ?_⟩
    obtain ⟨rfl, k, hk, rfl⟩ := q
    exact hs i k σ _ (by rw [← hk]; simp) p
  · have e : i = x.cps.size := by omega
    subst e
    exact .inl ⟨Nat.le_refl _, hd σ H (by simpa using p)⟩
theorem loopL {p : Addr} {xs : List V} (Pv : Nat → L2.St → Hp → Prop) (h0 : Pv 0 σ H) (hl : ∀ i σ' H', i ≤ xs.length → Pv i σ' H' → SqL K H' p xs)
    (hs : ∀ i x σ' H', xs[i]? = some x → Pv i σ' H' → g x σ' H' fun σ2 H2 => tb ⟨Pv (i + 1), b, a, Pv (i + 1)⟩ σ2 H2) (hd : ∀ σ' H', Pv xs.length σ' H' → a σ' H') : ForR (Itl K p) g tb ⟨a, b, c, d⟩ σ H :=
  for_list (xs := xs) (D := ⟨a, b, c, d⟩) Pv h0 hl hs hd
theorem loopT {p : Addr} {xs : List V} (Pv : Nat → L2.St → Hp → Prop) (h0 : Pv 0 σ H) (hl : ∀ i σ' H', i ≤ xs.length → Pv i σ' H' → SqT K H' p xs)
    (hs : ∀ i x σ' H', xs[i]? = some x → Pv i σ' H' → g x σ' H' fun σ2 H2 => tb ⟨Pv (i + 1), b, a, Pv (i + 1)⟩ σ2 H2) (hd : ∀ σ' H', Pv xs.length σ' H' → a σ' H') : ForR (Itt K p) g tb ⟨a, b, c, d⟩ σ H :=
  for_tup (xs := xs) (D := ⟨a, b, c, d⟩) Pv h0 hl hs hd
theorem loopR {lo : Int} {n : Nat} (Pv : Nat → L2.St → Hp → Prop) (h0 : Pv 0 σ H)
    (hs : ∀ i σ' H', i < n → Pv i σ' H' → g (.int (lo + i)) σ' H' fun σ2 H2 => tb ⟨Pv (i + 1), b, a, Pv (i + 1)⟩ σ2 H2) (hd : ∀ σ' H', Pv n σ' H' → a σ' H') : ForR (Itr lo n) g tb ⟨a, b, c, d⟩ σ H :=
  for_range (D := ⟨a, b, c, d⟩) Pv h0 hs hd
end
theorem r_ite {b : Bool} {A B : Prop} (h1 : b = true → A) (h2 : b = false → B) : if b = true then A else B := by
  cases b with
  | true => exact h1 rfl
  | false => exact h2 rfl
theorem r_iteD {p : Prop} [Decidable p] {A B : Prop} (h1 : p → A) (h2 : ¬ p → B) : if decide p = true then A else B := by
  by_cases h : p
  · rw [decide_eq_true h]; exact h1 h
  · rw [decide_eq_false h]; exact h2 h
theorem r_iteN {p : Prop} [Decidable p] {A B : Prop} (h1 : ¬ p → A) (h2 : p → B) : if (!decide p) = true then A else B := by
  by_cases h : p
  · rw [decide_eq_true h]; exact h2 h
  · rw [decide_eq_false h]; exact h1 h
theorem r_iteF {A B : Prop} (h : B) : if false = true then A else B := iteF h
theorem r_iteT {A B : Prop} (h : A) : if true = true then A else B := iteT h
/-! ### slices, tuples of texts -/
theorem cutV_whole {xs : List V} {lo hi : Option Int} (h : HT.sIx xs.length 0 lo = 0 ∧ HT.sIx xs.length xs.length hi = xs.length) : cutV xs lo hi = xs := by
  unfold cutV
  rw [h.1, h.2]
  simp
theorem r_slA {K : PySem.W.Frag} {H : Hp} {Q : VK} {a : Addr} {xs : List V} {lo hi : Option Int} (h : SqT K H a xs) (q : ∀ p H2, Same H H2 → SqT K H2 p (cutV xs lo hi) → Q (.ref p) H2) : rSlA K (.ref a) lo hi H Q :=
  ⟨a, xs, rfl, h, fun w => q a H (Same.refl H) (by rw [cutV_whole w]; exact h), fun _ p hp => q p _ (ex_new hp) (SqT.of upd_same)⟩
theorem r_slL {K : PySem.W.Frag} {H : Hp} {Q : VK} {a : Addr} {xs : List V} {lo hi : Option Int} (h : SqL K H a xs) (q : ∀ p H2, H p = none → Same H H2 → H2 p = some (.lst (cutV xs lo hi)) → Q (.ref p) H2) : rSlL K (.ref a) lo hi H Q :=
  ⟨a, xs, rfl, h, fun p hp => q p _ hp (ex_new hp) upd_same⟩
def Asc (z : Str) : Prop := ∀ c ∈ z.cps.toList, c < 128
theorem Asc.ok {z : Str} (h : Asc z) : PyData.strOk z = true := by
  unfold PyData.strOk
  rw [← Array.all_toList, List.all_eq_true]
  intro c hc
  exact decide_eq_true (Nat.lt_of_lt_of_le (h c hc) (by decide))
instance {z : Str} : Decidable (Asc z) := inferInstanceAs (Decidable (∀ c ∈ z.cps.toList, c < 128))
theorem len_app (x y : Str) : (x ++ y).length = x.length + y.length := Str.length_append x y
theorem len_one (c : Nat) : (⟨#[c]⟩ : Str).length = 1 := rfl
theorem cps_app (x y : Str) : (x ++ y).cps.toList = x.cps.toList ++ y.cps.toList := by
  show (x.cps ++ y.cps).toList = _
  simp
theorem len_list (x : Str) : x.cps.toList.length = x.length := by simp [Str.length]
theorem Asc.app {x y : Str} (h : Asc x) (g : Asc y) : Asc (x ++ y) := by
  intro c hc
  rw [cps_app] at hc
  exact (List.mem_append.mp hc).elim (h c) (g c)
theorem Asc.one {c : Nat} (h : c < 128) : Asc ⟨#[c]⟩ := by
  intro d hd
  have : d = c := by simpa using hd
  omega
theorem Asc.mem {z : Str} {c : Nat} (h : Asc z) (hc : c ∈ z.cps.toList) : Asc ⟨#[c]⟩ := .one (h c hc)
theorem Asc.cut {z : Str} (h : Asc z) (lo hi : Option Int) : Asc (cutS z lo hi) := fun c hc => h c (List.mem_of_mem_drop (List.mem_of_mem_take (by simpa [cutS] using hc)))
theorem dpAll_str {K : PySem.W.Frag} {H : Hp} : ∀ xs : List Str, DpAll K H (xs.map V.str) (xs.map PyData.str)
  | [] => .nil
  | x :: xs => .cons (.str x) (dpAll_str xs)
theorem dp_strs {K : PySem.W.Frag} {H : Hp} {a : Addr} {xs : List Str} (h : SqT K H a (xs.map V.str)) : Dp K H (.ref a) (.tuple (xs.map PyData.str)) := .tup h (dpAll_str xs)
theorem canLay_strs : ∀ {xs : List Str}, (∀ x ∈ xs, Asc x) → PyData.canLayAll0 (xs.map PyData.str) = true
  | [], _ => by simp [PyData.canLayAll0]
  | x :: xs, h => by
    have h1 := (h x (List.mem_cons_self)).ok
    have h2 := canLay_strs (xs := xs) fun y hy => h y (List.mem_cons_of_mem _ hy)
    simp [PyData.canLayAll0, PyData.canLay0, h1, h2]
theorem depth_strs : ∀ xs : List Str, PyData.depthAll (xs.map PyData.str) = 0
  | [] => by simp [PyData.depthAll]
  | x :: xs => by simp [PyData.depthAll, PyData.depth, depth_strs xs]
theorem shaped_strs {xs : List Str} (h : ∀ x ∈ xs, Asc x) : SeqAt.shaped (.tuple (xs.map PyData.str)) = true := by
  unfold SeqAt.shaped
  rw [Bool.and_eq_true]
  refine ⟨by simp only [PyData.canLay0]; exact canLay_strs h, decide_eq_true ?_⟩
  simp [PyData.depth, depth_strs xs]
theorem eqvAll_strs : ∀ xs ys : List Str, PyData.eqvAll (xs.map PyData.str) (ys.map PyData.str) = decide (xs = ys)
  | [], [] => by simp [PyData.eqvAll]
  | [], _ :: _ => by simp [PyData.eqvAll]
  | _ :: _, [] => by simp [PyData.eqvAll]
  | x :: xs, y :: ys => by
    simp only [List.map_cons, PyData.eqvAll, PyData.eqv, eqvAll_strs xs ys]
    by_cases h : x = y <;> by_cases h' : xs = ys <;> simp [h, h']
theorem r_eqD {K : PySem.W.Frag} {H : Hp} {Q : VK} {x y : V} {d e : PyData} (hd : Dp K H x d) (he : Dp K H y e) (sd : SeqAt.shaped d = true) (se : SeqAt.shaped e = true) (q : Q (.bl (PyData.eqv d e)) H) : rEqD K x y H Q := ⟨d, e, hd, he, sd, se, q⟩
theorem r_eqTS {K : PySem.W.Frag} {H : Hp} {Q : VK} {a b : Addr} {xs ys : List Str} (h1 : SqT K H a (xs.map V.str)) (h2 : SqT K H b (ys.map V.str)) (o1 : ∀ x ∈ xs, Asc x) (o2 : ∀ x ∈ ys, Asc x) (q : Q (.bl (decide (xs = ys))) H) : rEqD K (.ref a) (.ref b) H Q := by
  refine r_eqD (dp_strs h1) (dp_strs h2) (shaped_strs o1) (shaped_strs o2) ?_
  have e : PyData.eqv (.tuple (xs.map PyData.str)) (.tuple (ys.map PyData.str)) = decide (xs = ys) := by
    simp only [PyData.eqv]
    exact eqvAll_strs xs ys
  rw [e]
  exact q
theorem cutV_strs (xs : List Str) (lo hi : Option Int) : cutV (xs.map V.str) lo hi = ((xs.drop (HT.sIx xs.length 0 lo)).take (HT.sIx xs.length xs.length hi - HT.sIx xs.length 0 lo)).map V.str := by
  unfold cutV
  rw [List.length_map, List.map_take, List.map_drop]
theorem But.step {l p : Addr} {H H1 H2 : Hp} (a : But l H H1) (b : But p H1 H2) (h : H p = none) : But l H H2 := fun c o n hc => b c o (ne_of_none hc h) (a c o n hc)
theorem But.same' {l : Addr} {H H1 H2 : Hp} (a : But l H H1) (b : Same H1 H2) : But l H H2 := fun c o n hc => b c o (a c o n hc)
theorem But.pre {l : Addr} {H H1 H2 : Hp} (a : Same H H1) (b : But l H1 H2) : But l H H2 := fun c o n hc => b c o n (a c o hc)
theorem But.drop {l : Addr} {H H1 : Hp} (b : But l H H1) (h : H l = none) : Same H H1 := fun c o hc => b c o (ne_of_none hc h) hc
/-- an item at a place in bounds -/
theorem atI_in {α : Type} {xs : List α} {i : Int} (h0 : 0 ≤ i) (h1 : i < (xs.length : Int)) : ∃ v, v ∈ xs ∧ atI xs i = some v ∧ xs[i.toNat]? = some v := by
  obtain ⟨n, rfl⟩ := Int.eq_ofNat_of_zero_le h0
  have hk : n < xs.length := by omega
  exact ⟨xs[n], List.getElem_mem hk, atI_nat (List.getElem?_eq_getElem hk), List.getElem?_eq_getElem hk⟩
theorem ixN_in {n : Nat} {i : Int} (h0 : 0 ≤ i) (h1 : i < (n : Int)) : ixN n i = some i.toNat := by
  unfold ixN
  rw [if_pos h0, if_pos (by omega)]
theorem map_get {α : Type} {f : α → V} {xs : List α} {i : Nat} {x : V} (h : (xs.map f)[i]? = some x) : ∃ y, xs[i]? = some y ∧ x = f y := by
  rw [List.getElem?_map] at h
  cases e : xs[i]? with
  | none => rw [e] at h; cases h
  | some y => rw [e] at h; exact ⟨y, rfl, (Option.some.inj h).symm⟩
/-! ### a law's source of draws -/
def Src (H : Hp) (a : Addr) : Prop := ∃ x y z : Int, H a = some (.lst [.int x, .int y, .int z]) ∧ (y = 0 ∨ (0 ≤ x ∧ x < 2147483648 ∧ 0 ≤ z ∧ z < 2147483648))
theorem Src.lst {H : Hp} {a : Addr} (h : Src H a) : ∃ xs, H a = some (.lst xs) := by
  obtain ⟨_, _, _, h, _⟩ := h
  exact ⟨_, h⟩
theorem Src.ex {H H' : Hp} {a : Addr} (h : Src H a) (e : Same H H') : Src H' a := by
  obtain ⟨x, y, z, h, r⟩ := h
  exact ⟨x, y, z, e _ _ h, r⟩
theorem Src.but {H H' : Hp} {a l : Addr} (h : Src H a) (e : But l H H') (n : a ≠ l) : Src H' a := by
  obtain ⟨x, y, z, h, r⟩ := h
  exact ⟨x, y, z, e _ _ n h, r⟩
def spDraw : Sp := fun vs H Q _ => ∃ (a : Addr) (m : Int), vs = [.ref a, .int m] ∧ Src H a ∧ 0 < m ∧ m ≤ 1000000 ∧ ∀ H' d, But a H H' → Src H' a → 0 ≤ d → d < m → Q (.int d) H'
def spSource : Sp := fun vs H Q _ => ∃ n : Int, vs = [.int n] ∧ ∀ H' a, Same H H' → H a = none → Src H' a → Q (.ref a) H'
def spCell (K : PySem.W.Frag) : Sp := fun vs H Q _ => ∃ (l : Addr) (ns : List Int) (k : Int), vs = [.ref l, .int k] ∧ SqL K H l (ns.map V.int) ∧ ns.length ≤ 63 ∧ 0 ≤ k ∧ k ≤ 1000000 ∧ ∀ c : Int, Q (.int c) H
theorem r_draw {H : Hp} {Q : VK} {a : Addr} {m : Int} (hs : Src H a) (h0 : 0 < m) (h1 : m ≤ 1000000) (q : ∀ H' d, But a H H' → Src H' a → 0 ≤ d → d < m → Q (.int d) H') : spDraw [.ref a, .int m] H Q E0 := ⟨a, m, rfl, hs, h0, h1, q⟩
/-- a def that draws: what it hands back is as post says -/
def spDrawn (post : Hp → V → Prop) : Sp := fun vs H Q _ => ∃ a : Addr, vs = [.ref a] ∧ Src H a ∧ ∀ H' v, But a H H' → Src H' a → post H' v → Q v H'
theorem r_drawn {post : Hp → V → Prop} {H : Hp} {Q : VK} {a : Addr} (hs : Src H a) (q : ∀ H' v, But a H H' → Src H' a → post H' v → Q v H') : spDrawn post [.ref a] H Q E0 := ⟨a, rfl, hs, q⟩
/-- a text of ASCII signs, of so many signs -/
def SV (lo hi : Nat) (v : V) : Prop := ∃ z : Str, v = .str z ∧ lo ≤ z.length ∧ z.length ≤ hi ∧ Asc z
theorem r_cell {K : PySem.W.Frag} {H : Hp} {Q : VK} {l : Addr} {ns : List Int} {k : Int} (hL : SqL K H l (ns.map V.int)) (hn : ns.length ≤ 63) (h0 : 0 ≤ k) (h1 : k ≤ 1000000) (q : ∀ c : Int, Q (.int c) H) : spCell K [.ref l, .int k] H Q E0 := ⟨l, ns, k, rfl, hL, hn, h0, h1, q⟩
theorem r_source {H : Hp} {Q : VK} {n : Int} (q : ∀ H' a, Same H H' → H a = none → Src H' a → Q (.ref a) H') : spSource [.int n] H Q E0 := ⟨n, rfl, q⟩
theorem r_cat {H : Hp} {Q : VK} {l b : Addr} {xs ys : List V} (h1 : H l = some (.lst xs)) (h2 : H b = some (.lst ys)) (hz : xs.length + ys.length ≤ 100000) (q : ∀ p H2, H p = none → Same H H2 → H2 p = some (.lst (xs ++ ys)) → Q (.ref p) H2) : rCat (.ref l) (.ref b) H Q :=
  ⟨l, b, xs, ys, rfl, rfl, h1, h2, Nat.le_trans hz (by decide), fun p hp => q p _ hp (ex_new hp) upd_same⟩
theorem r_isiB {K : PySem.W.Frag} {H : Hp} {Q : VK} {b r : Bool} {T : String} (h : kitB "bool" T = some r) (q : Q (.bl r) H) : rIsi K [.bl b, .ty T] H Q := ⟨_, _, _, _, r, rfl, .ty T, .base (.bl b), kit_ty h, q⟩
theorem r_isiI {K : PySem.W.Frag} {H : Hp} {Q : VK} {b : Int} {r : Bool} {T : String} (h : kitB "int" T = some r) (q : Q (.bl r) H) : rIsi K [.int b, .ty T] H Q := ⟨_, _, _, _, r, rfl, .ty T, .base (.int b), kit_ty h, q⟩
theorem r_isiS {K : PySem.W.Frag} {H : Hp} {Q : VK} {b : Str} {r : Bool} {T : String} (h : kitB "str" T = some r) (q : Q (.bl r) H) : rIsi K [.str b, .ty T] H Q := ⟨_, _, _, _, r, rfl, .ty T, .base (.str b), kit_ty h, q⟩
theorem r_iteNF {A B : Prop} (h : A) : if (!false) = true then A else B := iteT h
theorem r_iteNT {A B : Prop} (h : B) : if (!true) = true then A else B := iteF h
theorem r_iteDp {p : Prop} [Decidable p] {A B : Prop} (h : p) (a : A) : if decide p = true then A else B := by rw [decide_eq_true h]; exact a
theorem r_iteDn {p : Prop} [Decidable p] {A B : Prop} (h : ¬ p) (b : B) : if decide p = true then A else B := by rw [decide_eq_false h]; exact b
theorem r_iteNp {p : Prop} [Decidable p] {A B : Prop} (h : p) (b : B) : if (!decide p) = true then A else B := by rw [decide_eq_true h]; exact b
theorem r_iteNn {p : Prop} [Decidable p] {A B : Prop} (h : ¬ p) (a : A) : if (!decide p) = true then A else B := by rw [decide_eq_false h]; exact a
end My

set_option Elab.async false
set_option linter.all false
set_option maxRecDepth 100000
set_option maxHeartbeats 4000000
namespace My
open PySem PySem.Spec PyProof.Rows L2
open C8 (tCut pss_cut)
local macro_rules | `(tactic| walk_at "side") => `(tactic| (with_unfolding_all first | assumption | exact rfl | omega | decide +kernel | exact ⟨by omega, by omega⟩ | exact Nat.le_of_ble_eq_true rfl | exact Or.inl ⟨by omega, by omega⟩ | exact Or.inr ⟨by omega, by omega⟩ | (simp; omega)))
local macro_rules | `(tactic| walk_at "tr") => `(tactic| (with_unfolding_all first | assumption | exact SqL.of (by assumption) | exact SqT.of (by assumption) | exact ex_t (by assumption) (by walk_at "tr") | exact ex_l (by assumption) (by walk_at "tr") | exact but_t (by assumption) (by assumption) (by walk_at "tr")))
local macro_rules | `(tactic| walk_at "rd1") => `(tactic| first
  | ((with_reducible refine r_seq ?_))
  | ((with_reducible refine r_asgN ?_))
  | ((with_reducible refine r_ret ?_))
  | ((with_reducible refine r_retN ?_))
  | ((with_reducible refine r_drop ?_))
  | ((with_reducible refine r_ifS ?_))
  | ((with_reducible refine r_next ?_))
  | ((with_reducible refine r_brk ?_))
  | ((with_reducible refine r_cont ?_))
  | ((with_reducible refine r_for ?_))
  | ((with_reducible refine r_iStr ?_))
  | ((with_reducible refine r_iStr1 ?_))
  | ((with_reducible refine r_iList ?_))
  | ((with_reducible refine r_iTup ?_))
  | ((with_reducible refine r_iRng1 ?_))
  | ((with_reducible refine r_iRng2 ?_))
  | ((with_reducible refine' r_var ?k1 ?_); (case k1 => with_unfolding_all rfl))
  | ((with_reducible refine r_c ?_))
  | ((with_reducible refine r_op ?_))
  | ((with_reducible refine r_un ?_))
  | ((with_reducible refine r_if ?_))
  | ((with_reducible refine r_fn ?_))
  | ((with_reducible refine r_cb ?_))
  | ((with_reducible refine r_cons ?_))
  | ((with_reducible refine r_nil ?_))
  | ((with_reducible refine r_test ?_))
  | ((with_reducible refine r_tB ?_))
  | ((with_reducible refine r_and ?_))
  | ((with_reducible refine r_or ?_))
  | ((with_reducible refine r_not ?_))
  | ((with_reducible refine r_chain ?_))
  | ((with_reducible refine r_andV ?_))
  | ((with_reducible refine r_orV ?_))
  | ((with_reducible refine r_notV ?_))
  | ((with_reducible refine r_tup ?_))
  | ((with_reducible refine r_lst ?_))
  | ((with_reducible refine r_sl ?_))
  | ((with_reducible refine r_noPart ?_))
  | ((with_reducible refine r_part ?_))
  | ((with_reducible refine r_bl ?_))
  | ((with_reducible refine r_exI ?_))
  | ((with_reducible refine r_I0 ?_))
  | ((with_reducible refine r_U ?_))
  | ((with_reducible refine r_eqI ?_))
  | ((with_reducible refine r_eqS ?_))
  | ((with_reducible refine r_eqB ?_))
  | ((with_reducible refine r_neI ?_))
  | ((with_reducible refine r_neS ?_))
  | ((with_reducible refine r_neB ?_))
  | ((with_reducible refine r_int ?_))
  | ((with_reducible refine r_inS ?_))
  | ((with_reducible refine r_notInS ?_))
  | ((with_reducible refine r_bm ?_))
  | ((with_reducible refine r_up ?_))
  | ((with_reducible refine r_low ?_))
  | ((with_reducible refine' r_up1 ?k1 ?_); (case k1 => walk_at "side"))
  | ((with_reducible refine' r_low1 ?k1 ?_); (case k1 => walk_at "side"))
  | ((with_reducible refine' r_newL ?k1 ?_); (case k1 => walk_at "side"))
  | ((with_reducible refine' r_newT ?k1 ?_); (case k1 => walk_at "side"))
  | ((with_reducible refine r_asg ?_))
  | ((with_reducible refine r_gName ?_))
  | ((with_reducible refine r_sub ?_))
  | ((with_reducible refine' r_I ?k1 ?_); (case k1 => walk_at "side"))
  | ((with_reducible refine' r_lenS ?k1 ?_); (case k1 => walk_at "side"))
  | ((with_reducible refine' r_addS ?k1 ?_); (case k1 => walk_at "side"))
  | ((with_reducible refine r_iteT ?_))
  | ((with_reducible refine r_iteF ?_))
  | ((with_reducible refine r_iteNT ?_))
  | ((with_reducible refine r_iteNF ?_))
  | ((with_reducible refine' r_iteDp ?k1 ?_); (case k1 => walk_at "side"))
  | ((with_reducible refine' r_iteDn ?k1 ?_); (case k1 => walk_at "side"))
  | ((with_reducible refine' r_iteNp ?k1 ?_); (case k1 => walk_at "side"))
  | ((with_reducible refine' r_iteNn ?k1 ?_); (case k1 => walk_at "side"))
  | ((with_reducible refine' r_iList1 ?k1 ?k2 ?_); (case k2 => walk_at "tr"))
  | ((with_reducible refine' r_iTup1 ?k1 ?k2 ?_); (case k2 => walk_at "tr"))
  | ((with_reducible refine' r_iRng11 ?k1 ?_); (case k1 => walk_at "side"))
  | ((with_reducible refine' r_iRng21 ?k1 ?_); (case k1 => walk_at "side"))
  | ((with_reducible refine' r_ixL ?k1 ?k2 ?_); (case k1 => walk_at "tr"); (case k2 => with_unfolding_all rfl))
  | ((with_reducible refine' r_ixT ?k1 ?k2 ?_); (case k1 => walk_at "tr"); (case k2 => with_unfolding_all rfl))
  | ((with_reducible refine' r_lenT ?k1 ?_); (case k1 => walk_at "tr"))
  | ((with_reducible refine' r_lenL ?k1 ?_); (case k1 => walk_at "tr"))
  | ((with_reducible refine' r_slS ?k1 ?_); (case k1 => walk_at "side"))
  | ((with_reducible refine' r_isiB ?k1 ?_); (case k1 => walk_at "side"))
  | ((with_reducible refine' r_isiI ?k1 ?_); (case k1 => walk_at "side"))
  | ((with_reducible refine' r_isiS ?k1 ?_); (case k1 => walk_at "side")))
local macro_rules | `(tactic| walk_at "rd") => `(tactic| repeat walk_at "rd1")
local macro_rules | `(tactic| walk_at "en") => `(tactic| ((try dsimp only [nox_K]); walk_at "rd"))
local macro_rules | `(tactic| walk_at "sp") => `(tactic| first
  | with_reducible refine r_iteD ?_ ?_
  | with_reducible refine r_iteN ?_ ?_
  | with_reducible refine r_ite ?_ ?_)
def topS (i : Nat) : Stmt := PySem.Challenge.pw_provenames_k04_is_name.main.body.getD i (.Pass ⟨0, 0, 0, 0⟩)
abbrev s_is_plain_label : Stmt := topS 5
theorem sc_is_plain_label : FnScope ["label", "character"] ["label"] (defScope s_is_plain_label) := ⟨rfl, rfl, rfl, by decide +kernel, rfl, by decide +kernel, by decide +kernel⟩
abbrev s_is_name : Stmt := topS 6
theorem sc_is_name : FnScope ["labels", "plain", "label"] ["labels"] (defScope s_is_name) := ⟨rfl, rfl, rfl, by decide +kernel, rfl, by decide +kernel, by decide +kernel⟩
abbrev s_is_wildcard : Stmt := topS 7
theorem sc_is_wildcard : FnScope ["name"] ["name"] (defScope s_is_wildcard) := ⟨rfl, rfl, rfl, by decide +kernel, rfl, by decide +kernel, by decide +kernel⟩
abbrev s__law_cell : Stmt := topS 9
theorem sc__law_cell : FnScope ["script", "k", "total", "cell"] ["script", "k"] (defScope s__law_cell) := ⟨rfl, rfl, rfl, by decide +kernel, rfl, by decide +kernel, by decide +kernel⟩
abbrev s__law_source : Stmt := topS 10
theorem sc__law_source : FnScope ["cell"] ["cell"] (defScope s__law_source) := ⟨rfl, rfl, rfl, by decide +kernel, rfl, by decide +kernel, by decide +kernel⟩
abbrev s__law_draw : Stmt := topS 11
theorem sc__law_draw : FnScope ["source", "many", "digit"] ["source", "many"] (defScope s__law_draw) := ⟨rfl, rfl, rfl, by decide +kernel, rfl, by decide +kernel, by decide +kernel⟩
abbrev s__law_any_char : Stmt := topS 12
theorem sc__law_any_char : FnScope ["source", "chars"] ["source"] (defScope s__law_any_char) := ⟨rfl, rfl, rfl, by decide +kernel, rfl, by decide +kernel, by decide +kernel⟩
abbrev s__law_label : Stmt := topS 13
theorem sc__law_label : FnScope ["source", "chars", "size", "label", "k"] ["source"] (defScope s__law_label) := ⟨rfl, rfl, rfl, by decide +kernel, rfl, by decide +kernel, by decide +kernel⟩
abbrev s__law_odd : Stmt := topS 14
theorem sc__law_odd : FnScope ["source", "choice", "odd", "text", "k", "label", "place"] ["source"] (defScope s__law_odd) := ⟨rfl, rfl, rfl, by decide +kernel, rfl, by decide +kernel, by decide +kernel⟩
abbrev s__law_labels : Stmt := topS 15
theorem sc__law_labels : FnScope ["source", "count", "shape", "free", "labels", "k"] ["source"] (defScope s__law_labels) := ⟨rfl, rfl, rfl, by decide +kernel, rfl, by decide +kernel, by decide +kernel⟩
abbrev s__law_is_label : Stmt := topS 16
theorem sc__law_is_label : FnScope ["label", "char"] ["label"] (defScope s__law_is_label) := ⟨rfl, rfl, rfl, by decide +kernel, rfl, by decide +kernel, by decide +kernel⟩
abbrev s__law_expected : Stmt := topS 17
theorem sc__law_expected : FnScope ["labels", "k", "last"] ["labels"] (defScope s__law_expected) := ⟨rfl, rfl, rfl, by decide +kernel, rfl, by decide +kernel, by decide +kernel⟩
abbrev s_law : Stmt := topS 18
theorem sc_law : FnScope ["script", "count", "rows", "k", "labels", "actual"] ["script"] (defScope s_law) := ⟨rfl, rfl, rfl, by decide +kernel, rfl, by decide +kernel, by decide +kernel⟩
structure Txt (K : PySem.W.Frag) (mg : Str → Option Value) : Prop where
  m_bool : mg "bool" = none
  m_int : mg "int" = none
  m_isinstance : mg "isinstance" = none
  m_len : mg "len" = none
  m_range : mg "range" = none
  m_tuple : mg "tuple" = none
  d_is_plain_label : Def1 K mg "is_plain_label" ["label"] s_is_plain_label
  d_is_name : Def1 K mg "is_name" ["labels"] s_is_name
  d_is_wildcard : Def1 K mg "is_wildcard" ["name"] s_is_wildcard
  d__law_cell : Def1 K mg "_law_cell" ["script", "k"] s__law_cell
  d__law_source : Def1 K mg "_law_source" ["cell"] s__law_source
  d__law_draw : Def1 K mg "_law_draw" ["source", "many"] s__law_draw
  d__law_any_char : Def1 K mg "_law_any_char" ["source"] s__law_any_char
  d__law_label : Def1 K mg "_law_label" ["source"] s__law_label
  d__law_odd : Def1 K mg "_law_odd" ["source"] s__law_odd
  d__law_labels : Def1 K mg "_law_labels" ["source"] s__law_labels
  d__law_is_label : Def1 K mg "_law_is_label" ["label"] s__law_is_label
  d__law_expected : Def1 K mg "_law_expected" ["labels"] s__law_expected
  d_law : Def1 K mg "law" ["script"] s_law
  c_STAR_LABEL : GC mg "STAR_LABEL" (.str "*")
  c_LABEL_CHARACTERS : GC mg "LABEL_CHARACTERS" (.str "abcdefghijklmnopqrstuvwxyz0123456789-")
  c_MOST_CHARACTERS : GC mg "MOST_CHARACTERS" (.int 20)
  c_MOST_LABELS : GC mg "MOST_LABELS" (.int 12)
section
variable {P : Program} {w : World} {K : PySem.W.Frag} {mg : Str → Option Value} {base : Heap}
theorem take_mem {α : Type} {xs : List α} {P : α → Prop} {i : Nat} {c : α} (hi : xs[i]? = some c) (h : ∀ x ∈ xs.take i, P x) (hc : P c) : ∀ x ∈ xs.take (i + 1), P x := by
  intro x hx
  rw [List.take_add_one, hi] at hx
  rcases List.mem_append.mp hx with hx | hx
  · exact h x hx
  · have : x = c := by simpa using hx
    rw [this]; exact hc
def CH : Str := "abcdefghijklmnopqrstuvwxyz0123456789-"
def plainB (z : Str) : Bool := decide (1 ≤ z.length ∧ z.length ≤ 20) && z.cps.toList.all (fun c => decide (c ∈ CH.cps.toList))
def spPlain : Sp := fun vs H Q _ => ∃ z : Str, vs = [.str z] ∧ z.length ≤ 1000 ∧ Q (.bl (plainB z)) H
theorem ok_is_plain_label (T : Txt K mg) : Fn P w K mg base 1 "is_plain_label" ["label"] spPlain := by
  refine T.d_is_plain_label.ok sc_is_plain_label (by rintro vs H Q E ⟨_, rfl, _⟩; rfl) (fun f cdv A outer s H vs Q E hr h => ?_)
  obtain ⟨z, rfl, hz, k⟩ := h
  refine ⟨_, (pss_cons (ps_if (pt_not (pt_chain op_le op_le pe_int (pe_callB cLenS (by rfl) T.m_len PySem.boot_len (pa_cons (pv 0) pa_nil)) (pe_gc T.c_MOST_CHARACTERS rfl)))
  (pss_one (ps_ret pe_bl))
  pss_nil)
  (pss_cons (ps_for PassesOwn.never rfl (pi_str (pv 0)) (pg_name (i := 1) sc_is_plain_label.nd rfl (.inl rfl))
  (pss_one (ps_if (pt_cmpR oNotInS (pv 1) (pe_gc T.c_LABEL_CHARACTERS rfl) (by first | rfl | with_unfolding_all rfl))
  (pss_one (ps_ret pe_bl))
  pss_nil)))
  (pss_one (ps_ret pe_bl)))), ?_⟩
  walk_at "en"
  walk_at "sp" <;> intro h1
  · walk_at "rd"
    walk_at "sp" <;> intro h2
    rotate_left
    · walk_at "rd"
      refine loopS (fun i σ' H' => (∃ v, σ' = [some (.str z), v]) ∧ H' = H ∧ ∀ c ∈ z.cps.toList.take i, c ∈ CH.cps.toList) ⟨⟨_, rfl⟩, rfl, by simp⟩ ?_ ?_
      · rintro i c σ' H' hi ⟨⟨v, rfl⟩, rfl, hall⟩
        walk_at "rd"
        walk_at "sp" <;> intro h3
        · walk_at "rd"
          have e : plainB z = false := by
            unfold plainB
            rw [Bool.and_eq_false_iff]
            refine .inr (List.all_eq_false.mpr ⟨c, List.mem_of_getElem? hi, by simpa [CH] using h3⟩)
          rw [e] at k
          exact k
        · walk_at "rd"
          exact ⟨⟨_, rfl⟩, rfl, take_mem hi hall (by simpa [CH] using h3)⟩
      · rintro σ' H' ⟨⟨v, rfl⟩, rfl, hall⟩
        walk_at "rd"
        have e : plainB z = true := by
          unfold plainB
          rw [Bool.and_eq_true]
          refine ⟨decide_eq_true ⟨by omega, by omega⟩, List.all_eq_true.mpr fun c hc => decide_eq_true (hall c (by rw [List.take_length]; exact hc))⟩
        rw [e] at k
        exact k
    · walk_at "rd"
      have e : plainB z = false := by
        unfold plainB
        rw [decide_eq_false (by omega)]; rfl
      rw [e] at k
      exact k
  · walk_at "rd"
    have e : plainB z = false := by
      unfold plainB
      rw [decide_eq_false (by omega)]; rfl
    rw [e] at k
    exact k
def wildB (xs : List Str) : Bool := decide (xs.drop (xs.length - 1) = [("*" : Str)])
def spWild (K : PySem.W.Frag) : Sp := fun vs H Q _ => ∃ (a : Addr) (xs : List Str), vs = [.ref a] ∧ SqT K H a (xs.map V.str) ∧ (∀ x ∈ xs, Asc x) ∧ ∀ H', Same H H' → Q (.bl (wildB xs)) H'
theorem ok_is_wildcard (T : Txt K mg) : Fn P w K mg base 1 "is_wildcard" ["name"] (spWild K) := by
  refine T.d_is_wildcard.ok sc_is_wildcard (by rintro vs H Q E ⟨_, _, rfl, _⟩; rfl) (fun f cdv A outer s H vs Q E hr h => ?_)
  obtain ⟨a, xs, rfl, hT, hA, k⟩ := h
  refine ⟨_, (pss_one (ps_ret (pe_cmpR (op_eqD hr.units) (pe_slice sl_tupA (pv 0) (po_some (pe_un un_neg pe_int)) po_none) (pe_tup (pa_cons (pe_gc T.c_STAR_LABEL rfl) pa_nil)) (nomark _)))), ?_⟩
  walk_at "en"
  refine r_slA hT fun p H1 e1 hp => ?_
  walk_at "rd"
  intro q H2 n2 e2 hq
  rw [cutV_strs] at hp
  refine r_eqTS (ys := [("*" : Str)]) (ex_t e2 hp) (SqT.of hq) ?_ (fun x hx => by rw [List.mem_singleton.mp hx]; decide +kernel) ?_
  · intro x hx
    exact hA x (List.mem_of_mem_drop (List.mem_of_mem_take hx))
  have e : wildB xs = decide ((xs.drop (HT.sIx xs.length 0 (some (-1)))).take (HT.sIx xs.length xs.length none - HT.sIx xs.length 0 (some (-1))) = [("*" : Str)]) := by
    unfold wildB
    have e1 : HT.sIx xs.length 0 (some (-1)) = xs.length - 1 := by
      show (if (-1 : Int) < 0 then ((-1 : Int) + (xs.length : Int)).toNat else min (-1 : Int).toNat xs.length) = _
      rw [if_pos (by decide)]; omega
    rw [e1, HT.sIx_none, List.take_of_length_le (by rw [List.length_drop]; omega)]
  rw [← e]
  exact k H2 (e1.trans e2)
theorem ok__law_draw (T : Txt K mg) : Fn P w K mg base 1 "_law_draw" ["source", "many"] spDraw := by
  refine T.d__law_draw.ok sc__law_draw (by rintro vs H Q E ⟨_, _, rfl, _⟩; rfl) (fun f cdv A outer s H vs Q E hr h => ?_)
  obtain ⟨a, m, rfl, ⟨x, y, z, hS, hy⟩, h0, h1, k⟩ := h
  refine ⟨_, (pss_cons (ps_if (pt_cmpR op_eq (pe_ix ix_list (pv 0) pe_int (fun _ _ => rfl)) pe_int (nomark _))
  (pss_cons (ps_set (i := 2) sc__law_draw.nd rfl (.inl rfl) (pe_op op_mod (pe_callTy cInt (by rfl) T.m_int (by decide +kernel) (pa_cons (pe_ix ix_list (pv 0) pe_int (fun _ _ => rfl)) pa_nil)) (pv 1)))
  (pss_cons (ps_asg (pe_op op_fdiv (pe_ix ix_list (pv 0) pe_int (fun _ _ => rfl)) (pv 1)) (pg_sub (pv 0) pe_int set_list))
  (pss_one (ps_ret (pv 2)))))
  pss_nil)
  (pss_cons (ps_asg (pe_op op_mod (pe_callTy cInt (by rfl) T.m_int (by decide +kernel) (pa_cons (pe_op op_add (pe_op op_mul (pe_ix ix_list (pv 0) pe_int (fun _ _ => rfl)) pe_int) pe_int) pa_nil)) pe_int) (pg_sub (pv 0) pe_int set_list))
  (pss_cons (ps_asg (pe_op op_mod (pe_callTy cInt (by rfl) T.m_int (by decide +kernel) (pa_cons (pe_op op_add (pe_op op_add (pe_op op_mul (pe_ix ix_list (pv 0) pe_int (fun _ _ => rfl)) pe_int) (pe_ix ix_list (pv 0) pe_int (fun _ _ => rfl))) pe_int) pa_nil)) pe_int) (pg_sub (pv 0) pe_int set_list))
  (pss_one (ps_ret (pe_op op_mod (pe_callTy cInt (by rfl) T.m_int (by decide +kernel) (pa_cons (pe_ix ix_list (pv 0) pe_int (fun _ _ => rfl)) pa_nil)) (pv 1))))))), ?_⟩
  walk_at "en"
  walk_at "sp" <;> intro hy0
  · walk_at "rd"
    refine r_setL hS rfl fun H1 b1 e1 => ?_
    walk_at "rd"
    exact k _ _ b1 ⟨_, _, _, e1, .inl hy0⟩ (Int.emod_nonneg _ (by omega)) (Int.emod_lt_of_pos _ h0)
  · have hy := hy.resolve_left hy0
    walk_at "rd"
    refine r_setL hS rfl fun H1 b1 e1 => ?_
    have e1 : H1 a = some (.lst [.int ((x * 48271 + 69621) % 2147483647), .int y, .int z]) := e1
    have hx0 := Int.emod_nonneg (x * 48271 + 69621) (show (2147483647 : Int) ≠ 0 by decide)
    have hx1 := Int.emod_lt_of_pos (x * 48271 + 69621) (show (0 : Int) < 2147483647 by decide)
    walk_at "rd"
    refine r_setL e1 rfl fun H2 b2 e2 => ?_
    walk_at "rd"
    refine k _ _ (b1.trans b2) ⟨_, _, _, e2, .inr ⟨hx0, by omega, Int.emod_nonneg _ (by decide), ?_⟩⟩ (Int.emod_nonneg _ (by omega)) (Int.emod_lt_of_pos _ h0)
    exact Int.lt_trans (Int.emod_lt_of_pos _ (by decide)) (by decide)
theorem ok__law_source (T : Txt K mg) : Fn P w K mg base 1 "_law_source" ["cell"] spSource := by
  refine T.d__law_source.ok sc__law_source (by rintro vs H Q E ⟨_, rfl, _⟩; rfl) (fun f cdv A outer s H vs Q E hr h => ?_)
  obtain ⟨n, rfl, k⟩ := h
  refine ⟨_, (pss_cons (ps_if (pt_cmpR op_ge (pv 0) (pe_op op_pow pe_int pe_int) (nomark _))
  (pss_one (ps_ret (pe_lst (pa_cons (pe_op op_sub (pv 0) (pe_op op_pow pe_int pe_int)) (pa_cons pe_int (pa_cons pe_int pa_nil))))))
  pss_nil)
  (pss_one (ps_ret (pe_lst (pa_cons (pe_op op_mod (pe_callTy cInt (by rfl) T.m_int (by decide +kernel) (pa_cons (pv 0) pa_nil)) pe_int) (pa_cons pe_int (pa_cons pe_int pa_nil))))))), ?_⟩
  walk_at "en"
  walk_at "sp" <;> intro hn
  · walk_at "rd"
    intro p H1 n1 e1 hp
    exact k _ _ e1 n1 ⟨_, _, _, hp, .inl rfl⟩
  · walk_at "rd"
    intro p H1 n1 e1 hp
    exact k _ _ e1 n1 ⟨_, _, _, hp, .inr ⟨Int.emod_nonneg _ (by decide), Int.lt_trans (Int.emod_lt_of_pos _ (by decide)) (by decide), by decide, by decide⟩⟩
theorem ok__law_cell (T : Txt K mg) : Fn P w K mg base 1 "_law_cell" ["script", "k"] (spCell K) := by
  refine T.d__law_cell.ok sc__law_cell (by rintro vs H Q E ⟨_, _, _, rfl, _⟩; rfl) (fun f cdv A outer s H vs Q E hr h => ?_)
  obtain ⟨l, ns, n, rfl, hL, hlen, h0, h1, k⟩ := h
  refine ⟨_, (pss_cons (ps_if (pt_cmpR op_lt (pv 1) (pe_callB cLenQ (by rfl) T.m_len PySem.boot_len (pa_cons (pv 0) pa_nil)) (nomark _))
  (pss_one (ps_ret (pe_callTy cInt (by rfl) T.m_int (by decide +kernel) (pa_cons (pe_ix ix_list (pv 0) (pv 1) (fun _ _ => rfl)) pa_nil))))
  pss_nil)
  (pss_cons (ps_set (i := 2) sc__law_cell.nd rfl (.inl rfl) (pe_op op_add (pe_op op_mul pe_int (pv 1)) pe_int))
  (pss_cons (ps_for PassesOwn.never rfl (pi_list (pv 0)) (pg_name (i := 3) sc__law_cell.nd rfl (.inl rfl))
  (pss_one (ps_set (i := 2) sc__law_cell.nd rfl (.inl rfl) (pe_op op_mod (pe_callTy cInt (by rfl) T.m_int (by decide +kernel) (pa_cons (pe_op op_add (pe_op op_mul (pv 2) pe_int) (pv 3)) pa_nil)) pe_int))))
  (pss_one (ps_ret (pv 2)))))), ?_⟩
  walk_at "en"
  walk_at "sp" <;> intro hn
  · walk_at "rd"
    obtain ⟨v, hv, ha, _⟩ := atI_in (xs := ns.map V.int) h0 hn
    obtain ⟨c, _, rfl⟩ := List.mem_map.mp hv
    refine r_ixL hL ha ?_
    walk_at "rd"
    exact k c
  · walk_at "rd"
    refine loopL (xs := ns.map V.int) (fun i σ' H' => (∃ t v, σ' = [some (.ref l), some (.int n), some (.int t), v] ∧ 0 ≤ t ∧ t ≤ 2147483629) ∧ H' = H) ⟨⟨_, _, rfl, by omega, by omega⟩, rfl⟩ (by rintro i σ' H' _ ⟨_, rfl⟩; exact hL) ?_ ?_
    · rintro i x σ' H' hi ⟨⟨t, v, rfl, ht0, ht1⟩, rfl⟩
      obtain ⟨c, _, rfl⟩ := List.mem_map.mp (List.mem_of_getElem? hi)
      walk_at "rd"
      exact ⟨⟨_, _, rfl, Int.emod_nonneg _ (by decide), Int.le_of_lt (Int.emod_lt_of_pos _ (by decide))⟩, rfl⟩
    · rintro σ' H' ⟨⟨t, v, rfl, ht0, ht1⟩, rfl⟩
      walk_at "rd"
      exact k t
theorem ok__law_any_char (T : Txt K mg) : Fn P w K mg base 2 "_law_any_char" ["source"] (spDrawn fun _ v => SV 1 1 v) := by
  refine T.d__law_any_char.ok sc__law_any_char (by rintro vs H Q E ⟨_, rfl, _⟩; rfl) (fun f cdv A outer s H vs Q E hr h => ?_)
  obtain ⟨a, rfl, hS, k⟩ := h
  refine ⟨_, (pss_cons (ps_set (i := 1) sc__law_any_char.nd rfl (.inl rfl) pe_str)
  (pss_cons (ps_set (i := 1) sc__law_any_char.nd rfl (.inl rfl) (pe_op oAddS (pv 1) pe_str))
  (pss_one (ps_ret (pe_ix ix_str (pv 1) (pe_fn (ok__law_draw T) hr (by rfl) (pa_cons (pv 0) (pa_cons pe_int pa_nil))) (fun _ _ => rfl)))))), ?_⟩
  walk_at "en"
  refine r_draw hS (by decide) (by decide) fun H1 d b1 s1 d0 d1 => ?_
  obtain ⟨c, hc, ha, _⟩ := atI_in (xs := ((" !\"#$&'()*+,-./0123456789:;<=>?@ABCDEFGHIJKLMNOPQRSTUVWXYZ[\\]^_`" : Str) ++ ("abcdefghijklmnopqrstuvwxyz{|}~" : Str)).cps.toList) d0 (Int.lt_of_lt_of_le d1 (by decide +kernel))
  refine r_ixS (by decide +kernel) ha ?_
  exact k _ _ b1 s1 ⟨_, rfl, Nat.le_refl _, Nat.le_refl _, Asc.mem (by decide +kernel) hc⟩
theorem ok__law_label (T : Txt K mg) : Fn P w K mg base 2 "_law_label" ["source"] (spDrawn fun _ v => SV 1 20 v) := by
  refine T.d__law_label.ok sc__law_label (by rintro vs H Q E ⟨_, rfl, _⟩; rfl) (fun f cdv A outer s H vs Q E hr h => ?_)
  obtain ⟨a, rfl, hS, k⟩ := h
  refine ⟨_, (pss_cons (ps_set (i := 1) sc__law_label.nd rfl (.inl rfl) pe_str)
  (pss_cons (ps_set (i := 2) sc__law_label.nd rfl (.inl rfl) (pe_op op_add pe_int (pe_fn (ok__law_draw T) hr (by rfl) (pa_cons (pv 0) (pa_cons pe_int pa_nil)))))
  (pss_cut (ps_if (pt_cmpR op_eq (pe_fn (ok__law_draw T) hr (by rfl) (pa_cons (pv 0) (pa_cons pe_int pa_nil))) pe_int (nomark _))
  (pss_one (ps_set (i := 2) sc__law_label.nd rfl (.inl rfl) (pe_op op_add pe_int (pe_op op_mod (pe_callTy cInt (by rfl) T.m_int (by decide +kernel) (pa_cons (pv 2) pa_nil)) pe_int))))
  pss_nil)
  (pss_cons (ps_set (i := 3) sc__law_label.nd rfl (.inl rfl) pe_str)
  (pss_cons (ps_for PassesOwn.never rfl (pi_range1 rfl T.m_range (pa_cons (pv 2) pa_nil)) (pg_name (i := 4) sc__law_label.nd rfl (.inl rfl))
  (pss_one (ps_set (i := 3) sc__law_label.nd rfl (.inl rfl) (pe_op oAddS (pv 3) (pe_ix ix_str (pv 1) (pe_fn (ok__law_draw T) hr (by rfl) (pa_cons (pv 0) (pa_cons pe_int pa_nil))) (fun _ _ => rfl))))))
  (pss_one (ps_ret (pv 3)))))))), ?_⟩
  walk_at "en"
  refine r_draw hS (by decide) (by decide) fun H1 d b1 s1 d0 d1 => ?_
  walk_at "rd"
  have e37 : ((CH.cps.toList.length : Nat) : Int) = 37 := by decide +kernel
  refine r_cut (fun σ' H' => But a H H' ∧ Src H' a ∧ ∃ n : Int, 1 ≤ n ∧ n ≤ 20 ∧ σ' = [some (.ref a), some (.str CH), some (.int n), none, none]) ?_ ?_
  · walk_at "rd"
    refine r_draw s1 (by decide) (by decide) fun H2 d' b2 s2 _ _ => ?_
    walk_at "rd"
    walk_at "sp" <;> intro hd
    · walk_at "rd"
      exact ⟨b1.trans b2, s2, _, by omega, by omega, rfl⟩
    · walk_at "rd"
      exact ⟨b1.trans b2, s2, _, by omega, by omega, rfl⟩
  · rintro σ' H2 ⟨b2, s2, n, hn0, hn1, rfl⟩
    walk_at "rd"
    refine loopR (fun i σ' H' => ∃ z v, σ' = [some (.ref a), some (.str CH), some (.int n), some (.str z), v] ∧ z.length = i ∧ Asc z ∧ But a H H' ∧ Src H' a) ⟨_, _, rfl, by decide +kernel, by decide +kernel, b2, s2⟩ ?_ ?_
    · rintro i σ' H' hi ⟨z, v, rfl, hz, hA, b3, s3⟩
      walk_at "rd"
      refine r_draw s3 (by decide) (by decide) fun H3 d3 b4 s4 d30 d31 => ?_
      obtain ⟨c, hc, ha, _⟩ := atI_in (xs := CH.cps.toList) d30 (by rw [e37]; exact d31)
      refine r_ixS (by decide +kernel) ha ?_
      refine r_addS (by rw [hz, len_one]; omega) ?_
      walk_at "rd"
      exact ⟨_, _, rfl, by rw [len_app, len_one, hz], hA.app (Asc.mem (by decide +kernel) hc), b3.trans b4, s4⟩
    · rintro σ' H' ⟨z, v, rfl, hz, hA, b3, s3⟩
      walk_at "rd"
      exact k _ _ b3 s3 ⟨z, rfl, by omega, by omega, hA⟩
theorem ok__law_odd (T : Txt K mg) : Fn P w K mg base 3 "_law_odd" ["source"] (spDrawn fun _ v => SV 0 41 v) := by
  refine T.d__law_odd.ok sc__law_odd (by rintro vs H Q E ⟨_, rfl, _⟩; rfl) (fun f cdv A outer s H vs Q E hr h => ?_)
  obtain ⟨a, rfl, hS, k⟩ := h
  refine ⟨_, (pss_cons (ps_set (i := 1) sc__law_odd.nd rfl (.inl rfl) (pe_fn (ok__law_draw T) (hr.mono (by decide)) (by rfl) (pa_cons (pv 0) (pa_cons pe_int pa_nil))))
  (pss_cons (ps_if (pt_cmpR op_lt (pv 1) pe_int (nomark _))
  (pss_cons (ps_set (i := 2) sc__law_odd.nd rfl (.inl rfl) (pe_lst (pa_cons pe_str (pa_cons pe_str (pa_cons pe_str (pa_cons pe_str (pa_cons pe_str (pa_cons pe_str (pa_cons pe_str (pa_cons pe_str pa_nil))))))))))
  (pss_one (ps_ret (pe_ix ix_list (pv 2) (pe_fn (ok__law_draw T) (hr.mono (by decide)) (by rfl) (pa_cons (pv 0) (pa_cons pe_int pa_nil))) (fun _ _ => rfl)))))
  pss_nil)
  (pss_cons (ps_if (pt_cmpR op_eq (pv 1) pe_int (nomark _))
  (pss_cons (ps_set (i := 3) sc__law_odd.nd rfl (.inl rfl) pe_str)
  (pss_cons (ps_for PassesOwn.never rfl (pi_range1 rfl T.m_range (pa_cons (pe_fn (ok__law_draw T) (hr.mono (by decide)) (by rfl) (pa_cons (pv 0) (pa_cons pe_int pa_nil))) pa_nil)) (pg_name (i := 4) sc__law_odd.nd rfl (.inl rfl))
  (pss_one (ps_set (i := 3) sc__law_odd.nd rfl (.inl rfl) (pe_op oAddS (pv 3) (pe_fn (ok__law_any_char T) hr (by rfl) (pa_cons (pv 0) pa_nil))))))
  (pss_one (ps_ret (pv 3)))))
  pss_nil)
  (pss_cons (ps_set (i := 5) sc__law_odd.nd rfl (.inl rfl) (pe_fn (ok__law_label T) hr (by rfl) (pa_cons (pv 0) pa_nil)))
  (pss_cons (ps_set (i := 6) sc__law_odd.nd rfl (.inl rfl) (pe_op op_mod (pe_callTy cInt (by rfl) T.m_int (by decide +kernel) (pa_cons (pe_fn (ok__law_draw T) (hr.mono (by decide)) (by rfl) (pa_cons (pv 0) (pa_cons pe_int pa_nil))) pa_nil)) (pe_callB cLenS (by rfl) T.m_len PySem.boot_len (pa_cons (pv 5) pa_nil))))
  (pss_one (ps_ret (pe_op oAddS (pe_op oAddS (pe_slice sl_str (pv 5) po_none (po_some (pv 6))) (pe_fn (ok__law_any_char T) hr (by rfl) (pa_cons (pv 0) pa_nil))) (pe_slice sl_str (pv 5) (po_some (pe_op op_add (pv 6) pe_int)) po_none))))))))), ?_⟩
  walk_at "en"
  refine r_draw hS (by decide) (by decide) fun H1 d b1 s1 d0 d1 => ?_
  walk_at "rd"
  walk_at "sp" <;> intro hd
  · walk_at "rd"
    intro p H2 n2 e2 hp
    walk_at "rd"
    refine r_draw (s1.ex e2) (by decide) (by decide) fun H3 d3 b3 s3 d30 d31 => ?_
    obtain ⟨v, hv, ha, _⟩ := atI_in (xs := ["", "*", "**", "A", "a.b", "aaaaaaaaaaaaaaaaaaaa", "aaaaaaaaaaaaaaaaaaaaa", "a_b"].map fun s : String => V.str s) d30 d31
    have hpa : p ≠ a := by
      rintro rfl
      obtain ⟨xs, h⟩ := s1.lst
      rw [n2] at h; cases h
    refine r_ixL (SqL.of (b3 _ _ hpa hp)) ha ?_
    refine k _ _ ((b1.same' e2).trans b3) s3 ?_
    have key : ∀ s ∈ ["", "*", "**", "A", "a.b", "aaaaaaaaaaaaaaaaaaaa", "aaaaaaaaaaaaaaaaaaaaa", "a_b"], (s : Str).length ≤ 41 ∧ Asc (s : Str) := by decide +kernel
    obtain ⟨s, hs, rfl⟩ := List.mem_map.mp hv
    exact ⟨_, rfl, Nat.zero_le _, (key s hs).1, (key s hs).2⟩
  · walk_at "rd"
    walk_at "sp" <;> intro hd2
    · walk_at "rd"
      refine r_draw s1 (by decide) (by decide) fun H2 n b2 s2 n0 n1 => ?_
      walk_at "rd"
      refine loopR (fun i σ' H' => ∃ z v, σ' = [some (.ref a), some (.int d), none, some (.str z), v, none, none] ∧ z.length = i ∧ Asc z ∧ But a H H' ∧ Src H' a) ⟨_, _, rfl, by decide +kernel, by decide +kernel, b1.trans b2, s2⟩ ?_ ?_
      · rintro i σ' H' hi ⟨z, v, rfl, hz, hA, b3, s3⟩
        walk_at "rd"
        refine r_drawn s3 fun H4 v4 b4 s4 hv4 => ?_
        obtain ⟨y, rfl, hy0, hy1, hyA⟩ := hv4
        walk_at "rd"
        exact ⟨_, _, rfl, by rw [len_app, hz]; omega, hA.app hyA, b3.trans b4, s4⟩
      · rintro σ' H' ⟨z, v, rfl, hz, hA, b3, s3⟩
        walk_at "rd"
        exact k _ _ b3 s3 ⟨z, rfl, by omega, by omega, hA⟩
    · walk_at "rd"
      refine r_drawn s1 fun H2 v2 b2 s2 hv2 => ?_
      obtain ⟨y, rfl, hy0, hy1, hyA⟩ := hv2
      walk_at "rd"
      refine r_draw s2 (by decide) (by decide) fun H3 n b3 s3 n0 n1 => ?_
      walk_at "rd"
      refine r_drawn s3 fun H4 v4 b4 s4 hv4 => ?_
      obtain ⟨c, rfl, hc0, hc1, hcA⟩ := hv4
      have h1 := cutS_length y none (some (n % (y.length : Int)))
      have h2 := cutS_length y (some (n % (y.length : Int) + 1)) none
      refine r_addS (by omega) ?_
      walk_at "rd"
      refine r_addS (by rw [len_app]; omega) ?_
      refine k _ _ (((b1.trans b2).trans b3).trans b4) s4 ⟨_, rfl, Nat.zero_le _, ?_, (((hyA.cut _ _).app hcA).app (hyA.cut _ _))⟩
      rw [len_app, len_app]
      have h3 : (cutS y none (some (n % (y.length : Int)))).length ≤ 20 := by omega
      omega
def LabsV (K : PySem.W.Frag) (H : Hp) (v : V) : Prop := ∃ (p : Addr) (zs : List Str), v = .ref p ∧ SqT K H p (zs.map V.str) ∧ zs.length ≤ 14 ∧ ∀ z ∈ zs, z.length ≤ 41 ∧ Asc z
theorem set_map_str (zs : List Str) (i : Nat) (z : Str) : (zs.map V.str).set i (.str z) = (zs.set i z).map V.str := by
  rw [List.map_set]
theorem mem_set_imp {α : Type} {xs : List α} {i : Nat} {a x : α} {P : α → Prop} (h : ∀ x ∈ xs, P x) (ha : P a) (hx : x ∈ xs.set i a) : P x := by
  rcases List.mem_or_eq_of_mem_set hx with hx | rfl
  · exact h x hx
  · exact ha
theorem ok__law_labels (T : Txt K mg) : Fn P w K mg base 4 "_law_labels" ["source"] (spDrawn (LabsV K)) := by
  refine T.d__law_labels.ok sc__law_labels (by rintro vs H Q E ⟨_, rfl, _⟩; rfl) (fun f cdv A outer s H vs Q E hr h => ?_)
  obtain ⟨a, rfl, hS, k⟩ := h
  refine ⟨_, (pss_cons (ps_set (i := 1) sc__law_labels.nd rfl (.inl rfl) (pe_fn (ok__law_draw T) (hr.mono (by decide)) (by rfl) (pa_cons (pv 0) (pa_cons pe_int pa_nil))))
  (pss_cons (ps_set (i := 2) sc__law_labels.nd rfl (.inl rfl) (pe_fn (ok__law_draw T) (hr.mono (by decide)) (by rfl) (pa_cons (pv 0) (pa_cons pe_int pa_nil))))
  (pss_cut (ps_if (pt_cmpR op_eq (pv 2) pe_int (nomark _))
  (pss_one (ps_set (i := 1) sc__law_labels.nd rfl (.inl rfl) (pe_op op_add pe_int (pe_op op_mod (pe_callTy cInt (by rfl) T.m_int (by decide +kernel) (pa_cons (pv 1) pa_nil)) pe_int))))
  pss_nil)
  (pss_cut (ps_if (pt_cmpR op_gt (pv 2) pe_int (nomark _))
  (pss_one (ps_set (i := 1) sc__law_labels.nd rfl (.inl rfl) (pe_op op_mod (pe_callTy cInt (by rfl) T.m_int (by decide +kernel) (pa_cons (pv 1) pa_nil)) pe_int)))
  pss_nil)
  (pss_cons (ps_set (i := 3) sc__law_labels.nd rfl (.inl rfl) (pe_cmpR op_eq (pe_fn (ok__law_draw T) (hr.mono (by decide)) (by rfl) (pa_cons (pv 0) (pa_cons pe_int pa_nil))) pe_int (nomark _)))
  (pss_cons (ps_set (i := 4) sc__law_labels.nd rfl (.inl rfl) (pe_lst pa_nil))
  (pss_cons (ps_for PassesOwn.never rfl (pi_range1 rfl T.m_range (pa_cons (pv 1) pa_nil)) (pg_name (i := 5) sc__law_labels.nd rfl (.inl rfl))
  (pss_one (ps_if (PW.pt (pw_and (pt_val (pv 3)) (pw_and1 (pt_cmpR op_eq (pe_fn (ok__law_draw T) (hr.mono (by decide)) (by rfl) (pa_cons (pv 0) (pa_cons pe_int pa_nil))) pe_int (nomark _)))))
  (pss_one (ps_expr (pe_bm PySem.F.plainAttrs_list PySem.F.slot_list_append PySem.F.type_list_append mt_append (pv 4) (pa_cons (pe_fn (ok__law_odd T) hr (by rfl) (pa_cons (pv 0) pa_nil)) pa_nil))))
  (pss_one (ps_expr (pe_bm PySem.F.plainAttrs_list PySem.F.slot_list_append PySem.F.type_list_append mt_append (pv 4) (pa_cons (pe_fn (ok__law_label T) (hr.mono (by decide)) (by rfl) (pa_cons (pv 0) pa_nil)) pa_nil)))))))
  (pss_cut (ps_if (PW.pt (pw_and (pt_not (pt_val (pv 3))) (pw_and (pt_cmpR op_gt (pv 1) pe_int (nomark _)) (pw_and1 (pt_cmpR op_eq (pe_fn (ok__law_draw T) (hr.mono (by decide)) (by rfl) (pa_cons (pv 0) (pa_cons pe_int pa_nil))) pe_int (nomark _))))))
  (pss_one (ps_asg (pe_fn (ok__law_odd T) hr (by rfl) (pa_cons (pv 0) pa_nil)) (pg_sub (pv 4) (pe_op op_mod (pe_callTy cInt (by rfl) T.m_int (by decide +kernel) (pa_cons (pe_fn (ok__law_draw T) (hr.mono (by decide)) (by rfl) (pa_cons (pv 0) (pa_cons pe_int pa_nil))) pa_nil)) (pv 1)) set_list)))
  pss_nil)
  (pss_cut (ps_if (PW.pt (pw_and (pt_cmpR op_gt (pv 1) pe_int (nomark _)) (pw_and1 (pt_cmpR op_eq (pe_fn (ok__law_draw T) (hr.mono (by decide)) (by rfl) (pa_cons (pv 0) (pa_cons pe_int pa_nil))) pe_int (nomark _)))))
  (pss_one (ps_asg pe_str (pg_sub (pv 4) (pe_op op_sub (pv 1) pe_int) set_list)))
  pss_nil)
  (pss_one (ps_ret (pe_callTy cTupOf (by rfl) T.m_tuple (by decide +kernel) (pa_cons (pv 4) pa_nil))))))))))))), ?_⟩
  walk_at "en"
  refine r_draw hS (by decide) (by decide) fun H1 d b1 s1 d0 d1 => ?_
  walk_at "rd"
  refine r_draw s1 (by decide) (by decide) fun H2 d2 b2 s2 d20 d21 => ?_
  walk_at "rd"
  refine r_cut (fun σ' H' => H' = H2 ∧ ∃ n : Int, 0 ≤ n ∧ n ≤ 14 ∧ σ' = [some (.ref a), some (.int n), some (.int d2), none, none, none]) ?_ ?_
  · walk_at "rd"
    walk_at "sp" <;> intro hd
    · walk_at "rd"
      exact ⟨rfl, _, by omega, by omega, rfl⟩
    · walk_at "rd"
      exact ⟨rfl, _, by omega, by omega, rfl⟩
  rintro σ' H' ⟨rfl, n, hn0, hn1, rfl⟩
  refine r_cut (fun σ' H'' => H'' = H' ∧ ∃ n : Int, 0 ≤ n ∧ n ≤ 14 ∧ σ' = [some (.ref a), some (.int n), some (.int d2), none, none, none]) ?_ ?_
  · walk_at "rd"
    walk_at "sp" <;> intro hd
    · walk_at "rd"
      exact ⟨rfl, _, by omega, by omega, rfl⟩
    · walk_at "rd"
      exact ⟨rfl, _, by omega, by omega, rfl⟩
  rintro σ' H2 ⟨rfl, n, hn0, hn1, rfl⟩
  walk_at "rd"
  refine r_draw s2 (by decide) (by decide) fun H3 d3 b3 s3 d30 d31 => ?_
  walk_at "rd"
  intro p H4 n4 e4 hp
  walk_at "rd"
  have hpa : p ≠ a := by
    rintro rfl
    obtain ⟨xs, h⟩ := s3.lst
    rw [n4] at h; cases h
  have hbp : But a H H3 := ((b1.trans b2).trans b3)
  have hnp : H p = none := but_fresh hbp hpa n4
  refine loopR (fun i σ' H' => ∃ (zs : List Str) (v : Option V), σ' = [some (.ref a), some (.int n), some (.int d2), some (.bl (decide (d3 = 0))), some (.ref p), v] ∧ zs.length = i ∧ (∀ z ∈ zs, z.length ≤ 41 ∧ Asc z) ∧ But a H H' ∧ Src H' a ∧ H' p = some (.lst (zs.map V.str))) ⟨[], _, rfl, rfl, by simp, hbp.same' e4, s3.ex e4, hp⟩ ?_ ?_
  · rintro i σ' H' hi ⟨zs, v, rfl, hz, hA, b5, s5, hp5⟩
    have key : ∀ (H6 H7 : Hp) (z : Str), But a H' H6 → Src H6 a → z.length ≤ 41 → Asc z → But p H6 H7 → H7 p = some (.lst (zs.map V.str ++ [.str z])) → 
       ∃ (zs' : List Str) (v : Option V), [some (V.ref a), some (.int n), some (.int d2), some (.bl (decide (d3 = 0))), some (.ref p), some (.int (0 + (i : Int)))] = [some (V.ref a), some (.int n), some (.int d2), some (.bl (decide (d3 = 0))), some (.ref p), v] ∧ zs'.length = i + 1 ∧ (∀ z ∈ zs', z.length ≤ 41 ∧ Asc z) ∧ But a H H7 ∧ Src H7 a ∧ H7 p = some (.lst (zs'.map V.str)) := by
      intro H6 H7 z b6 s6 hz1 hzA b7 h7
      refine ⟨zs ++ [z], _, rfl, by simp [hz], ?_, (b5.trans b6).step b7 hnp, s6.but b7 hpa.symm, by rw [h7, List.map_append]; rfl⟩
      intro y hy
      rcases List.mem_append.mp hy with hy | hy
      · exact hA y hy
      · rw [List.mem_singleton.mp hy]; exact ⟨hz1, hzA⟩
    walk_at "rd"
    walk_at "sp" <;> intro hfree
    · walk_at "rd"
      refine r_draw s5 (by decide) (by decide) fun H6 d6 b6 s6 _ _ => ?_
      walk_at "rd"
      walk_at "sp" <;> intro hd6
      · walk_at "rd"
        refine r_append (b6 _ _ hpa hp5) ?_
        walk_at "rd"
        refine r_drawn s6 fun H7 v7 b7 s7 hv7 => ?_
        obtain ⟨y, rfl, hy0, hy1, hyA⟩ := hv7
        walk_at "rd"
        refine r_append1 (b7 _ _ hpa (b6 _ _ hpa hp5)) (by rw [List.length_map]; omega) fun H8 b8 h8 => ?_
        exact key _ _ y (b6.trans b7) s7 (by omega) hyA b8 h8
      · walk_at "rd"
        refine r_append (b6 _ _ hpa hp5) ?_
        walk_at "rd"
        refine r_drawn s6 fun H7 v7 b7 s7 hv7 => ?_
        obtain ⟨y, rfl, hy0, hy1, hyA⟩ := hv7
        walk_at "rd"
        refine r_append1 (b7 _ _ hpa (b6 _ _ hpa hp5)) (by rw [List.length_map]; omega) fun H8 b8 h8 => ?_
        exact key _ _ y (b6.trans b7) s7 (by omega) hyA b8 h8
    · walk_at "rd"
      refine r_append hp5 ?_
      walk_at "rd"
      refine r_drawn s5 fun H7 v7 b7 s7 hv7 => ?_
      obtain ⟨y, rfl, hy0, hy1, hyA⟩ := hv7
      walk_at "rd"
      refine r_append1 (b7 _ _ hpa hp5) (by rw [List.length_map]; omega) fun H8 b8 h8 => ?_
      exact key _ _ y b7 s7 (by omega) hyA b8 h8
  rintro σ' H5 ⟨zs, v, rfl, hz, hA, b5, s5, hp5⟩
  have hset : ∀ (H6 H7 : Hp) (z : Str) (j : Nat), But a H5 H6 → Src H6 a → z.length ≤ 41 → Asc z → But p H6 H7 → H7 p = some (.lst ((zs.map V.str).set j (.str z))) → 
      ∃ zs' : List Str, zs'.length = n.toNat ∧ (∀ z ∈ zs', z.length ≤ 41 ∧ Asc z) ∧ But a H H7 ∧ Src H7 a ∧ H7 p = some (.lst (zs'.map V.str)) := by
    intro H6 H7 z j b6 s6 hz1 hzA b7 h7
    refine ⟨zs.set j z, by simp [hz], ?_, (b5.trans b6).step b7 hnp, s6.but b7 hpa.symm, by rw [h7, set_map_str]⟩
    intro y hy
    exact mem_set_imp (P := fun z => z.length ≤ 41 ∧ Asc z) hA ⟨hz1, hzA⟩ hy
  refine r_cut (fun σ' H' => ∃ (zs : List Str) (v : Option V), σ' = [some (.ref a), some (.int n), some (.int d2), some (.bl (decide (d3 = 0))), some (.ref p), v] ∧ zs.length = n.toNat ∧ (∀ z ∈ zs, z.length ≤ 41 ∧ Asc z) ∧ But a H H' ∧ Src H' a ∧ H' p = some (.lst (zs.map V.str))) ?_ ?_
  · walk_at "rd"
    walk_at "sp" <;> intro hfree
    · walk_at "rd"
      walk_at "sp" <;> intro hn
      · walk_at "rd"
        refine r_draw s5 (by decide) (by decide) fun H6 d6 b6 s6 _ _ => ?_
        walk_at "rd"
        walk_at "sp" <;> intro hd6
        · walk_at "rd"
          refine r_drawn s6 fun H7 v7 b7 s7 hv7 => ?_
          obtain ⟨y, rfl, hy0, hy1, hyA⟩ := hv7
          walk_at "rd"
          refine r_draw s7 (by decide) (by decide) fun H8 d8 b8 s8 _ _ => ?_
          walk_at "rd"
          have m0 := Int.emod_nonneg d8 (show n ≠ 0 by omega)
          have m1 := Int.emod_lt_of_pos d8 (show 0 < n by omega)
          refine r_setL (b8 _ _ hpa (b7 _ _ hpa (b6 _ _ hpa hp5))) (ixN_in m0 (by rw [List.length_map, hz]; omega)) fun H9 b9 h9 => ?_
          obtain ⟨zs', q1, q2, q3, q4, q5⟩ := hset _ _ y _ ((b6.trans b7).trans b8) s8 hy1 hyA b9 h9
          exact ⟨zs', v, rfl, q1, q2, q3, q4, q5⟩
        · walk_at "rd"
          exact ⟨zs, v, rfl, by omega, hA, b5.trans b6, s6, b6 _ _ hpa hp5⟩
      · walk_at "rd"
        exact ⟨zs, v, rfl, by omega, hA, b5, s5, hp5⟩
    · walk_at "rd"
      exact ⟨zs, v, rfl, by omega, hA, b5, s5, hp5⟩
  clear hset hp5 s5 b5 hA hz v zs
  rintro σ' H5 ⟨zs, v, rfl, hz, hA, b5, s5, hp5⟩
  refine r_cut (fun σ' H' => ∃ (zs : List Str) (v : Option V), σ' = [some (.ref a), some (.int n), some (.int d2), some (.bl (decide (d3 = 0))), some (.ref p), v] ∧ zs.length = n.toNat ∧ (∀ z ∈ zs, z.length ≤ 41 ∧ Asc z) ∧ But a H H' ∧ Src H' a ∧ H' p = some (.lst (zs.map V.str))) ?_ ?_
  · walk_at "rd"
    walk_at "sp" <;> intro hn
    · walk_at "rd"
      refine r_draw s5 (by decide) (by decide) fun H6 d6 b6 s6 _ _ => ?_
      walk_at "rd"
      walk_at "sp" <;> intro hd6
      · walk_at "rd"
        refine r_setL (b6 _ _ hpa hp5) (ixN_in (by omega) (by rw [List.length_map, hz]; omega)) fun H9 b9 h9 => ?_
        refine ⟨zs.set (n - 1).toNat "*", v, rfl, by simp [hz], ?_, (b5.trans b6).step b9 hnp, s6.but b9 hpa.symm, by rw [h9, set_map_str]⟩
        intro y hy
        exact mem_set_imp (P := fun z => z.length ≤ 41 ∧ Asc z) hA (by decide +kernel) hy
      · walk_at "rd"
        exact ⟨zs, v, rfl, by omega, hA, b5.trans b6, s6, b6 _ _ hpa hp5⟩
    · walk_at "rd"
      exact ⟨zs, v, rfl, by omega, hA, b5, s5, hp5⟩
  clear hp5 s5 b5 hA hz v zs
  rintro σ' H5 ⟨zs, v, rfl, hz, hA, b5, s5, hp5⟩
  walk_at "rd"
  refine r_tupOf (SqL.of hp5) fun l H6 n6 e6 h6 => ?_
  exact k _ _ (b5.same' e6) (s5.ex e6) ⟨l, zs, rfl, SqT.of h6, by omega, hA⟩
theorem ok__law_is_label (T : Txt K mg) : Fn P w K mg base 1 "_law_is_label" ["label"] spPlain := by
  refine T.d__law_is_label.ok sc__law_is_label (by rintro vs H Q E ⟨_, rfl, _⟩; rfl) (fun f cdv A outer s H vs Q E hr h => ?_)
  obtain ⟨z, rfl, hz, k⟩ := h
  refine ⟨_, (pss_cons (ps_if (PW.pt (pw_or (pt_cmpR op_lt (pe_callB cLenS (by rfl) T.m_len PySem.boot_len (pa_cons (pv 0) pa_nil)) pe_int (nomark _)) (pw_or1 (pt_cmpR op_gt (pe_callB cLenS (by rfl) T.m_len PySem.boot_len (pa_cons (pv 0) pa_nil)) pe_int (nomark _)))))
  (pss_one (ps_ret pe_bl))
  pss_nil)
  (pss_cons (ps_for PassesOwn.never rfl (pi_str (pv 0)) (pg_name (i := 1) sc__law_is_label.nd rfl (.inl rfl))
  (pss_one (ps_if (pt_cmpR oNotInS (pv 1) pe_str (by first | rfl | with_unfolding_all rfl))
  (pss_one (ps_ret pe_bl))
  pss_nil)))
  (pss_one (ps_ret pe_bl)))), ?_⟩
  have hbad : ¬ (1 ≤ z.length ∧ z.length ≤ 20) → plainB z = false := by
    intro hb
    unfold plainB
    rw [decide_eq_false hb]; rfl
  walk_at "rd"
  walk_at "sp" <;> intro h1
  · walk_at "rd"
    rw [hbad (by omega)] at k
    exact k
  · walk_at "rd"
    walk_at "sp" <;> intro h2
    · walk_at "rd"
      rw [hbad (by omega)] at k
      exact k
    · walk_at "rd"
      refine loopS (fun i σ' H' => (∃ v, σ' = [some (.str z), v]) ∧ H' = H ∧ ∀ c ∈ z.cps.toList.take i, c ∈ CH.cps.toList) ⟨⟨_, rfl⟩, rfl, by simp⟩ ?_ ?_
      · rintro i c σ' H' hi ⟨⟨v, rfl⟩, rfl, hall⟩
        walk_at "rd"
        walk_at "sp" <;> intro h3
        · walk_at "rd"
          have e : plainB z = false := by
            unfold plainB
            rw [Bool.and_eq_false_iff]
            refine .inr (List.all_eq_false.mpr ⟨c, List.mem_of_getElem? hi, by simpa [CH] using h3⟩)
          rw [e] at k
          exact k
        · walk_at "rd"
          exact ⟨⟨_, rfl⟩, rfl, take_mem hi hall (by simpa [CH] using h3)⟩
      · rintro σ' H' ⟨⟨v, rfl⟩, rfl, hall⟩
        walk_at "rd"
        have e : plainB z = true := by
          unfold plainB
          rw [Bool.and_eq_true]
          refine ⟨decide_eq_true ⟨by omega, by omega⟩, List.all_eq_true.mpr fun c hc => decide_eq_true (hall c (by rw [List.take_length]; exact hc))⟩
        rw [e] at k
        exact k
def nameB (xs : List Str) : Bool := decide (xs.length ≤ 12) && (if wildB xs then xs.dropLast else xs).all plainB
def spIsName (K : PySem.W.Frag) : Sp := fun vs H Q _ => ∃ (a : Addr) (xs : List Str), vs = [.ref a] ∧ SqT K H a (xs.map V.str) ∧ (∀ x ∈ xs, x.length ≤ 41 ∧ Asc x) ∧ ∀ H', Same H H' → Q (.bl (nameB xs)) H'
theorem ok_is_name (T : Txt K mg) : Fn P w K mg base 2 "is_name" ["labels"] (spIsName K) := by
  refine T.d_is_name.ok sc_is_name (by rintro vs H Q E ⟨_, _, rfl, _⟩; rfl) (fun f cdv A outer s H vs Q E hr h => ?_)
  obtain ⟨a, xs, rfl, hT, hA, k⟩ := h
  refine ⟨_, (pss_cons (ps_if (pt_cmpR op_gt (pe_callB cLenQ (by rfl) T.m_len PySem.boot_len (pa_cons (pv 0) pa_nil)) (pe_gc T.c_MOST_LABELS rfl) (nomark _))
  (pss_one (ps_ret pe_bl))
  pss_nil)
  (pss_cons (ps_set (i := 1) sc_is_name.nd rfl (.inl rfl) (pe_cut (pe_ifExp (pt_val (pe_fn (ok_is_wildcard T) hr (by rfl) (pa_cons (pv 0) pa_nil))) (pe_slice sl_tupA (pv 0) po_none (po_some (pe_un un_neg pe_int))) (pv 0))))
  (pss_cons (ps_for PassesOwn.never rfl (pi_tup (pv 1)) (pg_name (i := 2) sc_is_name.nd rfl (.inl rfl))
  (pss_one (ps_if (pt_not (pt_val (pe_fn (ok_is_plain_label T) hr (by rfl) (pa_cons (pv 2) pa_nil))))
  (pss_one (ps_ret pe_bl))
  pss_nil)))
  (pss_one (ps_ret pe_bl))))), ?_⟩
  walk_at "en"
  walk_at "sp" <;> intro h1
  · walk_at "rd"
    have e : nameB xs = false := by
      unfold nameB
      rw [decide_eq_false (by rw [List.length_map] at h1; omega)]; rfl
    rw [e] at k
    exact k _ (Same.refl _)
  · walk_at "rd"
    refine r_cutE (fun v H' => Same H H' ∧ ∃ p, v = .ref p ∧ SqT K H' p ((if wildB xs then xs.dropLast else xs).map V.str)) ?_ ?_
    · walk_at "rd"
      refine ⟨a, xs, rfl, hT, fun x hx => (hA x hx).2, fun H1 e1 => ?_⟩
      walk_at "rd"
      walk_at "sp" <;> intro h2
      · walk_at "rd"
        refine r_slA (ex_t e1 hT) fun p H2 e2 hp => ?_
        refine ⟨e1.trans e2, p, rfl, ?_⟩
        rw [if_pos h2]
        rw [cutV_strs] at hp
        have e3 : HT.sIx xs.length xs.length (some (-1)) = xs.length - 1 := by
          show (if (-1 : Int) < 0 then ((-1 : Int) + (xs.length : Int)).toNat else min (-1 : Int).toNat xs.length) = _
          rw [if_pos (by decide)]; omega
        have e4 : HT.sIx xs.length 0 none = 0 := rfl
        rw [e3, e4] at hp
        simpa [List.dropLast_eq_take] using hp
      · walk_at "rd"
        refine ⟨e1, a, rfl, ?_⟩
        rw [if_neg (by simp [h2])]
        exact ex_t e1 hT
    · rintro v H1 ⟨e1, p, rfl, hp⟩
      have hsub : ∀ y ∈ (if wildB xs then xs.dropLast else xs), y.length ≤ 41 := by
        intro y hy
        split at hy
        · exact (hA y (List.dropLast_subset xs hy)).1
        · exact (hA y hy).1
      walk_at "rd"
      refine loopT (xs := (if wildB xs then xs.dropLast else xs).map V.str) (fun i σ' H' => (∃ v, σ' = [some (.ref a), some (.ref p), v]) ∧ H' = H1 ∧ ∀ y ∈ (if wildB xs then xs.dropLast else xs).take i, plainB y = true) ⟨⟨_, rfl⟩, rfl, by simp⟩ (by rintro i σ' H' _ ⟨_, rfl, _⟩; exact hp) ?_ ?_
      · rintro i x σ' H' hi ⟨⟨v, rfl⟩, rfl, hall⟩
        obtain ⟨y, hy, rfl⟩ := map_get hi
        walk_at "rd"
        refine ⟨y, rfl, Nat.le_trans (hsub y (List.mem_of_getElem? hy)) (by decide), ?_⟩
        walk_at "rd"
        cases hpl : plainB y with
        | true =>
          walk_at "rd"
          exact ⟨⟨_, rfl⟩, rfl, take_mem hy hall hpl⟩
        | false =>
          walk_at "rd"
          have e : nameB xs = false := by
            unfold nameB
            rw [Bool.and_eq_false_iff]
            exact .inr (List.all_eq_false.mpr ⟨y, List.mem_of_getElem? hy, by rw [hpl]; decide⟩)
          rw [e] at k
          exact k _ e1
      · rintro σ' H' ⟨⟨v, rfl⟩, rfl, hall⟩
        walk_at "rd"
        have e : nameB xs = true := by
          unfold nameB
          rw [Bool.and_eq_true]
          refine ⟨decide_eq_true (by rw [List.length_map] at h1; omega), List.all_eq_true.mpr fun y hy => hall y ?_⟩
          rw [List.length_map, List.take_length]
          exact hy
        rw [e] at k
        exact k _ e1
theorem wild_iff (xs : List Str) : wildB xs = true ↔ 1 ≤ xs.length ∧ xs[xs.length - 1]? = some "*" := by
  unfold wildB
  rw [decide_eq_true_iff]
  by_cases h : 1 ≤ xs.length
  · have hl : xs.length - 1 < xs.length := by omega
    rw [List.drop_eq_getElem_cons hl, List.drop_of_length_le (by omega), List.getElem?_eq_getElem hl]
    constructor
    · intro e; exact ⟨h, congrArg some (List.cons.inj e).1⟩
    · intro e; rw [Option.some.inj e.2]
  · have : xs = [] := List.eq_nil_of_length_eq_zero (by omega)
    subst this
    constructor
    · intro e; cases e
    · intro e; exact absurd e.1 h
theorem name_no {xs : List Str} {i : Nat} {y : Str} (hy : xs[i]? = some y) (hp : plainB y = false) (hn : ¬ (i = xs.length - 1 ∧ y = "*")) : nameB xs = false := by
  unfold nameB
  rw [Bool.and_eq_false_iff]
  refine .inr (List.all_eq_false.mpr ⟨y, ?_, by rw [hp]; decide⟩)
  split
  · rename_i hw
    have hw := (wild_iff xs).mp hw
    have hi := (List.getElem?_eq_some_iff.mp hy).1
    have hne : i ≠ xs.length - 1 := by
      rintro rfl
      rw [hw.2] at hy
      exact hn ⟨rfl, (Option.some.inj hy).symm⟩
    refine List.mem_of_getElem? (i := i) ?_
    rw [List.getElem?_dropLast, if_pos (by omega)]
    exact hy
  · exact List.mem_of_getElem? hy
theorem name_yes {xs : List Str} (hl : xs.length ≤ 12) (h : ∀ (i : Nat) (y : Str), xs[i]? = some y → plainB y = true ∨ (i = xs.length - 1 ∧ y = "*")) : nameB xs = true := by
  unfold nameB
  rw [Bool.and_eq_true]
  refine ⟨decide_eq_true hl, List.all_eq_true.mpr fun y hy => ?_⟩
  split at hy
  · obtain ⟨i, hi⟩ := List.mem_iff_getElem?.mp hy
    rw [List.getElem?_dropLast] at hi
    split at hi
    · rename_i hlt
      exact (h i y hi).resolve_right (by omega)
    · cases hi
  · rename_i hw
    obtain ⟨i, hi⟩ := List.mem_iff_getElem?.mp hy
    rcases h i y hi with h | ⟨rfl, rfl⟩
    · exact h
    · exact absurd ((wild_iff xs).mpr ⟨by have := (List.getElem?_eq_some_iff.mp hi).1; omega, hi⟩) hw
theorem ok__law_expected (T : Txt K mg) : Fn P w K mg base 2 "_law_expected" ["labels"] (spIsName K) := by
  refine T.d__law_expected.ok sc__law_expected (by rintro vs H Q E ⟨_, _, rfl, _⟩; rfl) (fun f cdv A outer s H vs Q E hr h => ?_)
  obtain ⟨a, xs, rfl, hT, hA, k⟩ := h
  refine ⟨_, (pss_cons (ps_if (pt_cmpR op_gt (pe_callB cLenQ (by rfl) T.m_len PySem.boot_len (pa_cons (pv 0) pa_nil)) pe_int (nomark _))
  (pss_one (ps_ret pe_bl))
  pss_nil)
  (pss_cons (ps_for PassesOwn.never rfl (pi_range1 rfl T.m_range (pa_cons (pe_callB cLenQ (by rfl) T.m_len PySem.boot_len (pa_cons (pv 0) pa_nil)) pa_nil)) (pg_name (i := 1) sc__law_expected.nd rfl (.inl rfl))
  (pss_cons (ps_set (i := 2) sc__law_expected.nd rfl (.inl rfl) (pe_cmpR op_eq (pv 1) (pe_op op_sub (pe_callB cLenQ (by rfl) T.m_len PySem.boot_len (pa_cons (pv 0) pa_nil)) pe_int) (nomark _)))
  (pss_one (ps_if (PW.pt (pw_and (pt_not (pt_val (pe_fn (ok__law_is_label T) hr (by rfl) (pa_cons (pe_ix ix_tup (pv 0) (pv 1) (fun _ _ => rfl)) pa_nil)))) (pw_and1 (pt_not (PW.pt (pw_and (pt_val (pv 2)) (pw_and1 (pt_cmpR op_eq (pe_ix ix_tup (pv 0) (pv 1) (fun _ _ => rfl)) pe_str (nomark _)))))))))
  (pss_one (ps_ret pe_bl))
  pss_nil))))
  (pss_one (ps_ret pe_bl)))), ?_⟩
  walk_at "en"
  walk_at "sp" <;> intro h1
  · walk_at "rd"
    have e : nameB xs = false := by
      unfold nameB
      rw [decide_eq_false (by rw [List.length_map] at h1; omega)]; rfl
    rw [e] at k
    exact k _ (Same.refl _)
  · walk_at "rd"
    rw [List.length_map] at h1
    have en : ((((xs.map V.str).length : Nat) : Int)).toNat = xs.length := by rw [List.length_map]; omega
    rw [en]
    refine loopR (fun i σ' H' => (∃ v1 v2, σ' = [some (.ref a), v1, v2]) ∧ H' = H ∧ ∀ (j : Nat) (y : Str), j < i → xs[j]? = some y → plainB y = true ∨ (j = xs.length - 1 ∧ y = "*")) ⟨⟨_, _, rfl⟩, rfl, by intro j y hj; omega⟩ ?_ ?_
    · rintro i σ' H' hi ⟨⟨v1, v2, rfl⟩, rfl, hall⟩
      walk_at "rd"
      have hy : xs[i]? = some xs[i] := List.getElem?_eq_getElem hi
      have ha : atI (xs.map V.str) (0 + (i : Int)) = some (.str xs[i]) := by
        rw [Int.zero_add]
        exact atI_nat (by rw [List.getElem?_map, hy]; rfl)
      refine r_ixT hT ha ?_
      walk_at "rd"
      refine ⟨_, rfl, Nat.le_trans (hA _ (List.getElem_mem hi)).1 (by decide), ?_⟩
      walk_at "rd"
      have next : (plainB xs[i] = true ∨ (i = xs.length - 1 ∧ xs[i] = "*")) → ∀ (j : Nat) (y : Str), j < i + 1 → xs[j]? = some y → plainB y = true ∨ (j = xs.length - 1 ∧ y = "*") := by
        intro h j y hj hjy
        by_cases e : j = i
        · subst e
          rw [hy] at hjy
          cases hjy
          exact h
        · exact hall j y (by omega) hjy
      cases hpl : plainB xs[i] with
      | true =>
        walk_at "rd"
        exact ⟨⟨_, _, rfl⟩, rfl, next (.inl hpl)⟩
      | false =>
        walk_at "rd"
        walk_at "sp" <;> intro hl
        · walk_at "rd"
          refine r_ixT hT ha ?_
          walk_at "rd"
          walk_at "sp" <;> intro hs
          · walk_at "rd"
            rw [name_no hy hpl (fun z => hs z.2)] at k
            exact k _ (Same.refl _)
          · walk_at "rd"
            exact ⟨⟨_, _, rfl⟩, rfl, next (.inr ⟨by rw [List.length_map] at hl; omega, hs⟩)⟩
        · walk_at "rd"
          rw [name_no hy hpl (fun z => hl (by rw [List.length_map]; omega))] at k
          exact k _ (Same.refl _)
    · rintro σ' H' ⟨⟨v1, v2, rfl⟩, rfl, hall⟩
      walk_at "rd"
      rw [name_yes (by omega) (fun j y hj => hall j y (by exact (List.getElem?_eq_some_iff.mp hj).1) hj)] at k
      exact k _ (Same.refl _)
def spLaw (K : PySem.W.Frag) : Sp := fun vs H Q _ => ∃ (a : Addr) (ns : List Int), vs = [.ref a] ∧ SqL K H a (ns.map V.int) ∧ ns.length ≤ 63 ∧ ∀ H', Q (.bl true) H'
theorem ok_law (T : Txt K mg) : Fn P w K mg base 5 "law" ["script"] (spLaw K) := by
  refine T.d_law.ok sc_law (by rintro vs H Q E ⟨_, _, rfl, _⟩; rfl) (fun f cdv A outer s H vs Q E hr h => ?_)
  obtain ⟨a, ns, rfl, hL, hlen, k⟩ := h
  refine ⟨_, (pss_cons (ps_set (i := 1) sc_law.nd rfl (.inl rfl) (pe_op op_add pe_int (pe_op op_mod (pe_callTy cInt (by rfl) T.m_int (by decide +kernel) (pa_cons (pe_fn (ok__law_cell T) (hr.mono (by decide)) (by rfl) (pa_cons (pv 0) (pa_cons pe_int pa_nil))) pa_nil)) pe_int)))
  (pss_cons (ps_set (i := 2) sc_law.nd rfl (.inl rfl) (pe_lst pa_nil))
  (pss_cons (ps_for PassesOwn.never rfl (pi_range1 rfl T.m_range (pa_cons (pv 1) pa_nil)) (pg_name (i := 3) sc_law.nd rfl (.inl rfl))
  (pss_one (ps_expr (pe_bm PySem.F.plainAttrs_list PySem.F.slot_list_append PySem.F.type_list_append mt_append (pv 2) (pa_cons (pe_fn (ok__law_labels T) hr (by rfl) (pa_cons (pe_fn (ok__law_source T) (hr.mono (by decide)) (by rfl) (pa_cons (pe_fn (ok__law_cell T) (hr.mono (by decide)) (by rfl) (pa_cons (pv 0) (pa_cons (pe_op op_add pe_int (pv 3)) pa_nil))) pa_nil)) pa_nil)) pa_nil)))))
  (pss_cons (ps_for PassesOwn.never rfl (pi_list (pe_op op_cat (pv 2) (pv 2))) (pg_name (i := 4) sc_law.nd rfl (.inl rfl))
  (pss_cons (ps_set (i := 5) sc_law.nd rfl (.inl rfl) (pe_fn (ok_is_name T) (hr.mono (by decide)) (by rfl) (pa_cons (pv 4) pa_nil)))
  (pss_one (ps_if (PW.pt (pw_or (pt_not (pt_val (pe_callB call_isi (by rfl) T.m_isinstance (by decide +kernel) (pa_cons (pv 5) (pa_cons (pe_bltn (v := .ty "bool") rfl T.m_bool (by decide +kernel) rfl) pa_nil))))) (pw_or1 (pt_cmpR op_ne (pv 5) (pe_fn (ok__law_expected T) (hr.mono (by decide)) (by rfl) (pa_cons (pv 4) pa_nil)) (nomark _)))))
  (pss_one (ps_ret pe_bl))
  pss_nil))))
  (pss_one (ps_ret pe_bl)))))), ?_⟩
  walk_at "en"
  refine r_cell hL hlen (by decide) (by decide) fun c => ?_
  have c0 := Int.emod_nonneg c (show (3 : Int) ≠ 0 by decide)
  have c1 := Int.emod_lt_of_pos c (show (0 : Int) < 3 by decide)
  walk_at "rd"
  intro p H1 n1 e1 hp
  walk_at "rd"
  refine loopR (fun i σ' H' => ∃ (v : Option V) (L : List (Addr × List Str)), σ' = [some (.ref a), some (.int (2 + c % 3)), some (.ref p), v, none, none] ∧ L.length = i ∧ Same H H' ∧ H' p = some (.lst (L.map fun r => V.ref r.1)) ∧ ∀ r ∈ L, SqT K H' r.1 (r.2.map V.str) ∧ ∀ z ∈ r.2, z.length ≤ 41 ∧ Asc z) ⟨none, [], rfl, rfl, e1, hp, by simp⟩ ?_ ?_
  · rintro i σ' H' hi ⟨v, L, rfl, hz, e2, hp2, hR⟩
    walk_at "rd"
    refine r_append hp2 ?_
    walk_at "rd"
    refine r_cell (ex_l e2 hL) hlen (by omega) (by omega) fun c' => ?_
    walk_at "rd"
    refine r_source fun H3 b e3 n3 s3 => ?_
    walk_at "rd"
    refine r_drawn s3 fun H4 v4 b4 s4 hv4 => ?_
    obtain ⟨q, zs, rfl, hq, hq1, hq2⟩ := hv4
    have e4 : Same H' H4 := fun u o hu => b4 u o (ne_of_none hu n3) (e3 u o hu)
    walk_at "rd"
    refine r_append1 (e4 _ _ hp2) (by rw [List.length_map, hz]; omega) fun H5 b5 h5 => ?_
    refine ⟨_, L ++ [(q, zs)], rfl, by simp [hz], ?_, by rw [h5, List.map_append]; rfl, ?_⟩
    · exact fun u o hu => b5 u o (ne_of_none hu n1) (e4 _ _ (e2 _ _ hu))
    · intro r hr
      rcases List.mem_append.mp hr with hr | hr
      · exact ⟨but_t b5 (e4 _ _ hp2) (ex_t e4 (hR r hr).1), (hR r hr).2⟩
      · rw [List.mem_singleton.mp hr]
        exact ⟨but_t b5 (e4 _ _ hp2) hq, hq2⟩
  · rintro σ' H' ⟨v, L, rfl, hz, e2, hp2, hR⟩
    walk_at "rd"
    refine r_cat hp2 hp2 (by rw [List.length_map, hz]; omega) fun q H2 n2 e3 hq => ?_
    have hq : H2 q = some (.lst ((L ++ L).map fun r => V.ref r.1)) := by rw [hq, List.map_append]
    walk_at "rd"
    refine loopL (xs := (L ++ L).map fun r => V.ref r.1) (fun i σ' H' => (∃ v1 v2, σ' = [some (.ref a), some (.int (2 + c % 3)), some (.ref p), v, v1, v2]) ∧ Same H2 H') ⟨⟨_, _, rfl⟩, Same.refl _⟩ (by rintro i σ' H' _ ⟨_, e⟩; exact SqL.of (e _ _ hq)) ?_ ?_
    · rintro i x σ' H' hi ⟨⟨v1, v2, rfl⟩, e4⟩
      obtain ⟨r, hr, rfl⟩ := map_get hi
      have hr : r ∈ L := by
        rcases List.mem_append.mp (List.mem_of_getElem? hr) with h | h <;> exact h
      have hT := ex_t e4 (ex_t e3 (hR r hr).1)
      walk_at "rd"
      refine ⟨r.1, r.2, rfl, hT, (hR r hr).2, fun H3 e5 => ?_⟩
      walk_at "rd"
      refine ⟨r.1, r.2, rfl, ex_t e5 hT, (hR r hr).2, fun H4 e6 => ?_⟩
      walk_at "rd"
      exact ⟨⟨_, _, rfl⟩, (e4.trans e5).trans e6⟩
    · rintro σ' H' ⟨⟨v1, v2, rfl⟩, e4⟩
      walk_at "rd"
      exact k _
end
end My
open PySem PySem.W PyProof.Rows
theorem My.law_fin {P : Program} {w : World} {K : PySem.W.Frag} {mg : Str → Option Value} {h : Heap} {fa : Addr} (KX : K.In h) (hmg : mg "law" = some (.ref fa)) (T : My.Txt K mg) :
    ∃ fd : FuncData, (∀ (s : Shared) (u : Value), BindsTo s fd ⟨[u], []⟩ [("script", u)]) ∧ ∀ base : Heap, K.In base → base.Ns mainGlobals mg → L2.FnOk P w K mg base L2.CX0 5 fa fd ["script"] (My.spLaw K) :=
  My.Fn.fin T.d_law hmg (fun _ _ _ _ _ _ _ => rfl) (fun base => My.ok_law T)
set_option maxRecDepth 100000 in
set_option maxHeartbeats 0 in
theorem PySem.Challenge.cw_provenames_k04_is_name_holds : PySem.Challenge.rw_provenames_k04_is_name.Holds := by
  w_on; o_law; k_head; (case hw => w_witness2)
  k_fill
  refine L2.walk_of (l := PySem.Challenge.rw_provenames_k04_is_name) (n := 63) (k := 5) (x := "script") (CX := fun _ => L2.CX0) (sp := fun w => My.spLaw _) rfl (by decide) rfl ⟨rfl, by decide, by decide⟩ (fun w h Y => PySem.W.kIn_of Y) ?F (fun _ _ a ns hl _ hS => ⟨a, ns, rfl, hS, hl, fun _ => rfl⟩) (fun _ _ _ _ _ h => h)
  case F =>
    intro w mg fa h KX G hmg
    refine My.law_fin KX hmg ?T
    case T =>
      refine' ⟨?m_bool, ?m_int, ?m_isinstance, ?m_len, ?m_range, ?m_tuple, ?d_is_plain_label, ?d_is_name, ?d_is_wildcard, ?d__law_cell, ?d__law_source, ?d__law_draw, ?d__law_any_char, ?d__law_label, ?d__law_odd, ?d__law_labels, ?d__law_is_label, ?d__law_expected, ?d_law, ?c_STAR_LABEL, ?c_LABEL_CHARACTERS, ?c_MOST_CHARACTERS, ?c_MOST_LABELS⟩
      (case m_bool => exact PySem.W.mg_none_of KX G (by k_is))
      (case m_int => exact PySem.W.mg_none_of KX G (by k_is))
      (case m_isinstance => exact PySem.W.mg_none_of KX G (by k_is))
      (case m_len => exact PySem.W.mg_none_of KX G (by k_is))
      (case m_range => exact PySem.W.mg_none_of KX G (by k_is))
      (case m_tuple => exact PySem.W.mg_none_of KX G (by k_is))
      (case d_is_plain_label => (refine' My.def1_mk KX G (fun _ _ _ _ _ _ us hl => match us, hl with | [_], _ => rfl) ?a ?l ?c ?k; (case a => k_is); (case l => k_is); (case c => k_is); (case k => k_is)))
      (case d_is_name => (refine' My.def1_mk KX G (fun _ _ _ _ _ _ us hl => match us, hl with | [_], _ => rfl) ?a ?l ?c ?k; (case a => k_is); (case l => k_is); (case c => k_is); (case k => k_is)))
      (case d_is_wildcard => (refine' My.def1_mk KX G (fun _ _ _ _ _ _ us hl => match us, hl with | [_], _ => rfl) ?a ?l ?c ?k; (case a => k_is); (case l => k_is); (case c => k_is); (case k => k_is)))
      (case d__law_cell => (refine' My.def1_mk KX G (fun _ _ _ _ _ _ us hl => match us, hl with | [_, _], _ => rfl) ?a ?l ?c ?k; (case a => k_is); (case l => k_is); (case c => k_is); (case k => k_is)))
      (case d__law_source => (refine' My.def1_mk KX G (fun _ _ _ _ _ _ us hl => match us, hl with | [_], _ => rfl) ?a ?l ?c ?k; (case a => k_is); (case l => k_is); (case c => k_is); (case k => k_is)))
      (case d__law_draw => (refine' My.def1_mk KX G (fun _ _ _ _ _ _ us hl => match us, hl with | [_, _], _ => rfl) ?a ?l ?c ?k; (case a => k_is); (case l => k_is); (case c => k_is); (case k => k_is)))
      (case d__law_any_char => (refine' My.def1_mk KX G (fun _ _ _ _ _ _ us hl => match us, hl with | [_], _ => rfl) ?a ?l ?c ?k; (case a => k_is); (case l => k_is); (case c => k_is); (case k => k_is)))
      (case d__law_label => (refine' My.def1_mk KX G (fun _ _ _ _ _ _ us hl => match us, hl with | [_], _ => rfl) ?a ?l ?c ?k; (case a => k_is); (case l => k_is); (case c => k_is); (case k => k_is)))
      (case d__law_odd => (refine' My.def1_mk KX G (fun _ _ _ _ _ _ us hl => match us, hl with | [_], _ => rfl) ?a ?l ?c ?k; (case a => k_is); (case l => k_is); (case c => k_is); (case k => k_is)))
      (case d__law_labels => (refine' My.def1_mk KX G (fun _ _ _ _ _ _ us hl => match us, hl with | [_], _ => rfl) ?a ?l ?c ?k; (case a => k_is); (case l => k_is); (case c => k_is); (case k => k_is)))
      (case d__law_is_label => (refine' My.def1_mk KX G (fun _ _ _ _ _ _ us hl => match us, hl with | [_], _ => rfl) ?a ?l ?c ?k; (case a => k_is); (case l => k_is); (case c => k_is); (case k => k_is)))
      (case d__law_expected => (refine' My.def1_mk KX G (fun _ _ _ _ _ _ us hl => match us, hl with | [_], _ => rfl) ?a ?l ?c ?k; (case a => k_is); (case l => k_is); (case c => k_is); (case k => k_is)))
      (case d_law => (refine' My.def1_mk KX G (fun _ _ _ _ _ _ us hl => match us, hl with | [_], _ => rfl) ?a ?l ?c ?k; (case a => k_is); (case l => k_is); (case c => k_is); (case k => k_is)))
      (case c_STAR_LABEL => (refine' ⟨?u_STAR_LABEL, PySem.W.mg_of KX G ?z, ?r⟩; (case z => k_is); (case r => exact ⟨_, rfl⟩)))
      (case c_LABEL_CHARACTERS => (refine' ⟨?u_LABEL_CHARACTERS, PySem.W.mg_of KX G ?z, ?r⟩; (case z => k_is); (case r => exact ⟨_, rfl⟩)))
      (case c_MOST_CHARACTERS => (refine' ⟨?u_MOST_CHARACTERS, PySem.W.mg_of KX G ?z, ?r⟩; (case z => k_is); (case r => exact ⟨_, rfl⟩)))
      (case c_MOST_LABELS => (refine' ⟨?u_MOST_LABELS, PySem.W.mg_of KX G ?z, ?r⟩; (case z => k_is); (case r => exact ⟨_, rfl⟩)))
#print axioms PySem.Challenge.cw_provenames_k04_is_name_holds
