import PyProof.Rows.All
import Wide.All
import OpenK.AllK
import Wide.FinOn
import HandS.ForMost
import HandS.ForExc
import HandS.TupAny
import HandS.IsInst
import HandS.Codes
import HandS.Style
import HandS.StrMore
import HandS.Small
import HandS.ExcIs
import HandS.FStr
import HandS.RaiseMore
import HandS.GenBody
import HandS.Zip
import HandS.GenYield
import HandS.GenCall
import HandS.GenList
import PyProof.GenComp
import KE.SortData
import KE.DataCmp
import HandS.Deep
import PySem.Challenge.RW_provenames_k05_names_in_order
set_option Elab.async false
set_option linter.all false
set_option maxRecDepth 100000
set_option maxHeartbeats 4000000
namespace My
open PySem PySem.Spec PyProof.Rows L2
open C8 (tCut pss_cut)
/-! ### defs by their names -/
/-- the def st stands at the module's name x -/
def Def1 (K : PySem.W.Frag) (mg : Str → Option Value) (x : Str) (ps : List Str) (st : Stmt) : Prop := ∃ f fd, mg x = some (.ref f) ∧ Fun K x x st f fd ∧ Binds K fd ps []
/-- the def at the module's name x keeps the promise sp -/
def Fn (P : Program) (w : World) (K : PySem.W.Frag) (mg : Str → Option Value) (base : Heap) (k : Nat) (x : Str) (ps : List Str) (sp : Sp) : Prop :=
  ∃ f fd, mg x = some (.ref f) ∧ PySem.W.keepIn K (.ref f) = true ∧ Binds K fd ps [] ∧ FnOk P w K mg base CX0 k f fd ps sp ∧ ∃ oc od osl, K.lookup f = some ⟨oc, od, .func fd, osl⟩
theorem def1_mk {K : PySem.W.Frag} {h : Heap} {mg : Str → Option Value} {x : Str} {ps : List Str} {st : Stmt} {f : Addr} {oc : Value} {od an : Option Addr} {osl : Array (Option Value)} {kV doc pm cdv ct : Value} (X : K.In h) (G : h.Ns mainGlobals mg)
    (hb : ∀ (kV doc pm : Value) (an : Option Addr) (cdv ct : Value) (us : List Value), us.length = ps.length → bindArgs (PySem.W.fnOf x x (defArgs st) (defBody st) (defScope st) .none kV doc pm an cdv ct) ⟨us, []⟩ = pure (ps.zip us))
    (a : PySem.W.nsIn K mainGlobals x = some (some (.ref f))) (l : K.lookup f = some ⟨oc, od, .func (PySem.W.fnOf x x (defArgs st) (defBody st) (defScope st) .none kV doc pm an cdv ct), osl⟩)
    (c : PySem.W.codeIn K cdv x = true) (k : PySem.W.keepIn K (.ref f) = true) : Def1 K mg x ps st :=
  have F := fun_mk (st := st) l c k
  ⟨f, _, PySem.W.mg_of X G a, F, F.binds hb⟩
section
variable {P : Program} {w : World} {K : PySem.W.Frag} {mg : Str → Option Value} {base : Heap}
theorem Def1.ok {x : Str} {ps N : List Str} {st : Stmt} {k : Nat} {sp : Sp} (d : Def1 K mg x ps st) (S : FnScope N ps (defScope st)) (len : ∀ vs H Q E, sp vs H Q E → vs.length = ps.length)
    (hbody : ∀ (f : Addr) (cdv : Value) (A : Around) (outer : List Env) (s : Shared) (H : Hp) (vs : List V) (Q : VK) (E : XK), Room k (A.deeper (envOfC x (defScope st) s.heap.objs.size f cdv)) → sp vs H Q E →
      ∃ t, PSs (cxOf CX0 P w K mg base N x (defScope st) f cdv A outer s H E).nox (defBody st) t ∧ t { nx := fun _ H' => Q .non H', rt := Q } (start N vs) H) : Fn P w K mg base (k + 1) x ps sp := by
  obtain ⟨f, fd, hm, F, b⟩ := d
  refine ⟨f, fd, hm, F.kp, b, F.ok S len (hbody f), ?_⟩
  obtain ⟨oc, od, kV, doc, pm, an, cdv, ct, osl, _, lk, _⟩ := F.ex
  exact ⟨oc, od, osl, lk⟩
/-- the law's def, at the end -/
theorem Fn.fin {x p : Str} {st : Stmt} {k : Nat} {sp : Sp} {fa : Addr} (d : Def1 K mg x [p] st) (hfa : mg x = some (.ref fa))
    (hb : ∀ (kV doc pm : Value) (an : Option Addr) (cdv ct u : Value), bindArgs (PySem.W.fnOf x x (defArgs st) (defBody st) (defScope st) .none kV doc pm an cdv ct) ⟨[u], []⟩ = pure [(p, u)])
    (h : ∀ base : Heap, Fn P w K mg base k x [p] sp) : ∃ fd : FuncData, (∀ (s : Shared) (u : Value), BindsTo s fd ⟨[u], []⟩ [(p, u)]) ∧ ∀ base : Heap, K.In base → base.Ns mainGlobals mg → FnOk P w K mg base CX0 k fa fd [p] sp := by
  obtain ⟨f, fd, hm, F, b⟩ := d
  obtain ⟨oc, od, kV, doc, pm, an, cdv, ct, osl, e, lk, _⟩ := F.ex
  have ef : f = fa := Value.ref.inj (Option.some.inj (hm.symm.trans hfa))
  subst ef
  refine ⟨fd, fun s u => ?_, fun base _ _ => ?_⟩
  · rw [e]
    exact .of_eq (hb _ _ _ _ _ _ _)
  · obtain ⟨f', fd', hm', _, _, ok, oc', od', osl', lk'⟩ := h base
    have ef : f' = f := Value.ref.inj (Option.some.inj (hm'.symm.trans hm))
    subst ef
    rw [lk] at lk'
    have e2 := Option.some.inj lk'
    have e3 : fd = fd' := by
      injection e2 with _ _ e4 _
      injection e4
    rw [e3]
    exact ok
end
section
variable {X : Cx} {k : Nat} {x : Str} {ps : List Str} {sp : Sp}
def tFn (sp : Sp) (t : TA) : TE := fun σ H Q => t σ H fun vs H1 => sp vs H1 Q E0
theorem pe_fn {e : Expr} {es : List Expr} {t : TA} {p pos : Pos} (G : Fn X.prog X.w X.K X.mg X.base k x ps sp) (hr : Room k X.A) (hg : Gl X x) (ha : PA X (e :: es) t) (hdb : (x == ("__debug__" : Str)) = false := by decide)
    (he : starEach (e :: es) X.env = (false, eval e X.env) :: starEach es X.env := by rfl) (hpl : (backTo pos (starEach es X.env)).any (·.1) = false := by rfl) : PE X (.Call (.Name x p) (e :: es) [] pos) (tFn sp t) := by
  obtain ⟨f, fd, hm, hk, hb, F, _⟩ := G
  have h := pe_call (p := p) F hr hg hm hk hb .nil (E := E0) pass0 ha hdb he hpl
  refine ⟨fun pins s σ H Q I q => h.run pins s σ H Q I ?_⟩
  unfold tCall
  simp only [List.append_nil]
  exact q
theorem pe_fn0 {p pos : Pos} (G : Fn X.prog X.w X.K X.mg X.base k x ps sp) (hr : Room k X.A) (hg : Gl X x) (hdb : (x == ("__debug__" : Str)) = false := by decide) : PE X (.Call (.Name x p) [] [] pos) (tFn sp tNil) := by
  obtain ⟨f, fd, hm, hk, hb, F, _⟩ := G
  have h := pe_call0 F hr hg hm hk hb .nil (E := E0) pass0 hdb (p := p) (pos := pos)
  refine ⟨fun pins s σ H Q I q => h.run pins s σ H Q I ?_⟩
  unfold tCall
  simp only [List.append_nil]
  exact q
/-- a constant of the module -/
def GC (mg : Str → Option Value) (x : Str) (v : V) : Prop := ∃ u, mg x = some u ∧ RelV v u
theorem pe_gc {x : Str} {v : V} {pos : Pos} (h : GC X.mg x v) (hg : Gl X x) (hd : (x == ("__debug__" : Str)) = false := by decide) : PE X (.Name x pos) (tC v) := by
  obtain ⟨u, hm, r⟩ := h
  exact pe_glob hg hm r hd
end

/-! ### a statement, then the rest, with a word between them -/
section
variable {X : Cx}
theorem r_cut {t u : TS} {a c d : L2.St → Hp → Prop} {b : VK} {σ : L2.St} {H : Hp} (Mid : L2.St → Hp → Prop) (h : t ⟨Mid, b, c, d⟩ σ H) (k : ∀ σ' H', Mid σ' H' → u ⟨a, b, c, d⟩ σ' H') : tCut t u ⟨a, b, c, d⟩ σ H := ⟨Mid, h, k⟩
end
section
variable {X : Cx}
/-- an expression's value, told by a word between it and what follows -/
def tCutE (t : TE) : TE := fun σ H Q => ∃ Mid : VK, t σ H Mid ∧ ∀ v H', Mid v H' → Q v H'
theorem pe_cut {e : Expr} {t : TE} (h : PE X e t) : PE X e (tCutE t) := by
  refine ⟨fun pins s σ H Q I q => ?_⟩
  obtain ⟨Mid, hm, hk⟩ := q
  refine thn (h.run pins s σ H Mid I hm) fun v s1 q1 => ?_
  obtain ⟨x, H', I', r, m⟩ := q1
  exact ⟨x, H', I', r, hk _ _ m⟩
theorem r_cutE {t : TE} {σ : L2.St} {H : Hp} {Q : VK} (Mid : VK) (h : t σ H Mid) (k : ∀ v H', Mid v H' → Q v H') : tCutE t σ H Q := ⟨Mid, h, k⟩
end
/-! ### the rules under names of their own -/
section
variable {X : Cx} {to te : TE}
def rLenS : List V → Hp → VK → Prop := fun xs H Q => ∃ z, xs = [.str z] ∧ z.length ≤ sizeLine ∧ Q (.int z.length) H
theorem cLenS : CallR X (.builtin "len") rLenS := call_len_str
def rLenQ (K : PySem.W.Frag) : List V → Hp → VK → Prop := fun xs H Q => ∃ p ys, xs = [.ref p] ∧ (SqL K H p ys ∨ SqT K H p ys) ∧ Q (.int ys.length) H
theorem cLenQ : CallR X (.builtin "len") (rLenQ X.K) := call_len_seq
def rInt : List V → Hp → VK → Prop := fun xs H Q => (∃ i, xs = [.int i] ∧ Q (.int i) H) ∨ ∃ k, xs = [.bl k] ∧ Q (.int (if k then 1 else 0)) H
theorem cInt : CallR X (.type "int") rInt := call_int1
def rAddS : R2 := fun x y H Q => ∃ i j, x = .str i ∧ y = .str j ∧ i.length + j.length ≤ sizeLine ∧ Q (.str (i ++ j)) H
theorem oAddS : OpR X (binaryOp .Add) rAddS := op_add_str
def rInS : R2 := fun x y H Q => ∃ (c : Nat) (z : Str), x = .str ⟨#[c]⟩ ∧ y = .str z ∧ Q (.bl (decide (c ∈ z.cps.toList))) H
def rNotInS : R2 := fun x y H Q => ∃ (c : Nat) (z : Str), x = .str ⟨#[c]⟩ ∧ y = .str z ∧ Q (.bl (!decide (c ∈ z.cps.toList))) H
theorem oInS : OpR X (compareOp .In) rInS := op_in_sign
theorem oNotInS : OpR X (compareOp .NotIn) rNotInS := op_notIn_sign
def rTupOf (K : PySem.W.Frag) : List V → Hp → VK → Prop := fun xs H Q => ∃ p ys, xs = [.ref p] ∧ ((SqL K H p ys ∧ ∀ l, H l = none → Q (.ref l) (upd H l (.tup ys))) ∨ (SqT K H p ys ∧ Q (.ref p) H))
theorem cTupOf : CallR X (.type "tuple") (rTupOf X.K) := call_tuple_of
def rListOf (K : PySem.W.Frag) : List V → Hp → VK → Prop := fun xs H Q => ∃ p ys, xs = [.ref p] ∧ (SqL K H p ys ∨ SqT K H p ys) ∧ ∀ l, H l = none → Q (.ref l) (upd H l (.lst ys))
theorem cListOf : CallR X (.type "list") (rListOf X.K) := call_list_of
def tUp (to : TE) : TE := tM0 (fun x xs H Q => ∃ a, x = .str a ∧ xs = [] ∧ a.length ≤ 5592405 ∧ Q (.str (Txt.upper a)) H) to
theorem pe_up {o : Expr} {apos pos : Pos} (ho : PE X o to) (hbase : attributeBase o "upper" X.env (eval o X.env) = eval o X.env := by rfl) (hline : (apos.endLine == pos.line) = true := by rfl) : PE X (.Call (.Attribute o "upper" apos) [] [] pos) (tUp to) := pe_upper ho hbase hline
def tLow (to : TE) : TE := tM0 (fun x xs H Q => ∃ a, x = .str a ∧ xs = [] ∧ a.length ≤ 5592405 ∧ Q (.str (Txt.lower a)) H) to
theorem pe_low {o : Expr} {apos pos : Pos} (ho : PE X o to) (hbase : attributeBase o "lower" X.env (eval o X.env) = eval o X.env := by rfl) (hline : (apos.endLine == pos.line) = true := by rfl) : PE X (.Call (.Attribute o "lower" apos) [] [] pos) (tLow to) := pe_lower ho hbase hline
end
theorem nox_K {CX : CXT} {P : Program} {w : World} {K : PySem.W.Frag} {mg : Str → Option Value} {base : Heap} {N : List Str} {q : Str} {sc : Scope} {f : Addr} {cdv : Value} {A : Around} {outer : List Env} {s : Shared} {H : Hp} {E : XK} :
    (cxOf CX P w K mg base N q sc f cdv A outer s H E).nox.K = K := rfl
/-! ### heaps -/
theorem ex_new {H : Hp} {p : Addr} {o : HO} (h : H p = none) : Same H (upd H p o) := fun a u e => by
  rw [upd_ne (ne_of_none e h)]
  exact e
/-- all but what stands at l is as it was -/
def But (l : Addr) (H H' : Hp) : Prop := ∀ b o, b ≠ l → H b = some o → H' b = some o
theorem But.refl (l : Addr) (H : Hp) : But l H H := fun _ _ _ h => h
theorem But.trans {l : Addr} {H H1 H2 : Hp} (a : But l H H1) (b : But l H1 H2) : But l H H2 := fun c o n h => b c o n (a c o n h)
theorem But.of {l : Addr} {H H' : Hp} (a : Same H H') : But l H H' := fun c o _ h => a c o h
theorem But.upd {l : Addr} {H : Hp} {o : HO} : But l H (upd H l o) := fun c u n h => by
  rw [upd_ne n]
  exact h
theorem But.same {l : Addr} {H H0 H' : Hp} (e : Same H0 H) (b : But l H H') (h : H0 l = none) : Same H0 H' := fun c o h0 => b c o (ne_of_none h0 h) (e c o h0)
theorem ex_l {K : PySem.W.Frag} {H H' : Hp} {a : Addr} {xs : List V} (e : Same H H') (h : SqL K H a xs) : SqL K H' a xs := e.seq h
theorem ex_t {K : PySem.W.Frag} {H H' : Hp} {a : Addr} {xs : List V} (e : Same H H') (h : SqT K H a xs) : SqT K H' a xs :=
  h.imp (fun h => h.imp (e a _) fun ⟨o, h⟩ => ⟨o, e a _ h⟩) id
theorem but_rd {l : Addr} {H H' : Hp} {a : Addr} {u : HO} (e : But l H H') (n : a ≠ l) (h : Rd H a u) : Rd H' a u := by
  rcases h with h | ⟨o, h⟩
  · exact Or.inl (e a _ n h)
  · exact Or.inr ⟨o, e a _ n h⟩
theorem but_t {K : PySem.W.Frag} {l : Addr} {H H' : Hp} {a : Addr} {xs ys : List V} (e : But l H H') (hl : H l = some (.lst ys)) (h : SqT K H a xs) : SqT K H' a xs := by
  rcases h with h | h
  · refine Or.inl (but_rd e ?_ h)
    rintro rfl
    rcases h with h | ⟨o, h⟩
    · rw [hl] at h; cases h
    · rw [hl] at h; cases h
  · exact Or.inr h
theorem but_l {K : PySem.W.Frag} {l : Addr} {H H' : Hp} {a : Addr} {xs : List V} (e : But l H H') (n : a ≠ l) (h : SqL K H a xs) : SqL K H' a xs := by
  rcases h with h | h
  · exact Or.inl (but_rd e n h)
  · exact Or.inr h
theorem fresh_back {H H' : Hp} {p : Addr} (e : Same H H') (h : H' p = none) : H p = none := by
  cases h1 : H p with
  | none => rfl
  | some o =>
    rw [e p o h1] at h
    cases h
theorem but_fresh {l : Addr} {H H' : Hp} {p : Addr} (e : But l H H') (n : p ≠ l) (h : H' p = none) : H p = none := by
  cases h1 : H p with
  | none => rfl
  | some o =>
    rw [e p o n h1] at h
    cases h
/-! ### the readings' steps -/
section
variable {σ : L2.St} {H : Hp} {Q : VK} {QT : Bool → Hp → Prop} {QA : List V → Hp → Prop} {QO : Option Int → Hp → Prop} {ta tb tc te : TE} {t u : TT} {v x y : V} {i j : Nat} {K : PySem.W.Frag}
theorem r_var (h : σ[i]? = some (some v)) (q : Q v H) : tVar i σ H Q := ⟨v, h, q⟩
theorem r_c (q : Q v H) : tC v σ H Q := q
theorem r_op {r : R2} (h : ta σ H fun x H1 => tb σ H1 fun y H2 => r x y H2 Q) : tOp r ta tb σ H Q := h
theorem r_un {r : V → Hp → VK → Prop} (h : ta σ H fun x H1 => r x H1 Q) : tUn r ta σ H Q := h
theorem r_if (h : t σ H fun c H1 => if c = true then ta σ H1 Q else tb σ H1 Q) : tIf t ta tb σ H Q := h
theorem r_fn {sp : Sp} {t : TA} (h : t σ H fun vs H1 => sp vs H1 Q E0) : tFn sp t σ H Q := h
theorem r_cb {r : List V → Hp → VK → Prop} {t : TA} (h : t σ H fun vs H1 => r vs H1 Q) : tCB r t σ H Q := h
theorem r_nil (q : QA [] H) : tNil σ H QA := q
theorem r_cons {tr : TA} (h : ta σ H fun x H1 => tr σ H1 fun xs H2 => QA (x :: xs) H2) : tCons ta tr σ H QA := h
/-- a new tuple, a new list, whatever the heap's form -/
def NewT (xs : List V) (H : Hp) (Q : VK) : Prop := xs.length ≤ sizeLine ∧ ∀ p, H p = none → Q (.ref p) (upd H p (.tup xs))
def NewL (xs : List V) (H : Hp) (Q : VK) : Prop := xs.length ≤ sizeLine ∧ ∀ p, H p = none → Q (.ref p) (upd H p (.lst xs))
theorem r_tup {t : TA} (h : t σ H fun xs H1 => NewT xs H1 Q) : tTup t σ H Q := h
theorem r_lst {t : TA} (h : t σ H fun xs H1 => NewL xs H1 Q) : tLst t σ H Q := h
theorem r_newT {xs : List V} (hl : xs.length ≤ 100000) (h : ∀ p H2, H p = none → Same H H2 → H2 p = some (.tup xs) → Q (.ref p) H2) : NewT xs H Q :=
  ⟨Nat.le_trans hl (by decide), fun p hp => h p _ hp (ex_new hp) upd_same⟩
theorem r_newL {xs : List V} (hl : xs.length ≤ 100000) (h : ∀ p H2, H p = none → Same H H2 → H2 p = some (.lst xs) → Q (.ref p) H2) : NewL xs H Q :=
  ⟨Nat.le_trans hl (by decide), fun p hp => h p _ hp (ex_new hp) upd_same⟩
theorem r_sl {r : V → Option Int → Option Int → Hp → VK → Prop} {tl th : TO} (h : te σ H fun x H1 => tl σ H1 fun l H2 => th σ H2 fun u H3 => r x l u H3 Q) : tSl r te tl th σ H Q := h
theorem r_noPart (q : QO none H) : tNoPart σ H QO := q
theorem r_part (h : te σ H fun x H1 => ∃ i, x = .int i ∧ QO (some i) H1) : tPart te σ H QO := h
theorem r_andV (h : ta σ H fun x H1 => ∃ c, x = .bl c ∧ if c = true then tb σ H1 Q else Q (.bl false) H1) : tAndV ta tb σ H Q := h
theorem r_orV (h : ta σ H fun x H1 => ∃ c, x = .bl c ∧ if c = true then Q (.bl true) H1 else tb σ H1 Q) : tOrV ta tb σ H Q := h
theorem r_notV (h : ta σ H fun x H1 => ∃ c, x = .bl c ∧ Q (.bl (!c)) H1) : tNotV ta σ H Q := h
theorem r_test (h : te σ H fun x H' => ∃ k, x = .bl k ∧ QT k H') : tTest te σ H QT := h
theorem r_tB (h : te σ H fun x H' => ∃ k, x = .bl k ∧ QT k H') : tB te σ H QT := h
theorem r_and (h : t σ H fun c H1 => if c = true then u σ H1 QT else QT false H1) : tAnd t u σ H QT := h
theorem r_or (h : t σ H fun c H1 => if c = true then QT true H1 else u σ H1 QT) : tOr t u σ H QT := h
theorem r_not (h : t σ H fun c H1 => QT (!c) H1) : tNot t σ H QT := h
theorem r_chain {r r' : R2} (h : ta σ H fun x H1 => tb σ H1 fun y H2 => r x y H2 fun z H3 => ∃ k, z = .bl k ∧ if k = true then tc σ H3 fun z' H4 => r' y z' H4 Q else Q (.bl false) H3) : tChain r r' ta tb tc σ H Q := h
theorem r_bl {b : Bool} {QB : Bool → Prop} (q : QB b) : ∃ k, V.bl b = .bl k ∧ QB k := ⟨b, rfl, q⟩
theorem r_I0 {g : Int → Int → V} {a b : Int} (q : Q (g a b) H) : rI0 g (.int a) (.int b) H Q := ⟨a, b, rfl, rfl, q⟩
theorem r_I {C : Int → Int → Prop} {g : Int → Int → V} {a b : Int} (c : C a b) (q : Q (g a b) H) : rI C g (.int a) (.int b) H Q := ⟨a, b, rfl, rfl, c, q⟩
theorem r_U {g : Int → V} {a : Int} (q : Q (g a) H) : rU g (.int a) H Q := ⟨a, rfl, q⟩
theorem r_eqI {a b : Int} (q : Q (.bl (decide (a = b))) H) : rEq (.int a) (.int b) H Q := ⟨rfl, by
  have e : decide (V.int a = V.int b) = decide (a = b) := decide_eq_decide.mpr ⟨fun z => V.int.inj z, fun z => by rw [z]⟩
  rw [e]; exact q⟩
theorem r_neI {a b : Int} (q : Q (.bl (!decide (a = b))) H) : rNe (.int a) (.int b) H Q := ⟨rfl, by
  have e : decide (V.int a = V.int b) = decide (a = b) := decide_eq_decide.mpr ⟨fun z => V.int.inj z, fun z => by rw [z]⟩
  rw [e]; exact q⟩
theorem r_eqS {a b : Str} (q : Q (.bl (decide (a = b))) H) : rEq (.str a) (.str b) H Q := ⟨rfl, by
  have e : decide (V.str a = V.str b) = decide (a = b) := decide_eq_decide.mpr ⟨fun z => V.str.inj z, fun z => by rw [z]⟩
  rw [e]; exact q⟩
theorem r_neS {a b : Str} (q : Q (.bl (!decide (a = b))) H) : rNe (.str a) (.str b) H Q := ⟨rfl, by
  have e : decide (V.str a = V.str b) = decide (a = b) := decide_eq_decide.mpr ⟨fun z => V.str.inj z, fun z => by rw [z]⟩
  rw [e]; exact q⟩
theorem r_eqB {a b : Bool} (q : Q (.bl (decide (a = b))) H) : rEq (.bl a) (.bl b) H Q := ⟨rfl, by
  have e : decide (V.bl a = V.bl b) = decide (a = b) := decide_eq_decide.mpr ⟨fun z => V.bl.inj z, fun z => by rw [z]⟩
  rw [e]; exact q⟩
theorem r_neB {a b : Bool} (q : Q (.bl (!decide (a = b))) H) : rNe (.bl a) (.bl b) H Q := ⟨rfl, by
  have e : decide (V.bl a = V.bl b) = decide (a = b) := decide_eq_decide.mpr ⟨fun z => V.bl.inj z, fun z => by rw [z]⟩
  rw [e]; exact q⟩
theorem r_lenS {z : Str} (hz : z.length ≤ 100000) (q : Q (.int (z.length : Int)) H) : rLenS [.str z] H Q := ⟨z, rfl, Nat.le_trans hz (by decide), q⟩
theorem r_lenT {p : Addr} {ys : List V} (h : SqT K H p ys) (q : Q (.int (ys.length : Int)) H) : rLenQ K [.ref p] H Q := ⟨p, ys, rfl, .inr h, q⟩
theorem r_lenL {p : Addr} {ys : List V} (h : SqL K H p ys) (q : Q (.int (ys.length : Int)) H) : rLenQ K [.ref p] H Q := ⟨p, ys, rfl, .inl h, q⟩
theorem r_int {n : Int} (q : Q (.int n) H) : rInt [.int n] H Q := .inl ⟨n, rfl, q⟩
theorem r_addS {x y : Str} (hz : x.length + y.length ≤ 100000) (q : Q (.str (x ++ y)) H) : rAddS (.str x) (.str y) H Q := ⟨x, y, rfl, rfl, Nat.le_trans hz (by decide), q⟩
theorem r_inS {c : Nat} {z : Str} (q : Q (.bl (decide (c ∈ z.cps.toList))) H) : rInS (.str ⟨#[c]⟩) (.str z) H Q := ⟨c, z, rfl, rfl, q⟩
theorem r_notInS {c : Nat} {z : Str} (q : Q (.bl (!decide (c ∈ z.cps.toList))) H) : rNotInS (.str ⟨#[c]⟩) (.str z) H Q := ⟨c, z, rfl, rfl, q⟩
theorem r_tupOf {p : Addr} {ys : List V} (h : SqL K H p ys) (q : ∀ l H2, H l = none → Same H H2 → H2 l = some (.tup ys) → Q (.ref l) H2) : rTupOf K [.ref p] H Q := ⟨p, ys, rfl, .inl ⟨h, fun l hl => q l _ hl (ex_new hl) upd_same⟩⟩
theorem r_tupOfT {p : Addr} {ys : List V} (h : SqT K H p ys) (q : Q (.ref p) H) : rTupOf K [.ref p] H Q := ⟨p, ys, rfl, .inr ⟨h, q⟩⟩
theorem r_listOf {p : Addr} {ys : List V} (h : SqL K H p ys ∨ SqT K H p ys) (q : ∀ l H2, H l = none → Same H H2 → H2 l = some (.lst ys) → Q (.ref l) H2) : rListOf K [.ref p] H Q := ⟨p, ys, rfl, h, fun l hl => q l _ hl (ex_new hl) upd_same⟩
theorem r_ixL {p : Addr} {xs : List V} {i : Int} (h : SqL K H p xs) (ha : atI xs i = some v) (q : Q v H) : rIxL K (.ref p) (.int i) H Q := ⟨p, xs, i, v, rfl, rfl, h, ha, q⟩
theorem r_ixT {p : Addr} {xs : List V} {i : Int} (h : SqT K H p xs) (ha : atI xs i = some v) (q : Q v H) : rIxT K (.ref p) (.int i) H Q := ⟨p, xs, i, v, rfl, rfl, h, ha, q⟩
theorem r_ixS {z : Str} {i : Int} {c : Nat} (hz : z.length ≤ 100000) (ha : atI z.cps.toList i = some c) (q : Q (.str ⟨#[c]⟩) H) : rIxS (.str z) (.int i) H Q := ⟨z, i, c, rfl, rfl, Nat.le_trans hz (by decide), ha, q⟩
theorem r_bm {T : String} {r : V → List V → Hp → VK → Prop} {to : TE} {t : TA} (h : to σ H fun x H1 => tyV K T x H1 ∧ t σ H1 fun xs H2 => r x xs H2 Q) : tBM K T r to t σ H Q := h
/-- xs.append(y) -/
theorem r_append {l : Addr} {xs : List V} {t : TA} (h : H l = some (.lst xs)) (h2 : t σ H fun vs H2 => rAppend (.ref l) vs H2 Q) : tyV K "list" (.ref l) H ∧ t σ H fun vs H2 => rAppend (.ref l) vs H2 Q := ⟨.inl ⟨rfl, _, SqL.of h⟩, h2⟩
theorem r_append1 {l : Addr} {xs : List V} {y : V} (h : H l = some (.lst xs)) (hz : xs.length < 100000) (q : ∀ H2, But l H H2 → H2 l = some (.lst (xs ++ [y])) → Q .non H2) : rAppend (.ref l) [y] H Q := ⟨l, xs, y, rfl, rfl, h, Nat.lt_of_lt_of_le hz (by decide), q _ But.upd upd_same⟩
theorem r_sub {to ti : TE} {r : TSet} {Q : L2.St → Hp → Prop} (h : to σ H fun o H1 => ti σ H1 fun i H2 => r o i v H2 fun H3 => Q σ H3) : gSub to ti r v σ H Q := h
theorem r_setL {p : Addr} {xs : List V} {k : Int} {j : Nat} {Q : Hp → Prop} (h : H p = some (.lst xs)) (hj : ixN xs.length k = some j) (q : ∀ H2, But p H H2 → H2 p = some (.lst (xs.set j v)) → Q H2) : rSetL (.ref p) (.int k) v H Q := ⟨p, xs, k, j, rfl, rfl, h, hj, q _ But.upd upd_same⟩
def UpR (x : V) (H : Hp) (Q : VK) : Prop := (∃ a, x = .str a) ∧ ∃ a, x = .str a ∧ ([] : List V) = [] ∧ a.length ≤ 5592405 ∧ Q (.str (Txt.upper a)) H
theorem r_up {to : TE} (h : to σ H fun x H1 => UpR x H1 Q) : tUp to σ H Q := h
theorem r_up1 {z : Str} (hz : z.length ≤ 100000) (q : Q (.str (Txt.upper z)) H) : UpR (.str z) H Q := ⟨⟨z, rfl⟩, z, rfl, rfl, Nat.le_trans hz (by decide), q⟩
def LowR (x : V) (H : Hp) (Q : VK) : Prop := (∃ a, x = .str a) ∧ ∃ a, x = .str a ∧ ([] : List V) = [] ∧ a.length ≤ 5592405 ∧ Q (.str (Txt.lower a)) H
theorem r_low {to : TE} (h : to σ H fun x H1 => LowR x H1 Q) : tLow to σ H Q := h
theorem r_low1 {z : Str} (hz : z.length ≤ 100000) (q : Q (.str (Txt.lower z)) H) : LowR (.str z) H Q := ⟨⟨z, rfl⟩, z, rfl, rfl, Nat.le_trans hz (by decide), q⟩
theorem r_slS {z : Str} {lo hi : Option Int} (hz : z.length ≤ 100000) (q : Q (.str (cutS z lo hi)) H) : rSlS (.str z) lo hi H Q := ⟨z, rfl, Nat.le_trans hz (by decide), q⟩
/-! statements -/
variable {a b' c d : L2.St → Hp → Prop} {b : VK} {t1 t2 : TS}
theorem r_seq (h : t1 ⟨t2 ⟨a, b, c, d⟩, b, c, d⟩ σ H) : tSeq t1 t2 ⟨a, b, c, d⟩ σ H := h
theorem r_next (h : a σ H) : tNext ⟨a, b, c, d⟩ σ H := h
theorem r_brk (h : c σ H) : tBreak ⟨a, b, c, d⟩ σ H := h
theorem r_cont (h : d σ H) : tCont ⟨a, b, c, d⟩ σ H := h
theorem r_asgN (h : te σ H fun x H1 => a (σ.set i (some x)) H1) : tAsg te (gName i) ⟨a, b, c, d⟩ σ H := h
theorem r_asg {g : TG} (h : te σ H fun x H1 => g x σ H1 a) : tAsg te g ⟨a, b, c, d⟩ σ H := h
theorem r_gName {Q : L2.St → Hp → Prop} (h : Q (σ.set i (some v)) H) : gName i v σ H Q := h
theorem r_ret (h : te σ H b) : tRet te ⟨a, b, c, d⟩ σ H := h
theorem r_retN (h : b .non H) : tRetN ⟨a, b, c, d⟩ σ H := h
theorem r_drop (h : te σ H fun _ H1 => a σ H1) : tDrop te ⟨a, b, c, d⟩ σ H := h
theorem r_ifS (h : t σ H fun k H1 => if k = true then t1 ⟨a, b, c, d⟩ σ H1 else t2 ⟨a, b, c, d⟩ σ H1) : tIfS t t1 t2 ⟨a, b, c, d⟩ σ H := h
end
/-! ### loops -/
section
variable {σ : L2.St} {H : Hp} {te : TE} {ta : TA} {a c d : L2.St → Hp → Prop} {b : VK} {tb : TS} {j : Nat} {K : PySem.W.Frag} {g : TG}
theorem for_str {x : Str} {g : TG} {D : Ends} (Pv : Nat → L2.St → Hp → Prop) (h0 : Pv 0 σ H)
    (hs : ∀ i k σ H, x.cps[i]? = some k → Pv i σ H → g (.str ⟨#[k]⟩) σ H fun σ2 H2 => tb { D with nx := Pv (i + 1), ct := Pv (i + 1), bk := D.nx } σ2 H2) (hd : ∀ σ H, Pv x.cps.size σ H → D.nx σ H) :
    ∃ W : Nat → Nat → L2.St → Hp → Prop, (∃ m, W 0 m σ H) ∧ ∀ i m σ H, W i m σ H →
      ((Its x).stop i H ∧ D.nx σ H) ∨ ((Its x).go i H ∧ ∃ N : L2.St → Hp → Prop, (∀ σ' H', N σ' H' → ∃ m', m' < m ∧ W (i + 1) m' σ' H') ∧ ∀ y H', (Its x).yld i H y H' → g y σ H' fun σ2 H2 => tb { D with nx := N, ct := N, bk := D.nx } σ2 H2) := by
  refine ⟨fun i m σ H => m = x.cps.size - i ∧ i ≤ x.cps.size ∧ Pv i σ H, ⟨x.cps.size, by simp, Nat.zero_le _, h0⟩, ?_⟩
  rintro i m σ H ⟨rfl, hi, p⟩
  by_cases hlt : i < x.cps.size
  · refine .inr ⟨hlt, Pv (i + 1), fun σ' H' p' => ⟨x.cps.size - (i + 1), by omega, rfl, hlt, p'⟩, fun y H' q => ?_⟩
    obtain ⟨rfl, k, hk, rfl⟩ := q
    exact hs i k σ _ hk p
  · have e : i = x.cps.size := by omega
    subst e
    exact .inl ⟨Nat.le_refl _, hd σ H p⟩
def ForR (J : It) (g : TG) (tb : TS) (D : Ends) (σ : L2.St) (H : Hp) : Prop := ∃ W : Nat → Nat → L2.St → Hp → Prop, (∃ m, W 0 m σ H) ∧ ∀ i m σ H, W i m σ H →
  (J.stop i H ∧ D.nx σ H) ∨ (J.go i H ∧ ∃ N : L2.St → Hp → Prop, (∀ σ' H', N σ' H' → ∃ m', m' < m ∧ W (i + 1) m' σ' H') ∧ ∀ x H', J.yld i H x H' → g x σ H' fun σ2 H2 => tb { D with nx := N, ct := N, bk := D.nx } σ2 H2)
theorem r_for {wi : TI} (h : wi σ H fun J H1 => ForR J g tb ⟨a, b, c, d⟩ σ H1) : tFor wi g tb ⟨a, b, c, d⟩ σ H := h
variable {R : It → Hp → Prop}
theorem r_iStr (h : te σ H fun v H1 => ∃ x, v = .str x ∧ R (Its x) H1) : iStr te σ H R := h
theorem r_exI {n : Int} {QS : Int → Prop} (h : QS n) : ∃ y, V.int n = .int y ∧ QS y := ⟨n, rfl, h⟩
theorem r_iStr1 {x : Str} {QS : Str → Prop} (h : QS x) : ∃ y, V.str x = .str y ∧ QS y := ⟨x, rfl, h⟩
theorem r_iList (h : te σ H fun x H1 => ∃ a, x = .ref a ∧ (∃ xs, SqL K H1 a xs) ∧ R (Itl K a) H1) : iList K te σ H R := h
theorem r_iList1 {a : Addr} {QS : Addr → Prop} (xs : List V) (hx : SqL K H a xs) (h : QS a) : ∃ b, V.ref a = .ref b ∧ (∃ xs, SqL K H b xs) ∧ QS b := ⟨a, rfl, ⟨xs, hx⟩, h⟩
theorem r_iTup (h : te σ H fun x H1 => ∃ a, x = .ref a ∧ (∃ xs, SqT K H1 a xs) ∧ R (Itt K a) H1) : iTup K te σ H R := h
theorem r_iTup1 {a : Addr} {QS : Addr → Prop} (xs : List V) (hx : SqT K H a xs) (h : QS a) : ∃ b, V.ref a = .ref b ∧ (∃ xs, SqT K H b xs) ∧ QS b := ⟨a, rfl, ⟨xs, hx⟩, h⟩
theorem r_iRng1 (h : ta σ H fun vs H1 => ∃ j : Int, vs = [.int j] ∧ -(2 ^ 62) ≤ j ∧ j < 2 ^ 62 ∧ R (Itr 0 j.toNat) H1) : iRng1 ta σ H R := h
theorem r_iRng11 {n : Int} {QS : Int → Prop} (h1 : -1000000 ≤ n ∧ n ≤ 1000000) (h : QS n) : ∃ j : Int, [V.int n] = [.int j] ∧ -(2 ^ 62) ≤ j ∧ j < 2 ^ 62 ∧ QS j := ⟨n, rfl, by omega, by omega, h⟩
theorem r_iRng2 (h : ta σ H fun vs H1 => ∃ i j : Int, vs = [.int i, .int j] ∧ (-(2 ^ 62) ≤ i ∧ i < 2 ^ 62 ∧ -(2 ^ 62) ≤ j ∧ j < 2 ^ 62) ∧ R (Itr i (j - i).toNat) H1) : iRng2 ta σ H R := h
theorem r_iRng21 {i n : Int} (h1 : -1000000 ≤ i ∧ i ≤ 1000000 ∧ -1000000 ≤ n ∧ n ≤ 1000000) {QS : Int → Int → Prop} (h : QS i n) : ∃ i' j : Int, [V.int i, V.int n] = [.int i', .int j] ∧ (-(2 ^ 62) ≤ i' ∧ i' < 2 ^ 62 ∧ -(2 ^ 62) ≤ j ∧ j < 2 ^ 62) ∧ QS i' j := ⟨i, n, rfl, by omega, h⟩
/-- the loops, by a word Pv by the turn -/
theorem loopS {x : Str} (Pv : Nat → L2.St → Hp → Prop) (h0 : Pv 0 σ H) (hs : ∀ i k σ' H', x.cps.toList[i]? = some k → Pv i σ' H' → tb ⟨Pv (i + 1), b, a, Pv (i + 1)⟩ (σ'.set j (some (.str ⟨#[k]⟩))) H') (hd : ∀ σ' H', Pv x.cps.toList.length σ' H' → a σ' H') :
    ForR (Its x) (gName j) tb ⟨a, b, c, d⟩ σ H := by
  refine ⟨fun i m σ H => m = x.cps.size - i ∧ i ≤ x.cps.size ∧ Pv i σ H, ⟨x.cps.size, by simp, Nat.zero_le _, h0⟩, ?_⟩
  rintro i m σ H ⟨rfl, hi, p⟩
  by_cases hlt : i < x.cps.size
  · refine .inr ⟨hlt, Pv (i + 1), fun σ' H' p' => ⟨x.cps.size - (i + 1), by omega, rfl, hlt, p'⟩, fun y H' q => ?_⟩
    obtain ⟨rfl, k, hk, rfl⟩ := q
    exact hs i k σ _ (by rw [← hk]; simp) p
  · have e : i = x.cps.size := by omega
    subst e
    exact .inl ⟨Nat.le_refl _, hd σ H (by simpa using p)⟩
theorem loopL {p : Addr} {xs : List V} (Pv : Nat → L2.St → Hp → Prop) (h0 : Pv 0 σ H) (hl : ∀ i σ' H', i ≤ xs.length → Pv i σ' H' → SqL K H' p xs)
    (hs : ∀ i x σ' H', xs[i]? = some x → Pv i σ' H' → g x σ' H' fun σ2 H2 => tb ⟨Pv (i + 1), b, a, Pv (i + 1)⟩ σ2 H2) (hd : ∀ σ' H', Pv xs.length σ' H' → a σ' H') : ForR (Itl K p) g tb ⟨a, b, c, d⟩ σ H :=
  for_list (xs := xs) (D := ⟨a, b, c, d⟩) Pv h0 hl hs hd
theorem loopT {p : Addr} {xs : List V} (Pv : Nat → L2.St → Hp → Prop) (h0 : Pv 0 σ H) (hl : ∀ i σ' H', i ≤ xs.length → Pv i σ' H' → SqT K H' p xs)
    (hs : ∀ i x σ' H', xs[i]? = some x → Pv i σ' H' → g x σ' H' fun σ2 H2 => tb ⟨Pv (i + 1), b, a, Pv (i + 1)⟩ σ2 H2) (hd : ∀ σ' H', Pv xs.length σ' H' → a σ' H') : ForR (Itt K p) g tb ⟨a, b, c, d⟩ σ H :=
  for_tup (xs := xs) (D := ⟨a, b, c, d⟩) Pv h0 hl hs hd
theorem loopR {lo : Int} {n : Nat} (Pv : Nat → L2.St → Hp → Prop) (h0 : Pv 0 σ H)
    (hs : ∀ i σ' H', i < n → Pv i σ' H' → g (.int (lo + i)) σ' H' fun σ2 H2 => tb ⟨Pv (i + 1), b, a, Pv (i + 1)⟩ σ2 H2) (hd : ∀ σ' H', Pv n σ' H' → a σ' H') : ForR (Itr lo n) g tb ⟨a, b, c, d⟩ σ H :=
  for_range (D := ⟨a, b, c, d⟩) Pv h0 hs hd
end
theorem r_ite {b : Bool} {A B : Prop} (h1 : b = true → A) (h2 : b = false → B) : if b = true then A else B := by
  cases b with
  | true => exact h1 rfl
  | false => exact h2 rfl
theorem r_iteD {p : Prop} {_ : Decidable p} {A B : Prop} (h1 : p → A) (h2 : ¬ p → B) : if decide p = true then A else B := by
  by_cases h : p
  · rw [decide_eq_true h]; exact h1 h
  · rw [decide_eq_false h]; exact h2 h
theorem r_iteN {p : Prop} {_ : Decidable p} {A B : Prop} (h1 : ¬ p → A) (h2 : p → B) : if (!decide p) = true then A else B := by
  by_cases h : p
  · rw [decide_eq_true h]; exact h2 h
  · rw [decide_eq_false h]; exact h1 h
theorem r_iteF {A B : Prop} (h : B) : if false = true then A else B := iteF h
theorem r_iteT {A B : Prop} (h : A) : if true = true then A else B := iteT h
/-! ### slices, tuples of texts -/
theorem cutV_whole {xs : List V} {lo hi : Option Int} (h : HT.sIx xs.length 0 lo = 0 ∧ HT.sIx xs.length xs.length hi = xs.length) : cutV xs lo hi = xs := by
  unfold cutV
  rw [h.1, h.2]
  simp
theorem r_slA {K : PySem.W.Frag} {H : Hp} {Q : VK} {a : Addr} {xs : List V} {lo hi : Option Int} (h : SqT K H a xs) (q : ∀ p H2, Same H H2 → SqT K H2 p (cutV xs lo hi) → Q (.ref p) H2) : rSlA K (.ref a) lo hi H Q :=
  ⟨a, xs, rfl, h, fun w => q a H (Same.refl H) (by rw [cutV_whole w]; exact h), fun _ p hp => q p _ (ex_new hp) (SqT.of upd_same)⟩
theorem r_slL {K : PySem.W.Frag} {H : Hp} {Q : VK} {a : Addr} {xs : List V} {lo hi : Option Int} (h : SqL K H a xs) (q : ∀ p H2, H p = none → Same H H2 → H2 p = some (.lst (cutV xs lo hi)) → Q (.ref p) H2) : rSlL K (.ref a) lo hi H Q :=
  ⟨a, xs, rfl, h, fun p hp => q p _ hp (ex_new hp) upd_same⟩
def Asc (z : Str) : Prop := ∀ c ∈ z.cps.toList, c < 128
theorem Asc.ok {z : Str} (h : Asc z) : PyData.strOk z = true := by
  unfold PyData.strOk
  rw [← Array.all_toList, List.all_eq_true]
  intro c hc
  exact decide_eq_true (Nat.lt_of_lt_of_le (h c hc) (by decide))
instance {z : Str} : Decidable (Asc z) := inferInstanceAs (Decidable (∀ c ∈ z.cps.toList, c < 128))
theorem len_app (x y : Str) : (x ++ y).length = x.length + y.length := Str.length_append x y
theorem len_one (c : Nat) : (⟨#[c]⟩ : Str).length = 1 := rfl
theorem cps_app (x y : Str) : (x ++ y).cps.toList = x.cps.toList ++ y.cps.toList := by
  show (x.cps ++ y.cps).toList = _
  simp
theorem len_list (x : Str) : x.cps.toList.length = x.length := by simp [Str.length]
theorem Asc.app {x y : Str} (h : Asc x) (g : Asc y) : Asc (x ++ y) := by
  intro c hc
  rw [cps_app] at hc
  exact (List.mem_append.mp hc).elim (h c) (g c)
theorem Asc.one {c : Nat} (h : c < 128) : Asc ⟨#[c]⟩ := by
  intro d hd
  have : d = c := by simpa using hd
  omega
theorem Asc.mem {z : Str} {c : Nat} (h : Asc z) (hc : c ∈ z.cps.toList) : Asc ⟨#[c]⟩ := .one (h c hc)
theorem Asc.cut {z : Str} (h : Asc z) (lo hi : Option Int) : Asc (cutS z lo hi) := fun c hc => h c (List.mem_of_mem_drop (List.mem_of_mem_take (by simpa [cutS] using hc)))
theorem dpAll_str {K : PySem.W.Frag} {H : Hp} : ∀ xs : List Str, DpAll K H (xs.map V.str) (xs.map PyData.str)
  | [] => .nil
  | x :: xs => .cons (.str x) (dpAll_str xs)
theorem dp_strs {K : PySem.W.Frag} {H : Hp} {a : Addr} {xs : List Str} (h : SqT K H a (xs.map V.str)) : Dp K H (.ref a) (.tuple (xs.map PyData.str)) := .tup h (dpAll_str xs)
theorem canLay_strs : ∀ {xs : List Str}, (∀ x ∈ xs, Asc x) → PyData.canLayAll0 (xs.map PyData.str) = true
  | [], _ => by simp [PyData.canLayAll0]
  | x :: xs, h => by
    have h1 := (h x (List.mem_cons_self)).ok
    have h2 := canLay_strs (xs := xs) fun y hy => h y (List.mem_cons_of_mem _ hy)
    simp [PyData.canLayAll0, PyData.canLay0, h1, h2]
theorem depth_strs : ∀ xs : List Str, PyData.depthAll (xs.map PyData.str) = 0
  | [] => by simp [PyData.depthAll]
  | x :: xs => by simp [PyData.depthAll, PyData.depth, depth_strs xs]
theorem shaped_strs {xs : List Str} (h : ∀ x ∈ xs, Asc x) : SeqAt.shaped (.tuple (xs.map PyData.str)) = true := by
  unfold SeqAt.shaped
  rw [Bool.and_eq_true]
  refine ⟨by simp only [PyData.canLay0]; exact canLay_strs h, decide_eq_true ?_⟩
  simp [PyData.depth, depth_strs xs]
theorem eqvAll_strs : ∀ xs ys : List Str, PyData.eqvAll (xs.map PyData.str) (ys.map PyData.str) = decide (xs = ys)
  | [], [] => by simp [PyData.eqvAll]
  | [], _ :: _ => by simp [PyData.eqvAll]
  | _ :: _, [] => by simp [PyData.eqvAll]
  | x :: xs, y :: ys => by
    simp only [List.map_cons, PyData.eqvAll, PyData.eqv, eqvAll_strs xs ys]
    by_cases h : x = y <;> by_cases h' : xs = ys <;> simp [h, h']
theorem r_eqD {K : PySem.W.Frag} {H : Hp} {Q : VK} {x y : V} {d e : PyData} (hd : Dp K H x d) (he : Dp K H y e) (sd : SeqAt.shaped d = true) (se : SeqAt.shaped e = true) (q : Q (.bl (PyData.eqv d e)) H) : rEqD K x y H Q := ⟨d, e, hd, he, sd, se, q⟩
theorem r_eqTS {K : PySem.W.Frag} {H : Hp} {Q : VK} {a b : Addr} {xs ys : List Str} (h1 : SqT K H a (xs.map V.str)) (h2 : SqT K H b (ys.map V.str)) (o1 : ∀ x ∈ xs, Asc x) (o2 : ∀ x ∈ ys, Asc x) (q : Q (.bl (decide (xs = ys))) H) : rEqD K (.ref a) (.ref b) H Q := by
  refine r_eqD (dp_strs h1) (dp_strs h2) (shaped_strs o1) (shaped_strs o2) ?_
  have e : PyData.eqv (.tuple (xs.map PyData.str)) (.tuple (ys.map PyData.str)) = decide (xs = ys) := by
    simp only [PyData.eqv]
    exact eqvAll_strs xs ys
  rw [e]
  exact q
theorem cutV_strs (xs : List Str) (lo hi : Option Int) : cutV (xs.map V.str) lo hi = ((xs.drop (HT.sIx xs.length 0 lo)).take (HT.sIx xs.length xs.length hi - HT.sIx xs.length 0 lo)).map V.str := by
  unfold cutV
  rw [List.length_map, List.map_take, List.map_drop]
theorem But.step {l p : Addr} {H H1 H2 : Hp} (a : But l H H1) (b : But p H1 H2) (h : H p = none) : But l H H2 := fun c o n hc => b c o (ne_of_none hc h) (a c o n hc)
theorem But.same' {l : Addr} {H H1 H2 : Hp} (a : But l H H1) (b : Same H1 H2) : But l H H2 := fun c o n hc => b c o (a c o n hc)
theorem But.pre {l : Addr} {H H1 H2 : Hp} (a : Same H H1) (b : But l H1 H2) : But l H H2 := fun c o n hc => b c o n (a c o hc)
theorem But.drop {l : Addr} {H H1 : Hp} (b : But l H H1) (h : H l = none) : Same H H1 := fun c o hc => b c o (ne_of_none hc h) hc
/-- an item at a place in bounds -/
theorem atI_in {α : Type} {xs : List α} {i : Int} (h0 : 0 ≤ i) (h1 : i < (xs.length : Int)) : ∃ v, v ∈ xs ∧ atI xs i = some v ∧ xs[i.toNat]? = some v := by
  obtain ⟨n, rfl⟩ := Int.eq_ofNat_of_zero_le h0
  have hk : n < xs.length := by omega
  exact ⟨xs[n], List.getElem_mem hk, atI_nat (List.getElem?_eq_getElem hk), List.getElem?_eq_getElem hk⟩
theorem ixN_in {n : Nat} {i : Int} (h0 : 0 ≤ i) (h1 : i < (n : Int)) : ixN n i = some i.toNat := by
  unfold ixN
  rw [if_pos h0, if_pos (by omega)]
theorem map_get {α : Type} {f : α → V} {xs : List α} {i : Nat} {x : V} (h : (xs.map f)[i]? = some x) : ∃ y, xs[i]? = some y ∧ x = f y := by
  rw [List.getElem?_map] at h
  cases e : xs[i]? with
  | none => rw [e] at h; cases h
  | some y => rw [e] at h; exact ⟨y, rfl, (Option.some.inj h).symm⟩
/-! ### a law's source of draws -/
def Src (H : Hp) (a : Addr) : Prop := ∃ x y z : Int, H a = some (.lst [.int x, .int y, .int z]) ∧ (y = 0 ∨ (0 ≤ x ∧ x < 2147483648 ∧ 0 ≤ z ∧ z < 2147483648))
theorem Src.lst {H : Hp} {a : Addr} (h : Src H a) : ∃ xs, H a = some (.lst xs) := by
  obtain ⟨_, _, _, h, _⟩ := h
  exact ⟨_, h⟩
theorem Src.ex {H H' : Hp} {a : Addr} (h : Src H a) (e : Same H H') : Src H' a := by
  obtain ⟨x, y, z, h, r⟩ := h
  exact ⟨x, y, z, e _ _ h, r⟩
theorem Src.but {H H' : Hp} {a l : Addr} (h : Src H a) (e : But l H H') (n : a ≠ l) : Src H' a := by
  obtain ⟨x, y, z, h, r⟩ := h
  exact ⟨x, y, z, e _ _ n h, r⟩
def spDraw : Sp := fun vs H Q _ => ∃ (a : Addr) (m : Int), vs = [.ref a, .int m] ∧ Src H a ∧ 0 < m ∧ m ≤ 1000000 ∧ ∀ H' d, But a H H' → Src H' a → 0 ≤ d → d < m → Q (.int d) H'
def spSource : Sp := fun vs H Q _ => ∃ n : Int, vs = [.int n] ∧ ∀ H' a, Same H H' → H a = none → Src H' a → Q (.ref a) H'
def spCell (K : PySem.W.Frag) : Sp := fun vs H Q _ => ∃ (l : Addr) (ns : List Int) (k : Int), vs = [.ref l, .int k] ∧ SqL K H l (ns.map V.int) ∧ ns.length ≤ 63 ∧ 0 ≤ k ∧ k ≤ 1000000 ∧ ∀ c : Int, Q (.int c) H
theorem r_draw {H : Hp} {Q : VK} {a : Addr} {m : Int} (hs : Src H a) (h0 : 0 < m) (h1 : m ≤ 1000000) (q : ∀ H' d, But a H H' → Src H' a → 0 ≤ d → d < m → Q (.int d) H') : spDraw [.ref a, .int m] H Q E0 := ⟨a, m, rfl, hs, h0, h1, q⟩
/-- a def that draws: what it hands back is as post says -/
def spDrawn (post : Hp → V → Prop) : Sp := fun vs H Q _ => ∃ a : Addr, vs = [.ref a] ∧ Src H a ∧ ∀ H' v, But a H H' → Src H' a → post H' v → Q v H'
theorem r_drawn {post : Hp → V → Prop} {H : Hp} {Q : VK} {a : Addr} (hs : Src H a) (q : ∀ H' v, But a H H' → Src H' a → post H' v → Q v H') : spDrawn post [.ref a] H Q E0 := ⟨a, rfl, hs, q⟩
/-- a text of ASCII signs, of so many signs -/
def SV (lo hi : Nat) (v : V) : Prop := ∃ z : Str, v = .str z ∧ lo ≤ z.length ∧ z.length ≤ hi ∧ Asc z
theorem r_cell {K : PySem.W.Frag} {H : Hp} {Q : VK} {l : Addr} {ns : List Int} {k : Int} (hL : SqL K H l (ns.map V.int)) (hn : ns.length ≤ 63) (h0 : 0 ≤ k) (h1 : k ≤ 1000000) (q : ∀ c : Int, Q (.int c) H) : spCell K [.ref l, .int k] H Q E0 := ⟨l, ns, k, rfl, hL, hn, h0, h1, q⟩
theorem r_source {H : Hp} {Q : VK} {n : Int} (q : ∀ H' a, Same H H' → H a = none → Src H' a → Q (.ref a) H') : spSource [.int n] H Q E0 := ⟨n, rfl, q⟩
theorem r_cat {H : Hp} {Q : VK} {l b : Addr} {xs ys : List V} (h1 : H l = some (.lst xs)) (h2 : H b = some (.lst ys)) (hz : xs.length + ys.length ≤ 100000) (q : ∀ p H2, H p = none → Same H H2 → H2 p = some (.lst (xs ++ ys)) → Q (.ref p) H2) : rCat (.ref l) (.ref b) H Q :=
  ⟨l, b, xs, ys, rfl, rfl, h1, h2, Nat.le_trans hz (by decide), fun p hp => q p _ hp (ex_new hp) upd_same⟩
theorem r_isiB {K : PySem.W.Frag} {H : Hp} {Q : VK} {b r : Bool} {T : String} (h : kitB "bool" T = some r) (q : Q (.bl r) H) : rIsi K [.bl b, .ty T] H Q := ⟨_, _, _, _, r, rfl, .ty T, .base (.bl b), kit_ty h, q⟩
theorem r_isiI {K : PySem.W.Frag} {H : Hp} {Q : VK} {b : Int} {r : Bool} {T : String} (h : kitB "int" T = some r) (q : Q (.bl r) H) : rIsi K [.int b, .ty T] H Q := ⟨_, _, _, _, r, rfl, .ty T, .base (.int b), kit_ty h, q⟩
theorem r_isiS {K : PySem.W.Frag} {H : Hp} {Q : VK} {b : Str} {r : Bool} {T : String} (h : kitB "str" T = some r) (q : Q (.bl r) H) : rIsi K [.str b, .ty T] H Q := ⟨_, _, _, _, r, rfl, .ty T, .base (.str b), kit_ty h, q⟩
theorem r_iteNF {A B : Prop} (h : A) : if (!false) = true then A else B := iteT h
theorem r_iteNT {A B : Prop} (h : B) : if (!true) = true then A else B := iteF h
theorem r_iteDp {p : Prop} {_ : Decidable p} {A B : Prop} (h : p) (a : A) : if decide p = true then A else B := by rw [decide_eq_true h]; exact a
theorem r_iteDn {p : Prop} {_ : Decidable p} {A B : Prop} (h : ¬ p) (b : B) : if decide p = true then A else B := by rw [decide_eq_false h]; exact b
theorem r_iteNp {p : Prop} {_ : Decidable p} {A B : Prop} (h : p) (b : B) : if (!decide p) = true then A else B := by rw [decide_eq_true h]; exact b
theorem r_iteNn {p : Prop} {_ : Decidable p} {A B : Prop} (h : ¬ p) (a : A) : if (!decide p) = true then A else B := by rw [decide_eq_false h]; exact a
end My

set_option Elab.async false
set_option linter.all false
set_option maxRecDepth 100000
set_option maxHeartbeats 4000000
namespace My
open PySem PySem.Spec PyProof.Rows L2
open C8 (tCut pss_cut)
/-! ### t[::-1] of a tuple -/
section
variable {prog : Program} {w : World} {A : Around} {E : Value → Shared → Prop} {s : Shared}
theorem sliceBack {sl : Addr} {vs : Value} {n : Nat} {Q : Int × Int × Nat → Shared → Prop} (hs : s.heap.IsSliceOf sl .none .none vs) (ps : IsPart vs (some (-1))) (h : Q ((n : Int) - 1, -1, n) s) :
    wpAny (model prog w) A (Builtin.Slice.sliceApplied (.ref sl) (pure (n : Int))) Q E s := by
  obtain ⟨o, ho, _, hd⟩ := id hs
  unfold Builtin.Slice.sliceApplied Builtin.Slice.sliceFields
  refine wpAny_bind (wpAny_bind (wpAny_field ho hd (x := .none) rfl (wpAny_bind (wpAny_field ho hd (x := .none) rfl (wpAny_bind (wpAny_field ho hd (x := vs) rfl (wpAny_pure ?_)))))))
  refine wpAny_bind (HT.slicePart_ ps ?_)
  show wpAny _ _ (if ((-1 : Int) == 0) = true then _ else _) _ _ s
  rw [if_neg (by decide)]
  refine wpAny_bind (slicePart_none (wpAny_bind (slicePart_none (wpAny_bind (wpAny_pure ?_)))))
  have e : Builtin.Slice.slicePlaces ((n : Int) - 1) (-1) (-1) = n := by
    unfold Builtin.Slice.slicePlaces
    rw [if_neg (by decide)]
    by_cases hn : (n : Int) - 1 > -1
    · rw [if_pos hn]
      have : -(-1 : Int) = 1 := by decide
      rw [this, Int.ediv_one]
      omega
    · rw [if_neg hn]
      omega
  show wpAny _ _ (pure ((n : Int) - 1, (-1 : Int), Builtin.Slice.slicePlaces ((n : Int) - 1) (-1) (-1))) _ _ s
  rw [e]
  exact wpAny_pure h
theorem fm_congr {α β : Type} {f g : α → Option β} : ∀ {l : List α}, (∀ x ∈ l, f x = g x) → l.filterMap f = l.filterMap g
  | [], _ => rfl
  | x :: l, h => by
    rw [List.filterMap_cons, List.filterMap_cons, h x List.mem_cons_self, fm_congr fun y hy => h y (List.mem_cons_of_mem _ hy)]
theorem backPick (xs : Array Value) : ((List.range xs.size).filterMap fun (m : Nat) => xs[(((xs.size : Nat) : Int) - 1 + (m : Int) * (-1)).toNat]?).toArray = xs.toList.reverse.toArray := by
  have e : (List.range xs.size).filterMap (fun (m : Nat) => xs[(((xs.size : Nat) : Int) - 1 + (m : Int) * (-1)).toNat]?) = (((List.range xs.size).map fun k => xs.size - 1 - k)).filterMap (xs[·]?) := by
    rw [List.filterMap_map]
    refine fm_congr fun m hm => ?_
    have hm := List.mem_range.mp hm
    show _ = xs[xs.size - 1 - m]?
    congr 1
    omega
  rw [e, PySem.W.krv_range, List.filterMap_reverse, PySem.W.krv_all]
theorem getItem_back {t sl : Addr} {items : Array Value} {vs : Value} {Q : Value → Shared → Prop} (ht : IsTup s.heap t items) (hs : s.heap.IsSliceOf sl .none .none vs) (ps : IsPart vs (some (-1)))
    (h : Q (.ref s.heap.objs.size) { s with heap := s.heap.push { cls := .type "tuple", data := .seq items.toList.reverse.toArray } }) (hsz : items.size ≤ sizeLine) : wpAny (model prog w) A (getItem (.ref t) (.ref sl)) Q E s := by
  have htake : sizeOk (.seq items.toList.reverse.toArray) := by
    show items.toList.reverse.toArray.size ≤ sizeLine
    rw [List.size_toArray, List.length_reverse, Array.length_toList]
    exact hsz
  obtain ⟨o, ho, hc, _⟩ := id hs
  have hT : s.TypeIs (.ref sl) "slice" := ⟨o, ho, hc⟩
  unfold getItem
  try with_reducible refine wpAny_holding ?_
  first | refine wpAny_bind (wpAny_pure ?_) | skip
  refine wpAny_bind (wpAny_sequenceKey ht.typeIs (by decide) ?_)
  refine wpAny_bind (wpAny_callSpecial?_slot (name := Str.ofString "__getitem__") ht.typeIs PyProof.Rows.slot_tuple_getitem
    (wpAny_call_entry PyProof.Rows.slot_tuple_getitem ht.typeIs entry_tuple_getitem ?_ (args_tuple_getitem _ _)))
  show wpAny _ _ (Builtin.Tuple.tupleItemsOf (.ref t) >>= _) _ _ s
  refine wpAny_bind (tupleItemsOf_ ht ?_)
  refine wpAny_bind (wpAny_typeOf hT ?_)
  rw [if_pos (by decide)]
  refine wpAny_bind (sliceBack hs ps ?_)
  have hno : ¬ ((((items.size : Nat) : Int) - 1 == 0 && (-1 : Int) == 1 && items.size == items.size) = true) := by
    rw [show ((-1 : Int) == 1) = false from by decide, Bool.and_false, Bool.false_and]
    exact Bool.false_ne_true
  show wpAny _ _ (if (((items.size : Nat) : Int) - 1 == 0 && (-1 : Int) == 1 && items.size == items.size) = true then _ else _) _ _ s
  rw [if_neg hno, backPick]
  first
    | exact wpAny_bind (m := Builtin.Tuple.tupleExact _) (wpAny_newObj_type (wpAny_pure ⟨_, rfl, wpAny_pure h⟩) htake)
    | exact wpAny_bind (m := Builtin.Tuple.tupleExact _) (wpAny_newObj_type (wpAny_bind (wpAny_pure (wpAny_pure ⟨_, rfl, wpAny_pure h⟩))) htake)
    | exact wpAny_bind (wpAny_bind (m := Builtin.Tuple.tupleExact _) (wpAny_newObj_type (wpAny_pure (wpAny_pure ⟨_, rfl, wpAny_pure h⟩)) htake))
    | exact wpAny_bind (wpAny_bind (m := Builtin.Tuple.tupleExact _) (wpAny_newObj_type (wpAny_pure ⟨_, rfl, wpAny_pure h⟩) htake))
end
section
variable {X : Cx}
def rBackT (K : PySem.W.Frag) : V → Hp → VK → Prop := fun x H Q => ∃ a xs, x = .ref a ∧ SqT K H a xs ∧ ∀ p, H p = none → Q (.ref p) (upd H p (.tup xs.reverse))
theorem pe_backT {e : Expr} {te : TE} {k : Nat} {p1 p2 p3 pos : Pos} (he : PE X e te) : PE X (.Subscript e (.Slice none none (some (.UnaryOp .USub (.Constant (.int 1) k p1) p2)) p3) pos) (tUn (rBackT X.K) te) := by
  refine ⟨fun pins s σ H Q I h => Subscript_ (thn (he.run pins s σ H _ I h) fun v s1 ⟨x, H1, I1, r1, q1⟩ => ?_)⟩
  obtain ⟨a, xs, rfl, hx, q⟩ := q1
  cases r1
  have hst : PO X (some (.UnaryOp .USub (.Constant (.int 1) k p1) p2)) (tPart (tUn (rU fun i => .int (-i)) (tC (.int 1)))) := po_some (pe_un un_neg pe_int)
  refine wpAny_Slice (thn (po_none.run pins s1 σ H1 (fun o H2 => o = none ∧ H2 = H1) I1 ⟨rfl, rfl⟩) fun vl s2 ⟨l, H2, I2, pl, el, e2⟩ => ?_)
  subst el e2
  refine thn (po_none.run pins s2 σ H2 (fun o H3 => o = none ∧ H3 = H2) I2 ⟨rfl, rfl⟩) fun vu s3 ⟨u, H3, I3, pu, eu, e3⟩ => ?_
  subst eu e3
  refine thn (hst.run pins s3 σ H3 (fun o H4 => o = some (-1) ∧ H4 = H3) I3 ⟨1, rfl, -1, rfl, rfl, rfl⟩) fun vs s4 ⟨o, H4, I4, ps, eo, e4⟩ => ?_
  subst eo e4
  have I5 : Inv X pins σ H4 { s4 with heap := s4.heap.push { cls := .type "slice", data := .fields #[vl, vu, vs] } } := I4.kept (t' := s4.toks) fun b ob q => Heap.get?_push_of_some _ q
  obtain ⟨its, r, ht, hz⟩ := I5.tuple hx
  cases pl
  cases pu
  show wpAny (model X.prog X.w) X.A (subscriptTail e (.Slice none none (some (.UnaryOp .USub (.Constant (.int 1) k p1) p2)) p3) (.ref a) (.ref s4.heap.objs.size)) (EP X pins σ Q) X.xe { s4 with heap := s4.heap.push { cls := .type "slice", data := .fields #[.none, .none, vs] } }
  refine tail_any (ops := [.ref a, .ref s4.heap.objs.size]) ht.typeIs (PyProof.Rows.slot_tuple_getitem.lookup) ?_ (by with_unfolding_all rfl)
  refine getItem_back ht (Heap.IsSliceOf.new _ .none .none vs) ps ?_ (by have := r.length; rw [List.size_toArray]; omega)
  refine ⟨.ref _, _, I5.laid (t' := s4.toks) (o := .tup xs.reverse) (fun b ob q => Heap.get?_push_of_some _ q) (Nat.le_refl _) ?_, rfl, q _ (I5.hok.fresh (Nat.le_refl _))⟩
  exact ⟨by rw [List.length_reverse]; have := r.length; omega, _, r.reverse, IsTup.new _ _⟩
/-! ### text * int -/
theorem rep_cps (c : Array Nat) : ∀ (k : Nat) (acc : Array Nat), (∀ x ∈ ((List.replicate k c).foldl (· ++ ·) acc).toList, x ∈ acc.toList ∨ x ∈ c.toList)
  | 0, acc => fun x hx => .inl hx
  | k + 1, acc => fun x hx => by
    rw [List.replicate_succ, List.foldl_cons] at hx
    rcases rep_cps c k _ x hx with h | h
    · rw [Array.toList_append] at h
      exact List.mem_append.mp h
    · exact .inr h
def rMulS : R2 := fun x y H Q => ∃ (z : Str) (n : Int), x = .str z ∧ y = .int n ∧ z.length ≤ 100 ∧ 0 ≤ n ∧ n ≤ 1000 ∧ ∀ y : Str, y.length = z.length * n.toNat → (∀ c ∈ y.cps.toList, c ∈ z.cps.toList) → Q (.str y) H
theorem oMulS : OpR X (binaryOp .Mult) rMulS := by
  intro pins s σ H x y v u Q I rx ry h
  obtain ⟨z, n, rfl, rfl, hz, h0, h1, q⟩ := h
  obtain ⟨t, rfl⟩ := rx
  obtain ⟨t', rfl⟩ := ry
  have hm : z.length * n.toNat ≤ 100 * 1000 := Nat.mul_le_mul hz (by omega)
  refine P.mul_str (by rw [decide_eq_false (by omega), decide_eq_false (by omega)]; rfl) (fun a b => ?_) (fun a b => ?_) ?_
  · have hn : (2 ^ 63 - 1) / n ≥ (2 ^ 63 - 1) / 1000 := by
      refine Int.le_ediv_of_mul_le (by omega) ?_
      have : (2 ^ 63 - 1) / 1000 * n ≤ (2 ^ 63 - 1) / 1000 * 1000 := Int.mul_le_mul_of_nonneg_left h1 (by decide)
      exact Int.le_trans this (by decide)
    have hb : (2 ^ 63 - 1) / 1000 ≥ (100 : Int) := by decide
    omega
  · unfold Builtin.Str.tooLong
    refine decide_eq_false ?_
    have : 100 * 1000 ≤ sizeLine := by decide
    omega
  · by_cases c1 : n < 1
    · rw [if_pos c1]
      refine ⟨Nat.zero_le _, .str Str.empty, H, I.tok _, ⟨_, rfl⟩, q _ ?_ ?_⟩
      · have : n.toNat = 0 := by omega
        rw [this]; rfl
      · intro c hc; cases hc
    · rw [if_neg c1]
      by_cases c2 : (n == 1 || z.length == 0) = true
      · rw [if_pos c2]
        refine ⟨.str z, H, I, ⟨_, rfl⟩, q _ ?_ (fun c hc => hc)⟩
        rw [Bool.or_eq_true, beq_iff_eq, beq_iff_eq] at c2
        rcases c2 with c2 | c2
        · rw [c2]; simp
        · rw [c2]; simp
      · rw [if_neg c2]
        refine ⟨?_, .str _, H, I.tok _, ⟨_, rfl⟩, q _ ?_ ?_⟩
        · show ((List.replicate n.toNat z.cps).foldl (· ++ ·) #[]).size ≤ sizeLine
          rw [size_reps, Nat.mul_comm]
          show 0 + z.length * n.toNat ≤ sizeLine
          have : 100 * 1000 ≤ sizeLine := by decide
          omega
        · show ((List.replicate n.toNat z.cps).foldl (· ++ ·) #[]).size = _
          rw [size_reps]
          show 0 + n.toNat * z.length = _
          rw [Nat.zero_add, Nat.mul_comm]
        · intro c hc
          exact (rep_cps z.cps n.toNat #[] c hc).resolve_left (by simp)
end
section
variable {σ : L2.St} {H : Hp} {Q : VK} {K : PySem.W.Frag}
theorem r_mulS {z : Str} {n : Int} (hz : z.length ≤ 100) (h0 : 0 ≤ n ∧ n ≤ 1000) (q : ∀ y : Str, y.length = z.length * n.toNat → (∀ c ∈ y.cps.toList, c ∈ z.cps.toList) → Q (.str y) H) : rMulS (.str z) (.int n) H Q := ⟨z, n, rfl, rfl, hz, h0.1, h0.2, q⟩
theorem r_backT {a : Addr} {xs : List V} (h : SqT K H a xs) (q : ∀ p H2, H p = none → Same H H2 → H2 p = some (.tup xs.reverse) → Q (.ref p) H2) : rBackT K (.ref a) H Q := ⟨a, xs, rfl, h, fun p hp => q p _ hp (ex_new hp) upd_same⟩
/-! ### data as a whole -/
theorem isiT_of {a : Addr} {xs : List V} (h : SqT K H a xs) : TyX K H (.ref a) (.type "tuple") := by
  rcases h with (h | ⟨o, h⟩) | h
  · exact .base (.tup h)
  · exact .fTuple h
  · obtain ⟨o, _, _, hk, hc, _⟩ := h
    exact .kTuple hk hc
theorem r_isiT {a : Addr} {xs : List V} {r : Bool} {T : String} (hx : SqT K H a xs) (h : kitB "tuple" T = some r) (q : Q (.bl r) H) : rIsi K [.ref a, .ty T] H Q := ⟨_, _, _, _, r, rfl, .ty T, isiT_of hx, kit_ty h, q⟩
mutual
/-- whole numbers, texts, tuples of such -/
def pureD : PyData → Bool
  | .int _ => true
  | .str x => PyData.strOk x
  | .tuple xs => decide (xs.length ≤ 10000) && pureAll xs
  | .none => false
  | .bool _ => false
  | .list _ => false
  | .dict _ => false
def pureAll : List PyData → Bool
  | [] => true
  | x :: xs => pureD x && pureAll xs
end
theorem pureAll_iff : ∀ xs : List PyData, pureAll xs = true ↔ ∀ x ∈ xs, pureD x = true
  | [] => by simp [pureAll]
  | x :: xs => by simp [pureAll, pureAll_iff xs]
mutual
theorem canLay_pure : ∀ d : PyData, pureD d = true → d.canLay0 = true
  | .int _, _ => by simp [PyData.canLay0]
  | .str x, h => by simpa [PyData.canLay0, pureD] using h
  | .tuple xs, h => by
    simp only [PyData.canLay0]
    exact canLay_pureAll xs (by simp [pureD] at h; exact h.2)
  | .none, h => by simp [pureD] at h
  | .bool _, h => by simp [pureD] at h
  | .list _, h => by simp [pureD] at h
  | .dict _, h => by simp [pureD] at h
theorem canLay_pureAll : ∀ xs : List PyData, pureAll xs = true → PyData.canLayAll0 xs = true
  | [], _ => by simp [PyData.canLayAll0]
  | x :: xs, h => by
    have h' : pureD x = true ∧ pureAll xs = true := by simpa [pureAll] using h
    simp [PyData.canLayAll0, canLay_pure x h'.1, canLay_pureAll xs h'.2]
end
theorem shaped_pure {d : PyData} (h : pureD d = true) (hd : d.depth ≤ 64) : SeqAt.shaped d = true := by
  unfold SeqAt.shaped
  rw [canLay_pure d h, decide_eq_true hd]
  rfl
theorem depth_mem : ∀ {xs : List PyData} {x : PyData}, x ∈ xs → x.depth ≤ PyData.depthAll xs
  | y :: xs, x, h => by
    simp only [PyData.depthAll]
    rcases List.mem_cons.mp h with rfl | h
    · omega
    · have := depth_mem h; omega
theorem dpAll_len {xs : List V} : ∀ {ds : List PyData}, DpAll K H xs ds → xs.length = ds.length := by
  induction xs with
  | nil => intro ds h; cases h; rfl
  | cons x xs ih =>
    intro ds h
    cases h with
    | cons _ t => simp [ih t]
theorem dpAll_get {xs : List V} : ∀ {ds : List PyData} {i : Nat} {d : PyData}, DpAll K H xs ds → ds[i]? = some d → ∃ v, xs[i]? = some v ∧ Dp K H v d := by
  induction xs with
  | nil => intro ds i d h e; cases h; simp at e
  | cons x xs ih =>
    intro ds i d h e
    cases h with
    | cons a t =>
      cases i with
      | zero => simp at e; subst e; exact ⟨x, rfl, a⟩
      | succ i => simpa using ih t (by simpa using e)
theorem eqvAll_no : ∀ {ds es : List PyData} {i : Nat} {d e : PyData}, ds[i]? = some d → es[i]? = some e → PyData.eqv d e = false → PyData.eqvAll ds es = false
  | x :: ds, y :: es, 0, d, e, h1, h2, h3 => by
    simp at h1 h2
    subst h1 h2
    simp [PyData.eqvAll, h3]
  | x :: ds, y :: es, i + 1, d, e, h1, h2, h3 => by
    simp only [PyData.eqvAll, eqvAll_no (i := i) (by simpa using h1) (by simpa using h2) h3, Bool.and_false]
theorem eqvAll_yes : ∀ {ds es : List PyData}, ds.length = es.length → (∀ (i : Nat) (d e : PyData), ds[i]? = some d → es[i]? = some e → PyData.eqv d e = true) → PyData.eqvAll ds es = true
  | [], [], _, _ => by simp [PyData.eqvAll]
  | x :: ds, y :: es, hl, h => by
    simp only [PyData.eqvAll, h 0 x y rfl rfl, Bool.true_and]
    exact eqvAll_yes (by simpa using hl) fun i d e h1 h2 => h (i + 1) d e (by simpa using h1) (by simpa using h2)
  | [], _ :: _, hl, _ => by simp at hl
  | _ :: _, [], hl, _ => by simp at hl
def spSame (K : PySem.W.Frag) : Nat → Sp
  | 0 => fun _ _ _ _ => False
  | n + 1 => fun vs H Q _ => ∃ v u d e, vs = [v, u] ∧ Dp K H v d ∧ Dp K H u e ∧ pureD d = true ∧ pureD e = true ∧ e.depth ≤ n ∧ Q (.bl (PyData.eqv d e)) H
theorem fn_false {P : Program} {w : World} {mg : Str → Option Value} {base : Heap} {x : Str} {ps : List Str} {st : Stmt} {k : Nat} (d : Def1 K mg x ps st) : Fn P w K mg base k x ps (fun _ _ _ _ => False) := by
  obtain ⟨f, fd, hm, F, b⟩ := d
  obtain ⟨oc, od, kV, doc, pm, an, cdv, ct, osl, _, lk, _⟩ := F.ex
  exact ⟨f, fd, hm, F.kp, b, ⟨fun _ _ _ _ h => h.elim, fun _ _ _ _ _ _ _ _ _ _ _ _ _ h => h.elim⟩, oc, od, osl, lk⟩
end
/-! ### comprehensions -/
section
variable {σ : L2.St} {H : Hp} {Q : VK} {K : PySem.W.Frag} {g : TG} {tt : TT} {te : TE} {vs : List Nat}
def Yield (D : Addr) (Nx : Hp → Prop) (y : V) (H : Hp) : Prop := ∃ acc, H D = some (.lst acc) ∧ acc.length < sizeLine ∧ Nx (upd H D (.lst (acc ++ [y])))
theorem r_yield {D : Addr} {Nx : Hp → Prop} {y : V} {acc : List V} (h : H D = some (.lst acc)) (hz : acc.length < 100000) (k : ∀ H2, But D H H2 → H2 D = some (.lst (acc ++ [y])) → Nx H2) : Yield D Nx y H :=
  ⟨acc, h, Nat.lt_of_lt_of_le hz (by decide), k _ But.upd upd_same⟩
def LcR (J : It) (g : TG) (tt : TT) (te : TE) (vs : List Nat) (Q : VK) (σ : L2.St) (H1 : Hp) : Prop := ∀ D, H1 D = none → ∃ W : Nat → Nat → Hp → Prop, (∃ m, W 0 m (upd H1 D (.lst []))) ∧ ∀ i m H, W i m H →
  (J.stop i H ∧ Q (.ref D) H) ∨ (J.go i H ∧ ∃ Nx : Hp → Prop, (∀ H', Nx H' → ∃ m', m' < m ∧ W (i + 1) m' H') ∧ ∀ x H', J.yld i H x H' → g x (wipe σ vs) H' fun σ2 H2 => wipe σ2 vs = wipe σ vs ∧ tt σ2 H2 fun b H3 =>
    if b = true then te σ2 H3 fun y H4 => Yield D Nx y H4 else Nx H3)
theorem r_lc {wi : TI} (h : wi σ H fun J H1 => LcR J g tt te vs Q σ H1) : tLc wi g tt te vs σ H Q := h
theorem lcT {a : Addr} {xs : List V} (Pv : Addr → Nat → Hp → Prop) (h0 : ∀ D H2, H D = none → Same H H2 → H2 D = some (.lst []) → Pv D 0 H2) (hl : ∀ D i H', i ≤ xs.length → Pv D i H' → SqT K H' a xs)
    (hs : ∀ D i x H', xs[i]? = some x → Pv D i H' → g x (wipe σ vs) H' fun σ2 H2 => wipe σ2 vs = wipe σ vs ∧ tt σ2 H2 fun b H3 => if b = true then te σ2 H3 fun y H4 => Yield D (Pv D (i + 1)) y H4 else Pv D (i + 1) H3)
    (hd : ∀ D H', Pv D xs.length H' → Q (.ref D) H') : LcR (Itt K a) g tt te vs Q σ H := fun D hD =>
  lc_tup (xs := xs) (Pv D) (h0 D _ hD (ex_new hD) upd_same) (hl D) (hs D) (hd D)
theorem lcL {a : Addr} {xs : List V} (Pv : Addr → Nat → Hp → Prop) (h0 : ∀ D H2, H D = none → Same H H2 → H2 D = some (.lst []) → Pv D 0 H2) (hl : ∀ D i H', i ≤ xs.length → Pv D i H' → SqL K H' a xs)
    (hs : ∀ D i x H', xs[i]? = some x → Pv D i H' → g x (wipe σ vs) H' fun σ2 H2 => wipe σ2 vs = wipe σ vs ∧ tt σ2 H2 fun b H3 => if b = true then te σ2 H3 fun y H4 => Yield D (Pv D (i + 1)) y H4 else Pv D (i + 1) H3)
    (hd : ∀ D H', Pv D xs.length H' → Q (.ref D) H') : LcR (Itl K a) g tt te vs Q σ H := fun D hD =>
  lc_list (xs := xs) (Pv D) (h0 D _ hD (ex_new hD) upd_same) (hl D) (hs D) (hd D)
theorem lcRg {lo : Int} {n : Nat} (Pv : Addr → Nat → Hp → Prop) (h0 : ∀ D H2, H D = none → Same H H2 → H2 D = some (.lst []) → Pv D 0 H2)
    (hs : ∀ D i H', i < n → Pv D i H' → g (.int (lo + i)) (wipe σ vs) H' fun σ2 H2 => wipe σ2 vs = wipe σ vs ∧ tt σ2 H2 fun b H3 => if b = true then te σ2 H3 fun y H4 => Yield D (Pv D (i + 1)) y H4 else Pv D (i + 1) H3)
    (hd : ∀ D H', Pv D n H' → Q (.ref D) H') : LcR (Itr lo n) g tt te vs Q σ H := fun D hD =>
  lc_range (Pv D) (h0 D _ hD (ex_new hD) upd_same) (hs D) (hd D)
theorem r_yes {QT : Bool → Hp → Prop} (q : QT true H) : tYes σ H QT := q
end
/-! ### texts -/
section
variable {X : Cx} {to te : TE}
def tEndsW (to te : TE) : TE := tM1 (fun x xs H Q => ∃ a b, x = .str a ∧ xs = [.str b] ∧ Q (.bl (Txt.endswith a b)) H) to te
theorem pe_endsW {o e : Expr} {apos pos : Pos} (ho : PE X o to) (he : PE X e te) (hs : starEach [e] X.env = [(false, eval e X.env)] := by rfl) (hbase : attributeBase o "endswith" X.env (eval o X.env) = eval o X.env := by rfl) (hline : (apos.endLine == pos.line) = true := by rfl) :
    PE X (.Call (.Attribute o "endswith" apos) [e] [] pos) (tEndsW to te) := pe_m1 PySem.F.slot_str_endswith PySem.F.type_str_endswith mt_endswith ho he hs hbase hline
theorem r_endsW {σ : L2.St} {H : Hp} {Q : VK} (h : to σ H fun x H1 => (∃ a, x = .str a) ∧ te σ H1 fun y H2 => ∃ a b, x = .str a ∧ [y] = [V.str b] ∧ Q (.bl (Txt.endswith a b)) H2) : tEndsW to te σ H Q := h
def tSplit (to te : TE) : TE := tM1 (fun x xs H Q => ∃ a b, x = .str a ∧ xs = [.str b] ∧ (b.length == 0) = false ∧ a.length + 2 ≤ sizeLine ∧ rNewStrs (Txt.split a b) H Q) to te
theorem pe_spl {o e : Expr} {apos pos : Pos} (ho : PE X o to) (he : PE X e te) (hs : starEach [e] X.env = [(false, eval e X.env)] := by rfl) (hbase : attributeBase o "split" X.env (eval o X.env) = eval o X.env := by rfl) (hline : (apos.endLine == pos.line) = true := by rfl) :
    PE X (.Call (.Attribute o "split" apos) [e] [] pos) (tSplit to te) := pe_split ho he hs hbase hline
theorem r_split {σ : L2.St} {H : Hp} {Q : VK} (h : to σ H fun x H1 => (∃ a, x = .str a) ∧ te σ H1 fun y H2 => ∃ a b, x = .str a ∧ [y] = [V.str b] ∧ (b.length == 0) = false ∧ a.length + 2 ≤ sizeLine ∧ rNewStrs (Txt.split a b) H2 Q) : tSplit to te σ H Q := h
theorem r_newStrs {ys : List Str} {H : Hp} {Q : VK} (q : ∀ p H2, H p = none → Same H H2 → H2 p = some (.lst (ys.map V.str)) → Q (.ref p) H2) : rNewStrs ys H Q := fun p hp => q p _ hp (ex_new hp) upd_same
def tJoin (K : PySem.W.Frag) (to te : TE) : TE := tM1 (fun x xs H Q => ∃ a p, ∃ ys : List Str, x = .str a ∧ xs = [.ref p] ∧ (SqL K H p (ys.map V.str) ∨ SqT K H p (ys.map V.str)) ∧ (ys.map (·.length)).sum + ys.length * a.length ≤ 16777216 ∧ Q (.str (Txt.join a ys)) H) to te
theorem pe_joi {o e : Expr} {apos pos : Pos} (ho : PE X o to) (he : PE X e te) (hs : starEach [e] X.env = [(false, eval e X.env)] := by rfl) (hbase : attributeBase o "join" X.env (eval o X.env) = eval o X.env := by rfl) (hline : (apos.endLine == pos.line) = true := by rfl) :
    PE X (.Call (.Attribute o "join" apos) [e] [] pos) (tJoin X.K to te) := pe_join ho he hs hbase hline
theorem r_join {K : PySem.W.Frag} {σ : L2.St} {H : Hp} {Q : VK} (h : to σ H fun x H1 => (∃ a, x = .str a) ∧ te σ H1 fun y H2 => ∃ a p, ∃ ys : List Str, x = .str a ∧ [y] = [V.ref p] ∧ (SqL K H2 p (ys.map V.str) ∨ SqT K H2 p (ys.map V.str)) ∧ (ys.map (·.length)).sum + ys.length * a.length ≤ 16777216 ∧ Q (.str (Txt.join a ys)) H2) : tJoin K to te σ H Q := h
def tAscii (K : PySem.W.Frag) (to : TE) : TE := tBM0 K "str" (fun x xs H Q => ∃ a, x = .str a ∧ xs = [] ∧ True ∧ Q (.bl (Txt.isascii a)) H) to
theorem pe_ascii {o : Expr} {apos pos : Pos} (ho : PE X o to) (hbase : attributeBase o "isascii" X.env (eval o X.env) = eval o X.env := by rfl) (hline : (apos.endLine == pos.line) = true := by rfl) :
    PE X (.Call (.Attribute o "isascii" apos) [] [] pos) (tAscii X.K to) := pe_bm0 PySem.F.plainAttrs_str PySem.F.slot_str_isascii PySem.F.type_str_isascii mt_isascii ho hbase hline
def AscR (K : PySem.W.Frag) (x : V) (H : Hp) (Q : VK) : Prop := tyV K "str" x H ∧ ∃ a, x = .str a ∧ ([] : List V) = [] ∧ True ∧ Q (.bl (Txt.isascii a)) H
theorem r_asc {K : PySem.W.Frag} {σ : L2.St} {H : Hp} {Q : VK} (h : to σ H fun x H1 => AscR K x H1 Q) : tAscii K to σ H Q := h
theorem r_asc1 {K : PySem.W.Frag} {H : Hp} {Q : VK} {z : Str} (q : Q (.bl (Txt.isascii z)) H) : AscR K (.str z) H Q := ⟨rfl, z, rfl, rfl, trivial, q⟩
def RevR (K : PySem.W.Frag) (x : V) (H : Hp) (Q : VK) : Prop := ∃ a xs, x = .ref a ∧ SqL K H a xs ∧ ∀ p, H p = none → Q (.ref p) (upd H p (.lst xs.reverse))
theorem r_revL {K : PySem.W.Frag} {σ : L2.St} {H : Hp} {Q : VK} (h : te σ H fun x H1 => RevR K x H1 Q) : tRevL K te σ H Q := h
theorem r_revL1 {K : PySem.W.Frag} {H : Hp} {Q : VK} {a : Addr} {xs : List V} (hx : SqL K H a xs) (q : ∀ p H2, H p = none → Same H H2 → H2 p = some (.lst xs.reverse) → Q (.ref p) H2) : RevR K (.ref a) H Q := ⟨a, xs, rfl, hx, fun p hp => q p _ hp (ex_new hp) upd_same⟩
end
theorem r_isiBt {K : PySem.W.Frag} {H : Hp} {Q : VK} {b : Bool} {T : String} (h : kitB "bool" T = some true) (q : Q (.bl true) H) : rIsi K [.bl b, .ty T] H Q := r_isiB h q
theorem r_isiBf {K : PySem.W.Frag} {H : Hp} {Q : VK} {b : Bool} {T : String} (h : kitB "bool" T = some false) (q : Q (.bl false) H) : rIsi K [.bl b, .ty T] H Q := r_isiB h q
theorem r_isiIt {K : PySem.W.Frag} {H : Hp} {Q : VK} {b : Int} {T : String} (h : kitB "int" T = some true) (q : Q (.bl true) H) : rIsi K [.int b, .ty T] H Q := r_isiI h q
theorem r_isiIf {K : PySem.W.Frag} {H : Hp} {Q : VK} {b : Int} {T : String} (h : kitB "int" T = some false) (q : Q (.bl false) H) : rIsi K [.int b, .ty T] H Q := r_isiI h q
theorem r_isiSt {K : PySem.W.Frag} {H : Hp} {Q : VK} {b : Str} {T : String} (h : kitB "str" T = some true) (q : Q (.bl true) H) : rIsi K [.str b, .ty T] H Q := r_isiS h q
theorem r_isiSf {K : PySem.W.Frag} {H : Hp} {Q : VK} {b : Str} {T : String} (h : kitB "str" T = some false) (q : Q (.bl false) H) : rIsi K [.str b, .ty T] H Q := r_isiS h q
theorem r_isiTt {K : PySem.W.Frag} {H : Hp} {Q : VK} {a : Addr} {xs : List V} {T : String} (hx : SqT K H a xs) (h : kitB "tuple" T = some true) (q : Q (.bl true) H) : rIsi K [.ref a, .ty T] H Q := r_isiT hx h q
theorem r_isiTf {K : PySem.W.Frag} {H : Hp} {Q : VK} {a : Addr} {xs : List V} {T : String} (hx : SqT K H a xs) (h : kitB "tuple" T = some false) (q : Q (.bl false) H) : rIsi K [.ref a, .ty T] H Q := r_isiT hx h q
theorem r_strAnd {z : Str} {A : Prop} (h : A) : (∃ a, V.str z = .str a) ∧ A := ⟨⟨z, rfl⟩, h⟩
theorem dp_tup {K : PySem.W.Frag} {H : Hp} {a : Addr} {zs : List Str} (h : SqT K H a (zs.map V.str)) : Dp K H (.ref a) (.tuple (zs.map PyData.str)) := dp_strs h
theorem pure_strs {zs : List Str} (hl : zs.length ≤ 10000) (h : ∀ z ∈ zs, Asc z) : pureD (.tuple (zs.map PyData.str)) = true := by
  simp only [pureD, List.length_map, decide_eq_true hl, Bool.true_and]
  refine (pureAll_iff _).mpr fun x hx => ?_
  obtain ⟨z, hz, rfl⟩ := List.mem_map.mp hx
  simp only [pureD]
  exact (h z hz).ok
theorem pure_str {z : Str} (h : Asc z) : pureD (.str z) = true := by
  simp only [pureD]
  exact h.ok
theorem eqv_strs (xs ys : List Str) : PyData.eqv (.tuple (xs.map PyData.str)) (.tuple (ys.map PyData.str)) = decide (xs = ys) := by
  simp only [PyData.eqv]
  exact eqvAll_strs xs ys
theorem depth_tup (zs : List Str) : (PyData.tuple (zs.map PyData.str)).depth = 1 := by simp [PyData.depth, depth_strs zs]
/-- _law_same of two names, of two texts -/
theorem r_same_strs {K : PySem.W.Frag} {H : Hp} {Q : VK} {a b : Addr} {xs ys : List Str} {n : Nat} (h1 : SqT K H a (xs.map V.str)) (h2 : SqT K H b (ys.map V.str)) (o1 : ∀ z ∈ xs, Asc z) (o2 : ∀ z ∈ ys, Asc z) (l1 : xs.length ≤ 10000) (l2 : ys.length ≤ 10000)
    (q : Q (.bl (decide (xs = ys))) H) : spSame K (n + 2) [.ref a, .ref b] H Q E0 :=
  ⟨_, _, _, _, rfl, dp_tup h1, dp_tup h2, pure_strs l1 o1, pure_strs l2 o2, by rw [depth_tup]; omega, by rw [eqv_strs]; exact q⟩
theorem r_same_str {K : PySem.W.Frag} {H : Hp} {Q : VK} {x y : Str} {n : Nat} (o1 : Asc x) (o2 : Asc y) (q : Q (.bl (decide (x = y))) H) : spSame K (n + 1) [.str x, .str y] H Q E0 :=
  ⟨_, _, _, _, rfl, .str x, .str y, pure_str o1, pure_str o2, by simp [PyData.depth], by
    have e : PyData.eqv (.str x) (.str y) = decide (x = y) := by
      simp only [PyData.eqv]
      by_cases h : x = y <;> simp [h]
    rw [e]; exact q⟩
theorem r_two {x y : Str} {P : Str → Str → Prop} (h : P x y) : ∃ a b, V.str x = .str a ∧ [V.str y] = [V.str b] ∧ P a b := ⟨x, y, rfl, rfl, h⟩
theorem same_but {H H1 H2 : Hp} {p : Addr} (e : Same H H1) (b : But p H1 H2) (n : H p = none) : Same H H2 := fun c o hc => b c o (ne_of_none hc n) (e c o hc)
theorem same_src {H H1 H2 : Hp} {b : Addr} (e : Same H H1) (n : H b = none) (d : But b H1 H2) : Same H H2 := fun c o hc => d c o (ne_of_none hc n) (e c o hc)
theorem get_last {α : Type} (xs : List α) (x : α) : (xs ++ [x])[xs.length]? = some x := by simp
end My

set_option Elab.async false
set_option linter.all false
set_option maxRecDepth 100000
set_option maxHeartbeats 4000000
namespace My
open PySem PySem.Spec PyProof.Rows L2
open C8 (tCut pss_cut)
theorem take_mem {α : Type} {xs : List α} {P : α → Prop} {i : Nat} {c : α} (hi : xs[i]? = some c) (h : ∀ x ∈ xs.take i, P x) (hc : P c) : ∀ x ∈ xs.take (i + 1), P x := by
  intro x hx
  rw [List.take_add_one, hi] at hx
  rcases List.mem_append.mp hx with hx | hx
  · exact h x hx
  · have : x = c := by simpa using hx
    rw [this]; exact hc
def CH : Str := "abcdefghijklmnopqrstuvwxyz0123456789-"
def plainB (z : Str) : Bool := decide (1 ≤ z.length ∧ z.length ≤ 20) && z.cps.toList.all (fun c => decide (c ∈ CH.cps.toList))
def wildB (xs : List Str) : Bool := decide (xs.drop (xs.length - 1) = [("*" : Str)])
def nameB (xs : List Str) : Bool := decide (xs.length ≤ 12) && (if wildB xs then xs.dropLast else xs).all plainB
theorem wild_iff (xs : List Str) : wildB xs = true ↔ 1 ≤ xs.length ∧ xs[xs.length - 1]? = some "*" := by
  unfold wildB
  rw [decide_eq_true_iff]
  by_cases h : 1 ≤ xs.length
  · have hl : xs.length - 1 < xs.length := by omega
    rw [List.drop_eq_getElem_cons hl, List.drop_of_length_le (by omega), List.getElem?_eq_getElem hl]
    constructor
    · intro e; exact ⟨h, congrArg some (List.cons.inj e).1⟩
    · intro e; rw [Option.some.inj e.2]
  · have : xs = [] := List.eq_nil_of_length_eq_zero (by omega)
    subst this
    constructor
    · intro e; cases e
    · intro e; exact absurd e.1 h
theorem name_no {xs : List Str} {i : Nat} {y : Str} (hy : xs[i]? = some y) (hp : plainB y = false) (hn : ¬ (i = xs.length - 1 ∧ y = "*")) : nameB xs = false := by
  unfold nameB
  rw [Bool.and_eq_false_iff]
  refine .inr (List.all_eq_false.mpr ⟨y, ?_, by rw [hp]; decide⟩)
  split
  · rename_i hw
    have hw := (wild_iff xs).mp hw
    have hi := (List.getElem?_eq_some_iff.mp hy).1
    have hne : i ≠ xs.length - 1 := by
      rintro rfl
      rw [hw.2] at hy
      exact hn ⟨rfl, (Option.some.inj hy).symm⟩
    refine List.mem_of_getElem? (i := i) ?_
    rw [List.getElem?_dropLast, if_pos (by omega)]
    exact hy
  · exact List.mem_of_getElem? hy
theorem name_yes {xs : List Str} (hl : xs.length ≤ 12) (h : ∀ (i : Nat) (y : Str), xs[i]? = some y → plainB y = true ∨ (i = xs.length - 1 ∧ y = "*")) : nameB xs = true := by
  unfold nameB
  rw [Bool.and_eq_true]
  refine ⟨decide_eq_true hl, List.all_eq_true.mpr fun y hy => ?_⟩
  split at hy
  · obtain ⟨i, hi⟩ := List.mem_iff_getElem?.mp hy
    rw [List.getElem?_dropLast] at hi
    split at hi
    · rename_i hlt
      exact (h i y hi).resolve_right (by omega)
    · cases hi
  · rename_i hw
    obtain ⟨i, hi⟩ := List.mem_iff_getElem?.mp hy
    rcases h i y hi with h | ⟨rfl, rfl⟩
    · exact h
    · exact absurd ((wild_iff xs).mpr ⟨by have := (List.getElem?_eq_some_iff.mp hi).1; omega, hi⟩) hw

theorem plain_iff {z : Str} : plainB z = true ↔ (1 ≤ z.length ∧ z.length ≤ 20) ∧ ∀ c ∈ z.cps.toList, c ∈ CH.cps.toList := by
  unfold plainB
  rw [Bool.and_eq_true, decide_eq_true_iff, List.all_eq_true]
  simp
theorem CH_fact : ∀ c ∈ CH.cps.toList, c < 128 ∧ c ≠ 46 ∧ c ≠ 42 ∧ lo1 c = c := by decide +kernel
theorem plain_asc {z : Str} (h : plainB z = true) : Asc z := fun c hc => (CH_fact c ((plain_iff.mp h).2 c hc)).1
theorem name_len {zs : List Str} (h : nameB zs = true) : zs.length ≤ 12 := by
  unfold nameB at h
  rw [Bool.and_eq_true, decide_eq_true_iff] at h
  exact h.1
theorem name_mem {zs : List Str} (h : nameB zs = true) {z : Str} (hz : z ∈ zs) : plainB z = true ∨ z = "*" := by
  cases hp : plainB z with
  | true => exact .inl rfl
  | false =>
    obtain ⟨i, hi⟩ := List.mem_iff_getElem?.mp hz
    by_cases e : i = zs.length - 1 ∧ z = "*"
    · exact .inr e.2
    · rw [name_no hi hp e] at h
      cases h
theorem lab_fact {z : Str} (h : plainB z = true ∨ z = "*") : (1 ≤ z.length ∧ z.length ≤ 20) ∧ ∀ c ∈ z.cps.toList, c < 128 ∧ c ≠ 46 ∧ lo1 c = c := by
  rcases h with h | rfl
  · exact ⟨(plain_iff.mp h).1, fun c hc => by have := CH_fact c ((plain_iff.mp h).2 c hc); exact ⟨this.1, this.2.1, this.2.2.2⟩⟩
  · decide +kernel
theorem name_asc {zs : List Str} (h : nameB zs = true) {z : Str} (hz : z ∈ zs) : z.length ≤ 20 ∧ Asc z :=
  ⟨(lab_fact (name_mem h hz)).1.2, fun c hc => ((lab_fact (name_mem h hz)).2 c hc).1⟩
/-! ### the written form -/
def dotted (zs : List Str) : List Nat := (zs.reverse.map fun z => z.cps.toList ++ [46]).flatten
def written (zs : List Str) : Str := if zs = [] then "." else ⟨(dotted zs).toArray⟩
theorem dotted_snoc (zs : List Str) (z : Str) : dotted (zs ++ [z]) = z.cps.toList ++ [46] ++ dotted zs := by
  unfold dotted
  rw [List.reverse_append, List.reverse_singleton, List.singleton_append, List.map_cons, List.flatten_cons]
theorem join_dots : ∀ ps : List (List Nat), ps ≠ [] → (ps.map fun p => p ++ [46]).flatten = TL.joinL [46] ps ++ [46]
  | [], h => absurd rfl h
  | [p], _ => by simp [TL.joinL]
  | p :: q :: r, _ => by
    have ih := join_dots (q :: r) (by simp)
    rw [List.map_cons, List.flatten_cons, ih]
    show p ++ [46] ++ (TL.joinL [46] (q :: r) ++ [46]) = p ++ ([46] ++ TL.joinL [46] (q :: r)) ++ [46]
    simp
theorem dotted_join {zs : List Str} (h : zs ≠ []) : dotted zs = TL.joinL [46] (zs.reverse.map TL.tl) ++ [46] := by
  unfold dotted
  rw [← join_dots _ (by simpa using h), List.map_map]
  rfl
def lowS (t : Str) : Str := ⟨t.cps.map lo1⟩
theorem low_eq {t : Str} (h : Asc t) : Txt.lower t = lowS t := lower_ascii h
theorem split_dots {zs : List Str} (h : zs ≠ []) (hd : ∀ z ∈ zs, 46 ∉ z.cps.toList) {x : Str} (hx : x.cps.toList = TL.joinL [46] (zs.reverse.map TL.tl)) : Txt.split x "." = zs.reverse := by
  have e : x = Txt.join "." zs.reverse := by
    rw [TL.join_eq]
    exact TL.ext_tl (by rw [TL.tl_join]; exact hx)
  rw [e]
  exact TL.split_join (s := 46) (S := []) (by decide +kernel) (by decide +kernel) (by simpa using h) fun p hp => hd p (by simpa using hp)
theorem joinL_nil : ∀ ps : List (List Nat), TL.joinL [] ps = ps.flatten
  | [] => rfl
  | [p] => by simp [TL.joinL]
  | p :: q :: r => by
    have ih := joinL_nil (q :: r)
    show p ++ ([] ++ TL.joinL [] (q :: r)) = _
    rw [ih]
    simp
theorem dotted_mem {zs : List Str} {c : Nat} (h : c ∈ dotted zs) : c = 46 ∨ ∃ z ∈ zs, c ∈ z.cps.toList := by
  unfold dotted at h
  obtain ⟨l, hl, hc⟩ := List.mem_flatten.mp h
  obtain ⟨z, hz, rfl⟩ := List.mem_map.mp hl
  rcases List.mem_append.mp hc with hc | hc
  · exact .inr ⟨z, by simpa using hz, hc⟩
  · exact .inl (by simpa using hc)
theorem dotted_len (n : Nat) : ∀ zs : List Str, (∀ z ∈ zs, z.length ≤ n) → (dotted zs).length ≤ zs.length * (n + 1) := by
  intro zs h
  unfold dotted
  have key : ∀ l : List Str, (∀ z ∈ l, z.length ≤ n) → ((l.map fun z => z.cps.toList ++ [46]).flatten).length ≤ l.length * (n + 1) := by
    intro l
    induction l with
    | nil => simp
    | cons z l ih =>
      intro h
      have h1 := h z List.mem_cons_self
      have h2 := ih fun y hy => h y (List.mem_cons_of_mem _ hy)
      have e := len_list z
      have e2 : (l.length + 1) * (n + 1) = l.length * (n + 1) + (n + 1) := Nat.succ_mul _ _
      rw [List.map_cons, List.flatten_cons, List.length_append, List.length_append]
      simp only [List.length_cons, List.length_nil]
      rw [e2]
      omega
  have := key zs.reverse (by simpa using h)
  simpa using this
theorem written_cps {zs : List Str} (h : zs ≠ []) : (written zs).cps.toList = dotted zs := by
  unfold written
  rw [if_neg h]
theorem written_mem {zs : List Str} (hn : nameB zs = true) {c : Nat} (h : c ∈ (written zs).cps.toList) : c < 128 ∧ lo1 c = c := by
  by_cases e : zs = []
  · subst e
    have key : ∀ c ∈ (written []).cps.toList, c < 128 ∧ lo1 c = c := by decide +kernel
    exact key c h
  · rw [written_cps e] at h
    rcases dotted_mem h with rfl | ⟨z, hz, hc⟩
    · decide
    · have := (lab_fact (name_mem hn hz)).2 c hc
      exact ⟨this.1, this.2.2⟩
theorem written_asc {zs : List Str} (hn : nameB zs = true) : Asc (written zs) := fun c h => (written_mem hn h).1
theorem low_written {zs : List Str} (hn : nameB zs = true) : lowS (written zs) = written zs := by
  refine TL.ext_tl ?_
  show ((written zs).cps.map lo1).toList = (written zs).cps.toList
  rw [Array.toList_map]
  conv => rhs; rw [← List.map_id (written zs).cps.toList]
  exact List.map_congr_left fun c hc => (written_mem hn hc).2
theorem written_len {zs : List Str} (hn : nameB zs = true) : (written zs).length ≤ 300 := by
  by_cases e : zs = []
  · subst e; decide +kernel
  · rw [← len_list, written_cps e]
    have h1 := dotted_len 20 zs fun z hz => (name_asc hn hz).1
    have h2 := name_len hn
    omega
theorem dotted_pos {zs : List Str} (hn : nameB zs = true) (e : zs ≠ []) : 2 ≤ (dotted zs).length := by
  obtain ⟨z, r, rfl⟩ := List.exists_cons_of_ne_nil e
  rcases List.eq_nil_or_concat (z :: r) with h | ⟨l, y, h⟩
  · cases h
  · rw [h, List.concat_eq_append, dotted_snoc]
    have hy := (lab_fact (name_mem hn (z := y) (by rw [h]; simp))).1.1
    have := len_list y
    rw [List.length_append, List.length_append]
    simp only [List.length_singleton]
    omega
theorem low_len {t : Str} : (lowS t).length = t.length := by simp [lowS, Str.length]
theorem low_cps (t : Str) : (lowS t).cps.toList = t.cps.toList.map lo1 := by
  show (t.cps.map lo1).toList = _
  rw [Array.toList_map]
theorem lo1_dot {c : Nat} (h : lo1 c = 46) : c = 46 := by
  unfold lo1 at h
  split at h <;> omega
/-- a text whose small form is the written form of a name is that name's, in capitals here and there -/
theorem low_root {t : Str} {zs : List Str} (hn : nameB zs = true) (h : lowS t = written zs) : t = "." ↔ zs = [] := by
  constructor
  · rintro rfl
    by_cases e : zs = []
    · exact e
    · have h2 := dotted_pos hn e
      rw [← written_cps e, ← h] at h2
      exact absurd h2 (by decide +kernel)
  · rintro rfl
    have h1 : t.cps.toList.map lo1 = [46] := by
      rw [← low_cps, h]; decide +kernel
    have h2 : t.cps.toList = [46] := by
      cases hc : t.cps.toList with
      | nil => rw [hc] at h1; cases h1
      | cons c r =>
        rw [hc] at h1
        cases r with
        | nil =>
          have : lo1 c = 46 := by simpa using h1
          rw [lo1_dot this]
        | cons d r => simp at h1
    exact TL.ext_tl (by show t.cps.toList = _; rw [h2]; decide +kernel)
theorem low_last {t : Str} {zs : List Str} (h : lowS t = written zs) (e : zs ≠ []) : ∃ l, t.cps.toList = l ++ [46] ∧ l.map lo1 = TL.joinL [46] (zs.reverse.map TL.tl) := by
  have h1 : t.cps.toList.map lo1 = TL.joinL [46] (zs.reverse.map TL.tl) ++ [46] := by
    rw [← low_cps, h, written_cps e, dotted_join e]
  rcases List.eq_nil_or_concat t.cps.toList with h2 | ⟨l, c, h2⟩
  · rw [h2] at h1; simp at h1
  · rw [List.concat_eq_append] at h2
    rw [h2, List.map_append] at h1
    have h3 := List.append_inj' h1 rfl
    have h4 : lo1 c = 46 := by simpa using h3.2
    rw [lo1_dot h4] at h2
    exact ⟨l, h2, h3.1⟩
theorem written_nil : written [] = "." := by decide +kernel
theorem isascii_of {t : Str} (h : Asc t) : Txt.isascii t = true := by
  unfold Txt.isascii
  rw [← Array.all_toList, List.all_eq_true]
  exact fun c hc => decide_eq_true (h c hc)
theorem ends_dot {t : Str} : Txt.endswith t "." = true ↔ ∃ l, t.cps.toList = l ++ [46] := by
  have e : ("." : Str) = ⟨#[46]⟩ := by decide +kernel
  have el := len_list t
  have h := StrLaws.subAt_one t 46 (t.length - 1)
  unfold Txt.endswith
  rw [e, Bool.and_eq_true, decide_eq_true_iff]
  show 0 + 1 ≤ t.length ∧ Builtin.Str.subAt t ⟨#[46]⟩ (t.length - 1) = true ↔ _
  constructor
  · rintro ⟨h1, h2⟩
    have h3 := h.mp ⟨by show t.length - 1 + 1 ≤ t.length; omega, h2⟩
    refine ⟨t.cps.toList.dropLast, ?_⟩
    rcases List.eq_nil_or_concat t.cps.toList with h4 | ⟨l, c, h4⟩
    · rw [h4] at h3; simp at h3
    · rw [List.concat_eq_append] at h4
      rw [h4] at h3 el ⊢
      rw [List.length_append, List.length_singleton] at el
      rw [← el, Nat.add_sub_cancel, List.getElem?_append_right (Nat.le_refl _), Nat.sub_self] at h3
      have : c = 46 := by simpa using h3
      rw [this, List.dropLast_concat]
  · rintro ⟨l, hl⟩
    rw [hl, List.length_append, List.length_singleton] at el
    refine ⟨by omega, (h.mpr ?_).2⟩
    rw [hl, ← el, Nat.add_sub_cancel, List.getElem?_append_right (Nat.le_refl _), Nat.sub_self]
    rfl
theorem sIx_last (n d : Nat) : HT.sIx n d (some (-1)) = n - 1 := by
  show (if (-1 : Int) < 0 then ((-1 : Int) + (n : Int)).toNat else min (-1 : Int).toNat n) = _
  rw [if_pos (by decide)]; omega
theorem cut_last {t : Str} {l : List Nat} {c : Nat} (h : t.cps.toList = l ++ [c]) : (cutS t none (some (-1))).cps.toList = l := by
  have el := len_list t
  rw [h, List.length_append, List.length_singleton] at el
  unfold cutS
  rw [sIx_last]
  show (t.cps.toList.drop 0).take (t.length - 1 - 0) = l
  rw [h, List.drop_zero, ← el]
  simp
theorem sum_len (n : Nat) : ∀ ys : List Str, (∀ y ∈ ys, y.length ≤ n) → (ys.map (·.length)).sum ≤ ys.length * n
  | [], _ => by simp
  | y :: ys, h => by
    have h1 := h y List.mem_cons_self
    have h2 := sum_len n ys fun z hz => h z (List.mem_cons_of_mem _ hz)
    have e : (ys.length + 1) * n = ys.length * n + n := Nat.succ_mul _ _
    rw [List.map_cons, List.sum_cons, List.length_cons, e]
    omega
end My

set_option Elab.async false
set_option linter.all false
set_option maxRecDepth 100000
set_option maxHeartbeats 4000000
namespace My
open PySem PySem.Spec PyProof.Rows L2
open C8 (tCut pss_cut)
/-! ### the rules with K told -/
section
variable {X : Cx} {K : PySem.W.Frag} {a b : Expr} {ta tb te : TE} {pos : Pos}
theorem pe_kix {r : PySem.W.Frag → R2} (hK : X.K = K) (h : IxR X (r X.K)) (ha : PE X a ta) (hb : PE X b tb) (hs : PlainIx b) : PE X (.Subscript a b pos) (tOp (r K) ta tb) := hK ▸ pe_ix h ha hb hs
end
/-! ### defs that may raise -/
def FnX (P : Program) (w : World) (K : PySem.W.Frag) (mg : Str → Option Value) (base : Heap) (k : Nat) (x : Str) (ps : List Str) (sp : Sp) : Prop :=
  ∃ f fd, mg x = some (.ref f) ∧ PySem.W.keepIn K (.ref f) = true ∧ Binds K fd ps [] ∧ FnOk P w K mg base (L2.CX P w) k f fd ps sp
section
variable {P : Program} {w : World} {K : PySem.W.Frag} {mg : Str → Option Value} {base : Heap}
theorem Def1.okX {x : Str} {ps N : List Str} {st : Stmt} {k : Nat} {sp : Sp} (d : Def1 K mg x ps st) (S : FnScope N ps (defScope st)) (len : ∀ vs H Q E, sp vs H Q E → vs.length = ps.length)
    (hbody : ∀ (f : Addr) (cdv : Value) (A : Around) (outer : List Env) (s : Shared) (H : Hp) (vs : List V) (Q : VK) (E : XK), Room k (A.deeper (envOfC x (defScope st) s.heap.objs.size f cdv)) → sp vs H Q E →
      ∃ t, PSs (cxOf (L2.CX P w) P w K mg base N x (defScope st) f cdv A outer s H E) (defBody st) t ∧ t { nx := fun _ H' => Q .non H', rt := Q } (start N vs) H) : FnX P w K mg base (k + 1) x ps sp := by
  obtain ⟨f, fd, hm, F, b⟩ := d
  exact ⟨f, fd, hm, F.kp, b, F.okX S len (hbody f)⟩
theorem cx_K {CX : CXT} {N : List Str} {q : Str} {sc : Scope} {f : Addr} {cdv : Value} {A : Around} {outer : List Env} {s : Shared} {H : Hp} {E : XK} : (cxOf CX P w K mg base N q sc f cdv A outer s H E).K = K := rfl
end
section
variable {X : Cx} {k : Nat} {x : Str} {ps : List Str} {sp : Sp}
/-- a call of such a def: W is what is wished of an error at the slots -/
def tFnS (sp : Sp) (W : WX) (t : TA) : TE := fun σ H Q => t σ H fun vs H1 => sp vs H1 Q (WE W σ)
theorem pe_fnS {e : Expr} {es : List Expr} {t : TA} {p pos : Pos} {W : WX} (G : FnX X.prog X.w X.K X.mg X.base k x ps sp) (hr : Room k X.A) (hg : Gl X x) (tk : Takes X W) (ha : PA X (e :: es) t) (hdb : (x == ("__debug__" : Str)) = false := by decide)
    (he : starEach (e :: es) X.env = (false, eval e X.env) :: starEach es X.env := by rfl) (hpl : (backTo pos (starEach es X.env)).any (·.1) = false := by rfl) : PE X (.Call (.Name x p) (e :: es) [] pos) (tFnS sp W t) := by
  obtain ⟨f, fd, hm, hk, hb, F⟩ := G
  exact pe_callS (p := p) F hr hg hm hk hb (fun σ => passAt tk σ) ha hdb he hpl
theorem passE0 : Passes (L2.CX X.prog X.w) X E0 := fun _ _ _ _ _ _ _ c => by
  obtain ⟨_, _, _, _, _, _, _, _, _, _, _, _, z⟩ := c
  exact z.elim
/-- a call where nothing is raised -/
theorem pe_fnX {e : Expr} {es : List Expr} {t : TA} {p pos : Pos} (G : FnX X.prog X.w X.K X.mg X.base k x ps sp) (hr : Room k X.A) (hg : Gl X x) (ha : PA X (e :: es) t) (hdb : (x == ("__debug__" : Str)) = false := by decide)
    (he : starEach (e :: es) X.env = (false, eval e X.env) :: starEach es X.env := by rfl) (hpl : (backTo pos (starEach es X.env)).any (·.1) = false := by rfl) : PE X (.Call (.Name x p) (e :: es) [] pos) (tFn sp t) := by
  obtain ⟨f, fd, hm, hk, hb, F⟩ := G
  have h := pe_call (p := p) F hr hg hm hk hb .nil (E := E0) passE0 ha hdb he hpl
  refine ⟨fun pins s σ H Q I q => h.run pins s σ H Q I ?_⟩
  unfold tCall
  simp only [List.append_nil]
  exact q
def tRaise (C : Addr) (W : WX) (t : TA) : TS := fun _ σ H => t σ H fun vs H1 => vs.length ≤ sizeLine ∧ W (.ref C) none σ H1
theorem ps_rai {C : Addr} {W : WX} {e : Expr} {es : List Expr} {t : TA} {x : Str} {p pos pos' : Pos} (hc : X.calm = true) (tk : Takes X W) (q : PySem.W.excIn X.K C [.type "ValueError", .type "Exception", .type "BaseException", .type "object"] "ValueError.__new__" = true) (gC : X.mg x = some (.ref C))
    (kC : PySem.W.keepIn X.K (.ref C) = true) (b : PySem.W.subIn X.K (.ref C) (.type "BaseException") = some true) (ty : PySem.W.typeIn X.K (.ref C) = some (.type "type")) (hg : Gl X x) (ha : PA X (e :: es) t) (hdb : (x == ("__debug__" : Str)) = false := by decide)
    (he : starEach (e :: es) X.env = (false, eval e X.env) :: starEach es X.env := by rfl) (hpl : (backTo pos (starEach es X.env)).any (·.1) = false := by rfl) : PS X (.Raise (some (.Call (.Name x p) (e :: es) [] pos)) none pos') (tRaise C W t) :=
  ps_raise hc tk (pmk_ownA PySem.F.excBase_ValueError q gC kC (raises_own b ty) hg ha hdb he hpl)
/-- isinstance of the error that a suite holds -/
def rIsX (K : PySem.W.Frag) (a : Addr) (cls : Value) (d : Option Addr) : List V → Hp → VK → Prop := fun xs H Q => ∃ D, cls = .ref D ∧ d = none ∧ ExcC K D ∧ rIsE K D a xs H Q
theorem call_isX {a : Addr} {oe : Obj} {pn : List (Addr × Obj)} {cls : Value} {d : Option Addr} {K : PySem.W.Frag} (hK : X.K = K) (hz : Zc cls d oe) (hf : ∃ vs, oe.data = .fields vs) : CallR (X.suite a ((a, oe) :: pn)) (.builtin "isinstance") (rIsX K a cls d) := by
  subst hK
  intro pins s σ H xs us Q I r h
  obtain ⟨D, rfl, rfl, C, h⟩ := h
  exact call_isE C hz hf pins s σ H xs us Q I r h
end
section
variable {σ : L2.St} {H : Hp} {Q : VK} {K : PySem.W.Frag} {a c d : L2.St → Hp → Prop} {b : VK}
theorem r_fnS {sp : Sp} {W : WX} {t : TA} (h : t σ H fun vs H1 => sp vs H1 Q (WE W σ)) : tFnS sp W t σ H Q := h
theorem r_raise {C : Addr} {W : WX} {t : TA} {D : Ends} (h : t σ H fun vs H1 => vs.length ≤ sizeLine ∧ W (.ref C) none σ H1) : tRaise C W t D σ H := h
theorem r_lenAnd {xs : List V} {A : Prop} (hl : xs.length ≤ 1000) (h : A) : xs.length ≤ sizeLine ∧ A := ⟨Nat.le_trans hl (by decide), h⟩
theorem r_isX {ad D C : Addr} {r : Bool} (hC : ExcC K D) (h : PySem.W.kitOne K (.ref D) (.ref C) = some r) (q : Q (.bl r) H) : rIsX K ad (.ref D) none [.ref ad, .ref C] H Q := ⟨D, rfl, rfl, hC, .ref C, .ref C, r, rfl, fun _ h => h, h, q⟩
theorem r_isXb {ad D : Addr} {T : String} {r : Bool} (hC : ExcC K D) (h : PySem.W.kitOne K (.ref D) (.type T) = some r) (q : Q (.bl r) H) : rIsX K ad (.ref D) none [.ref ad, .ty T] H Q := ⟨D, rfl, rfl, hC, .ty T, .type T, r, rfl, fun _ h => h, h, q⟩
theorem r_fmt {te : TE} (h : te σ H fun x H1 => (∃ y : Str, x = .str y ∧ y.length ≤ sizeLine ∧ Q (.str y) H1) ∨ ∃ i : Int, x = .int i ∧ i.natAbs.log2 < 1920 ∧ Q (.str (toString i)) H1) : tFmt te σ H Q := h
/-- an f-string's text, left open -/
def tJoined (ts : List TE) : TE := fun σ H Q => tJs ts Str.empty σ H fun out H1 => Q (.str out) H1
theorem pe_joi2 {X : Cx} {v1 v2 : Expr} {rest : List Expr} {ts : List TE} {pos : Pos} (h : PJ X (v1 :: v2 :: rest) ts) : PE X (.JoinedStr (v1 :: v2 :: rest) pos) (tJoined ts) := pe_joined h
theorem r_jcons {t : TE} {ts : List TE} {acc : Str} {QJ : Str → Hp → Prop} (h : t σ H fun x H1 => ∃ y : Str, x = .str y ∧ (acc ++ y).length ≤ sizeLine ∧ tJs ts (acc ++ y) σ H1 QJ) : tJs (t :: ts) acc σ H QJ := h
theorem r_jnil {acc : Str} {QJ : Str → Hp → Prop} (h : QJ acc H) : tJs [] acc σ H QJ := h
theorem r_joined {ts : List TE} (h : tJs ts Str.empty σ H fun out H1 => Q (.str out) H1) : tJoined ts σ H Q := h
theorem r_fmtS {y : Str} {A B : Prop} (hz : y.length ≤ 100000) (h : A) : (∃ z : Str, V.str y = .str z ∧ z.length ≤ sizeLine ∧ (z = y → A)) ∨ B := .inl ⟨y, rfl, Nat.le_trans hz (by decide), fun _ => h⟩
/-- try .. except x as n -/
def tTryAs (K : PySem.W.Frag) (c : Value) (i : Nat) (tb : WX → TS) (ts : Addr → Value → Option Addr → TS) : TS := fun D σ H => tb (wAs K c i ts (fun _ _ _ _ => False) D) D σ H
theorem r_tryAs {cv : Value} {i : Nat} {tb : WX → TS} {ts : Addr → Value → Option Addr → TS} {D : Ends} (h : tb (wAs K cv i ts (fun _ _ _ _ => False) D) D σ H) : tTryAs K cv i tb ts D σ H := h
theorem w_as {cls cv : Value} {dd : Option Addr} {i : Nat} {ts : Addr → Value → Option Addr → TS} (h : PySem.W.exmOne K cls cv = some true) (k : ∀ x, H x = none → ts x cls dd ⟨fun σ' H' => a (σ'.set i none) H', b, fun σ' H' => c (σ'.set i none) H', fun σ' H' => d (σ'.set i none) H'⟩ (σ.set i (some (.ref x))) H) :
    wAs K cv i ts (fun _ _ _ _ => False) ⟨a, b, c, d⟩ cls dd σ H := ⟨true, h, fun _ => k, fun z => nomatch z⟩
end
theorem ps_tryAs {X : Cx} {K : PySem.W.Frag} {x n : Str} {c : Value} {i : Nat} {body suite : List Stmt} {b₀ : Stmt} {np pos pos' : Pos} {tb : WX → TS} {ts : Addr → Value → Option Addr → TS} (hK : X.K = K) (hs : X.stack = X.env :: X.outer) (hf : X.env.frame = some X.env.locals) (hN : X.N.Nodup) (hi : X.N[i]? = some n) (hln : X.env.kindOf n = some .local) (hc : Names X x c)
    (hb : ∀ (W : WX) (pn : List (Addr × Obj)) (xe : Value → Shared → Prop), Takes (X.tr pn xe) W → PSs (X.tr pn xe) body (tb W))
    (hsu : ∀ (a : Addr) (oe : Obj) (cls : Value) (d : Option Addr) (pn : List (Addr × Obj)), Zc cls d oe → (∃ vs, oe.data = .fields vs) → PSs (X.suite a ((a, oe) :: pn)) (b₀ :: suite) (ts a cls d)) :
    PS X (.Try body [.ExceptHandler (some (.Name x np)) (some n) (b₀ :: suite) pos'] [] [] pos) (tTryAs K c i tb ts) := by
  subst hK
  exact ps_try_as hs hf hN hi hln hc takes0 (fun W pn xe tk _ => hb W pn xe tk) hsu
section
variable {X : Cx}
def rIsNo : R2 := fun x y H Q => y = .non ∧ Q (.bl (decide (x = .non))) H
def rNotNo : R2 := fun x y H Q => y = .non ∧ Q (.bl (!decide (x = .non))) H
theorem oIsN : OpR X (compareOp .Is) rIsNo := op_isN
theorem oNotN : OpR X (compareOp .IsNot) rNotNo := op_notN
theorem r_isN {x : V} {H : Hp} {Q : VK} (q : Q (.bl (decide (x = .non))) H) : rIsNo x .non H Q := ⟨rfl, q⟩
theorem r_notN {x : V} {H : Hp} {Q : VK} (q : Q (.bl (!decide (x = .non))) H) : rNotNo x .non H Q := ⟨rfl, q⟩
theorem r_msgV {σ : L2.St} {H : Hp} {Q : VK} {s z : Str} {i : Nat} (hv : σ[i]? = some (some (.str z))) (h1 : s.length ≤ 1000) (h2 : z.length ≤ 100000) (q : ∀ out, Q (.str out) H) : tJoined [tC (.str s), tFmt (tVar i)] σ H Q := by
  refine ⟨s, rfl, ?_, .str z, hv, .inl ⟨z, rfl, Nat.le_trans h2 (by decide), z, rfl, ?_, q _⟩⟩
  · rw [len_app]
    show 0 + s.length ≤ sizeLine
    have : 1000 ≤ sizeLine := by decide
    omega
  · rw [len_app, len_app]
    show 0 + s.length + z.length ≤ sizeLine
    have : 101000 ≤ sizeLine := by decide
    omega
end
section
variable {X : Cx} {to te : TE}
def tFind (to te : TE) : TE := tM1 (fun x xs H Q => ∃ a b, x = .str a ∧ xs = [.str b] ∧ Q (.int (Txt.find a b)) H) to te
theorem pe_find {o e : Expr} {apos pos : Pos} (ho : PE X o to) (he : PE X e te) (hs : starEach [e] X.env = [(false, eval e X.env)] := by rfl) (hbase : attributeBase o "find" X.env (eval o X.env) = eval o X.env := by rfl) (hline : (apos.endLine == pos.line) = true := by rfl) :
    PE X (.Call (.Attribute o "find" apos) [e] [] pos) (tFind to te) := pe_m1 PySem.F.slot_str_find PySem.F.type_str_find mt_find ho he hs hbase hline
theorem r_find {σ : L2.St} {H : Hp} {Q : VK} (h : to σ H fun x H1 => (∃ a, x = .str a) ∧ te σ H1 fun y H2 => ∃ a b, x = .str a ∧ [y] = [V.str b] ∧ Q (.int (Txt.find a b)) H2) : tFind to te σ H Q := h
end
end My

set_option Elab.async false
set_option linter.all false
set_option maxRecDepth 100000
set_option maxHeartbeats 4000000
namespace My
open PySem PySem.Spec PyProof.Rows L2 GenW
/-! ### for in a generator's body -/
section
variable {M : Model} {A : Around} {R : GenEnd} {Y : Protocol} {n : Nat} {s₀ : Shared} {c : Code} {fs : List PySem.Frame} {s : Shared} {env : PySem.Env}
  {K : Flow → Sem PySem.Fin} {J : Value → Sem PySem.Fin} {gd : Bool → Bool} {lv : List Value → List Value}
theorem seg_For {target iter : Expr} {body orelse : List Stmt} {pos : Pos}
    (h : wpAny M (A.over c fs) (eval iter env) (fun x s1 => wpAny M (A.over c fs) (pyIter x) (fun it s2 => ∀ p, Seg M A R Y n s₀ (.forLoop target it body orelse env) (M.den (.forLoop target it body orelse env))
      (.ret (fun r => ((match r with | .ok f => (.pure f : Sem Flow) | .error e => .raise e).onRaise (cameBack env)).wrap K J gd lv) none (gd false) (lv []) c p [] :: fs) s2)
      (fun x s' => Seg M A R Y n s₀ c (J x) fs s') s1) (fun x s' => Seg M A R Y n s₀ c (J x) fs s') s)
    (hs : ∀ x, foldedSetIterable iter env x = pure x) :
    Seg M A R Y n s₀ c ((exec (.For target iter body orelse pos) env).wrap K J gd lv) fs s := by
  rw [exec_For]
  refine seg_bind_wrap (wpAny_standAt (seg_bind_wrap (wpAny_mono h (fun x s1 h1 => ?_) fun _ _ e => e)))
  refine seg_bind_wrap (wpAny_of_eq (hs x) (seg_bind_wrap (wpAny_standAt (seg_bind_wrap (wpAny_holding (wpAny_mono h1 (fun it s2 h2 => ?_) fun _ _ e => e))))))
  exact seg_call h2
end
section
variable {prog : Program} {w : World} {A : Around} {R : GenEnd} {Y : Protocol} {n : Nat} {s₀ : Shared} {fs : List PySem.Frame} {s : Shared} {env : PySem.Env}
theorem seg_forLoop {target : Expr} {it : Value} {body orelse : List Stmt} {C : Code} (hC : C = .forLoop target it body orelse env)
    (h : wpAny (model prog w) (A.over C fs) (pyNext it) (fun r s' => match r with
      | none => Seg (model prog w) A R Y n s₀ C (.pure (.again (.block orelse env))) fs s'
      | some v => wpAny (model prog w) (A.over C fs) (letOwnedTupleGo target it v) (fun _ s1 => wpAny (model prog w) (A.over C fs) (assign target env v) (fun _ s2 =>
          Seg (model prog w) A R Y n s₀ C ((execs body env).wrap (fun f => match f with
            | .next | .cont => .pure (.again C)
            | .brk => .pure (.done .next)
            | .ret v => .pure (.done (.ret v))) (fun e => (do noteFrame e env; theTreesLotGoes e : Sem Unit).wrap (fun _ => .raise e) .raise id id) id id) fs s2)
          (fun x s' => Seg (model prog w) A R Y n s₀ C ((do noteFrame x env; theTreesLotGoes x : Sem Unit).wrap (fun _ => .raise x) .raise id id) fs s') s1)
          (fun x s' => Seg (model prog w) A R Y n s₀ C ((do noteFrame x env; theTreesLotGoes x : Sem Unit).wrap (fun _ => .raise x) .raise id id) fs s') s')
      (fun x s' => Seg (model prog w) A R Y n s₀ C ((do noteFrame x env; theTreesLotGoes x : Sem Unit).wrap (fun _ => .raise x) .raise id id) fs s') s) :
    Seg (model prog w) A R Y n s₀ C ((model prog w).den C) fs s := by
  subst hC
  show Seg _ A R Y n s₀ _ ((forTurn target it body orelse env).onRaise (fun x => do noteFrame x env; theTreesLotGoes x)) fs s
  have eJ : (fun e => ((do noteFrame e env; theTreesLotGoes e : Sem Unit).bind fun _ => (.raise e : Sem PySem.Fin))) = fun e => (do noteFrame e env; theTreesLotGoes e : Sem Unit).wrap (fun _ => .raise e) .raise id id := by
    funext e; rw [Sem.bind_eq_wrap]
  unfold forTurn
  rw [Sem.onRaise_eq_wrap, eJ]
  refine seg_bind_wrap (wpAny_standAt (seg_bind_wrap (wpAny_onRaise (wpAny_mono h (fun r s' h' => ?_) fun _ _ h' => wpAny_standAt h'))))
  cases r with
  | none => exact h'
  | some v =>
    refine seg_bind_wrap (wpAny_mono h' (fun _ s1 h1 => ?_) fun _ _ e => e)
    refine seg_bind_wrap (wpAny_mono h1 (fun _ s2 h2 => ?_) fun _ _ e => e)
    rw [Sem.bind_eq_wrap', Sem.wrap_wrap]
    have ew : ∀ t, t = ((execs body env).wrap (fun f => match f with
            | .next | .cont => .pure (.again (.forLoop target it body orelse env))
            | .brk => .pure (.done .next)
            | .ret v => .pure (.done (.ret v))) (fun e => (do noteFrame e env; theTreesLotGoes e : Sem Unit).wrap (fun _ => .raise e) .raise id id) id id) → Seg (model prog w) A R Y n s₀ (.forLoop target it body orelse env) t fs s2 := fun t e => by rw [e]; exact h2
    exact ew _ (Sem.wrap_congr _ _ _ (fun f => by cases f <;> rfl) (fun e => rfl))
theorem seg_block_nil (h : Seg (model prog w) A R Y n s₀ (.block [] env) (.pure (.done .next)) fs s) {C : Code} : Seg (model prog w) A R Y n s₀ C (.pure (.again (.block [] env))) fs s := seg_again rfl h
end
def tGFor (wi : TI) (g : TG) (tb : TGn) : TGn := fun D ys σ H => wi σ H fun J H1 => ∃ W : Nat → Nat → List V → L2.St → Hp → Prop, (∃ m, W 0 m ys σ H1) ∧ ∀ i m ys σ H, W i m ys σ H →
  (J.stop i H ∧ D.nx ys σ H) ∨ (J.go i H ∧ ∃ N : List V → L2.St → Hp → Prop, (∀ ys' σ' H', N ys' σ' H' → ∃ m', m' < m ∧ W (i + 1) m' ys' σ' H') ∧ ∀ x H', J.yld i H x H' → g x σ H' fun σ2 H2 => tb { D with nx := N, ct := N, bk := D.nx } ys σ2 H2)
theorem gs_for {X : Cx} {tg iter : Expr} {body : List Stmt} {wi : TI} {tt : TG} {tb : TGn} {pos : Pos} (hp : PassesOwn (model X.prog X.w) X.A X.env X.xe) (hc : X.calm = true) (hi : PI X tg iter wi) (hg : PG X tg tt) (hb : GSs X body tb)
    (hs : ∀ x, foldedSetIterable iter X.env x = pure x := by intro _; rfl) : GS X (.For tg iter body [] pos) (tGFor wi tt tb) := by
  refine ⟨fun A S ip R n ys s₀ c fs K J gd lv s σ H D g hn k hI ht => ?_⟩
  obtain ⟨acc0, cc0, r0, I⟩ := hI
  refine seg_For ?_ hs
  rw [g.over]
  refine wpAny_mono (hi.run _ s σ H _ I ht) (fun v s1 h1 => ?_) fun x s' hx => k.exc n s₀ x s' hx
  refine wpAny_mono h1 (fun itv s2 h2 p => ?_) fun x s' hx => k.exc n s₀ x s' hx
  obtain ⟨it, fp, tn, JJ, H2, e, I2, T, st2, f2, W, ⟨m0, w0⟩, turn⟩ := h2
  subst e
  have gl := fun (kk : Result → Sem PySem.Fin) => gc_loop (k := kk) (c' := .forLoop tg (.ref it) body [] X.env) (l := lv []) (kp := []) (p := p) g rfl rfl
  have bS : ∀ b ∈ fp, b ≠ S := fun b hb z => (f2 b hb).2.2.2.2.2 (S, lstObj acc0 cc0) (List.mem_append_right _ List.mem_cons_self) z.symm
  have stat : ∀ {acc : Array Value} {cc : Nat} {H' : Hp}, (∀ b ∈ fp, H' b = none) → ∀ b ∈ fp, FpOk X ((S, lstObj acc cc) :: ip) H' b := fun {acc cc H'} hn b hb => by
    obtain ⟨_, q1, q2, q3, q4, q5⟩ := f2 b hb
    refine ⟨hn b hb, q1, q2, q3, q4, fun p hp => ?_⟩
    rcases List.mem_append.mp hp with hp | hp
    · exact q5 p (List.mem_append_left _ hp)
    · rcases List.mem_cons.mp hp with hp | hp
      · rw [hp]; exact Ne.symm (bS b hb)
      · exact q5 p (List.mem_append_right _ (List.mem_cons_of_mem _ hp))
  have loop : ∀ (m i n : Nat) (ys : List V) (s₀ s : Shared) (σ : L2.St) (H : Hp), n + ys.length = sizeLine → W i m ys σ H → GI X S ip ys σ H s → tn i s.heap → (∀ b ∈ fp, H b = none) →
      Seg (model X.prog X.w) A R (GY X S) n s₀ (.forLoop tg (.ref it) body [] X.env) ((model X.prog X.w).den (.forLoop tg (.ref it) body [] X.env))
        (.ret (fun r => ((match r with | .ok f => (.pure f : Sem Flow) | .error e => .raise e).onRaise (cameBack X.env)).wrap K J gd lv) none (gd false) (lv []) c p [] :: fs) s := by
    intro m
    induction m using Nat.strongRecOn with
    | ind m ih =>
      intro i n ys s₀ s σ H hn w hI st3 fr3
      have ee : ∀ (n : Nat) (s₀ : Shared) (x : Value) (s' : Shared), X.xe x s' → Seg (model X.prog X.w) A R (GY X S) n s₀ (.forLoop tg (.ref it) body [] X.env)
          ((do noteFrame x X.env; theTreesLotGoes x : Sem Unit).wrap (fun _ => .raise x) .raise id id)
          (.ret (fun r => ((match r with | .ok f => (.pure f : Sem Flow) | .error e => .raise e).onRaise (cameBack X.env)).wrap K J gd lv) none (gd false) (lv []) c p [] :: fs) s' := fun n s₀ x s' hx => by
        refine seg_wrap ?_
        rw [(gl _).over]
        refine wpAny_bind (wpAny_mono (hp x s' hx) (fun _ s'' hcb => wpAny_theTreesLotGoes ?_) fun y s'' hcb => ?_)
        · exact seg_leaf (.error x) (seg_cameBack g k hcb)
        · exact seg_leaf (.error y) (seg_cameBack g k hcb)
      refine seg_forLoop rfl ?_
      rw [(gl _).over]
      obtain ⟨acc, cc, r, I3⟩ := hI
      rcases turn i m ys σ H w with ⟨stop, qn⟩ | ⟨go, N, hN, step⟩
      · refine wpAny_mono (T.done X rfl rfl rfl hc i _ s σ H X.xe I3 (stat fr3) st3 stop) (fun rr s4 h4 => ?_) fun x s' hx => ee n s₀ x s' hx
        obtain ⟨hr, I4⟩ := h4
        subst hr
        exact seg_block_nil (seg_leaf (.ok .next) (k.ok n ys s₀ s4 .next hn ⟨σ, H, ⟨acc, cc, r, I4⟩, qn⟩))
      · refine wpAny_mono (T.item X rfl rfl rfl hc i _ s σ H X.xe I3 (stat fr3) st3 go) (fun rr s4 h4 => ?_) fun x s' hx => ee n s₀ x s' hx
        obtain ⟨u, hr, h4⟩ := h4
        subst hr
        refine wpAny_mono h4 (fun _ s5 h5 => ?_) fun x s' hx => ee n s₀ x s' hx
        obtain ⟨x, H5, I5, r5, y5, st5, fr5⟩ := h5
        have I5' := I5.pinned (stat fr5) (T.obj _ _ st5)
        refine wpAny_mono (hg.run _ s5 σ H5 x u _ I5' r5 (step x H5 y5)) (fun _ s6 h6 => ?_) fun x s' hx => ee n s₀ x s' hx
        obtain ⟨σ6, H6, I6, q6⟩ := h6
        have ipS : ∀ q ∈ ip ++ pinsAt fp s5.heap, q.1 ≠ S := fun q hq => (List.mem_append.mp hq).elim (fun z => g.ip q z) fun z => bS _ (of_pinsAt z).1
        have G := fun (kk : Result → Sem PySem.Fin) => ({ gl kk with ip := ipS } : L2.GC X S (ip ++ pinsAt fp s5.heap) A _ _ id)
        have again : ∀ {n' : Nat} {ys' : List V} {s₀' s7 : Shared} {σ7 : L2.St} {H7 : Hp}, n' + ys'.length = sizeLine → GI X S (ip ++ pinsAt fp s5.heap) ys' σ7 H7 s7 → N ys' σ7 H7 →
            Seg (model X.prog X.w) A R (GY X S) n' s₀' (.forLoop tg (.ref it) body [] X.env) (.pure (.again (.forLoop tg (.ref it) body [] X.env)))
              (.ret (fun r => ((match r with | .ok f => (.pure f : Sem Flow) | .error e => .raise e).onRaise (cameBack X.env)).wrap K J gd lv) none (gd false) (lv []) c p [] :: fs) s7 := fun {n' ys' s₀' s7 σ7 H7} hn' I7 n7 => by
          obtain ⟨m', hm, w7⟩ := hN ys' σ7 H7 n7
          obtain ⟨acc7, cc7, r7, I7⟩ := I7
          have I7u : Inv X ((S, lstObj acc7 cc7) :: ip) σ7 H7 s7 := Inv.unpinned (pl := pinsAt fp s5.heap) I7
          refine seg_again rfl (ih m' hm (i + 1) n' ys' s₀' s7 σ7 H7 hn' w7 ⟨acc7, cc7, r7, I7u⟩ (T.keep _ _ _ st5 fun b hb o e => ?_) fun b hb => ?_)
          · exact (I7.pin (b, o) (List.mem_append_right _ (List.mem_cons_of_mem _ (List.mem_append_right _ (mem_pinsAt hb e))))).1
          · obtain ⟨o, e, d⟩ := T.obj _ _ st5 b hb
            exact (I7.pin (b, o) (List.mem_append_right _ (List.mem_cons_of_mem _ (List.mem_append_right _ (mem_pinsAt hb e))))).2.1
        have less : ∀ {ys' : List V} {σ7 : L2.St} {H7 : Hp} {s7 : Shared}, GI X S (ip ++ pinsAt fp s5.heap) ys' σ7 H7 s7 → GI X S ip ys' σ7 H7 s7 := fun {ys' σ7 H7 s7} h7 => by
          obtain ⟨acc7, cc7, r7, I7⟩ := h7
          exact ⟨acc7, cc7, r7, Inv.unpinned (pl := pinsAt fp s5.heap) I7⟩
        refine hb.run A S (ip ++ pinsAt fp s5.heap) R n ys s₀ _ _ _ _ id id s6 σ6 H6 { D with nx := N, ct := N, bk := D.nx } (G _) hn ⟨fun n' ys' s₀' s7 f hn' hs => ?_, fun n' s₀' x s7 hx => ee n' s₀' x s7 hx⟩ ⟨acc, cc, r, I6⟩ q6
        cases f with
        | next => obtain ⟨σ7, H7, I7, n7⟩ := hs; exact again hn' I7 n7
        | cont => obtain ⟨σ7, H7, I7, n7⟩ := hs; exact again hn' I7 n7
        | brk =>
          obtain ⟨σ7, H7, I7, n7⟩ := hs
          exact seg_leaf (.ok .next) (k.ok n' ys' s₀' s7 .next hn' ⟨σ7, H7, less I7, n7⟩)
        | ret v =>
          obtain ⟨v7, σ7, H7, I7, r7, n7⟩ := hs
          exact seg_leaf (.ok (.ret v)) (k.ok n' ys' s₀' s7 (.ret v) hn' ⟨v7, σ7, H7, less I7, r7, n7⟩)
  exact loop m0 0 n ys s₀ s2 σ H2 hn w0 ⟨acc0, cc0, r0, I2⟩ st2 fun b hb => (f2 b hb).1
/-! ### generator defs -/
def FnG (P : Program) (w : World) (K : PySem.W.Frag) (mg : Str → Option Value) (base : Heap) (k : Nat) (x : Str) (ps : List Str) (sp : SpG) : Prop :=
  ∃ f fd, mg x = some (.ref f) ∧ PySem.W.keepIn K (.ref f) = true ∧ Binds K fd ps [] ∧ GFn P w K mg base k f fd ps sp
section
variable {P : Program} {w : World} {K : PySem.W.Frag} {mg : Str → Option Value} {base : Heap}
theorem Def1.okG {x : Str} {ps N : List Str} {st : Stmt} {k : Nat} {sp : SpG} (d : Def1 K mg x ps st) (S : GScope N ps (defScope st)) (len : ∀ vs H Q E, sp vs H Q E → vs.length = ps.length)
    (hbody : ∀ (f : Addr) (cdv : Value) (A : Around) (outer : List PySem.Env) (s : Shared) (H : Hp) (vs : List V) (Q : List V → Hp → Prop) (E : XK) (pn : List (Addr × Obj)), Room k (A.deeper (envOfC x (defScope st) s.heap.objs.size f cdv)) → sp vs H Q E →
      ∃ t, GSs (gcxOf P w K mg base N x (defScope st) f cdv A outer s H E pn) (defBody st) t ∧ t { nx := fun ys _ H' => Q ys H', rt := fun ys v H' => v = .non ∧ Q ys H' } [] (start N vs) H) : FnG P w K mg base (k + 1) x ps sp := by
  obtain ⟨f, fd, hm, F, b⟩ := d
  refine ⟨f, fd, hm, F.kp, b, ?_⟩
  obtain ⟨oc, od, kV, doc, pm, an, cdv, ct, osl, e, lk, hcd⟩ := F.ex
  subst e
  exact gfn_of lk (by first | exact hcd | exact hcd.1) S len fun A outer s H vs Q E pn hr h => hbody f cdv A outer s H vs Q E pn hr h
theorem gcx_K {N : List Str} {q : Str} {sc : Scope} {f : Addr} {cdv : Value} {A : Around} {outer : List PySem.Env} {s : Shared} {H : Hp} {E : XK} {pn : List (Addr × Obj)} : (gcxOf P w K mg base N q sc f cdv A outer s H E pn).K = K := rfl
end
section
variable {X : Cx} {k : Nat} {x : Str} {ps : List Str} {sp : SpG}
/-- list(f(e, ..)) of a generator def that raises nothing -/
def tListGen (sp : SpG) (t : TA) : TE := fun σ H Q => t σ H fun vs H1 => sp vs H1 (fun out H2 => ∀ p, H2 p = none → Q (.ref p) (upd H2 p (.lst out))) E0
theorem noStop0 {K : PySem.W.Frag} : NoStop K E0 := fun _ _ _ h => h.elim
theorem pe_listGen {e : Expr} {es : List Expr} {t : TA} {p pos p' pos' : Pos} (G : FnG X.prog X.w X.K X.mg X.base k x ps sp) (hr : Room (k + 3) X.A) (hg : Gl X x) (hl : Gl X "list") (hml : X.mg "list" = none) (ha : PA X (e :: es) t) (hdb : (x == ("__debug__" : Str)) = false := by decide)
    (he : starEach (e :: es) X.env = (false, eval e X.env) :: starEach es X.env := by rfl) (hpl : (backTo pos' (starEach es X.env)).any (·.1) = false := by rfl)
    (he2 : starEach [Expr.Call (.Name x p') (e :: es) [] pos'] X.env = (false, eval (Expr.Call (.Name x p') (e :: es) [] pos') X.env) :: starEach [] X.env := by rfl) :
    PE X (.Call (.Name "list" p) [.Call (.Name x p') (e :: es) [] pos'] [] pos) (tListGen sp t) := by
  obtain ⟨f, fd, hm, hk, hb, F⟩ := G
  have hr0 : Room k X.A := hr.mono (by omega)
  have h := pgen_call (p := p') (E := E0) F hr0 hg hm hk hb .nil ha hdb he hpl
  have h2 := pe_listG (p := p) (pos := pos) (nm := "list") h passE0 noStop0 hr hl hml (by decide +kernel) (by decide) (by decide) he2
  refine ⟨fun pins s σ H Q I q => h2.run pins s σ H Q I ?_⟩
  unfold tListG tCallG
  simp only [List.append_nil]
  exact q
end
section
variable {σ : L2.St} {H : Hp} {Q : VK} {D : GEnds} {ys : List V} {te ta : TE} {t : TA} {g : TG} {tb : TGn}
theorem r_listGen {sp : SpG} {t : TA} (h : t σ H fun vs H1 => sp vs H1 (fun out H2 => ∀ p, H2 p = none → Q (.ref p) (upd H2 p (.lst out))) E0) : tListGen sp t σ H Q := h
def ForG (J : It) (g : TG) (tb : TGn) (D : GEnds) (ys : List V) (σ : L2.St) (H1 : Hp) : Prop := ∃ W : Nat → Nat → List V → L2.St → Hp → Prop, (∃ m, W 0 m ys σ H1) ∧ ∀ i m ys σ H, W i m ys σ H →
  (J.stop i H ∧ D.nx ys σ H) ∨ (J.go i H ∧ ∃ N : List V → L2.St → Hp → Prop, (∀ ys' σ' H', N ys' σ' H' → ∃ m', m' < m ∧ W (i + 1) m' ys' σ' H') ∧ ∀ x H', J.yld i H x H' → g x σ H' fun σ2 H2 => tb { D with nx := N, ct := N, bk := D.nx } ys σ2 H2)
theorem r_gFor {wi : TI} (h : wi σ H fun J H1 => ForG J g tb D ys σ H1) : tGFor wi g tb D ys σ H := h
theorem r_gYield (hy : ys.length < 100000) (h : te σ H fun x H1 => D.nx (ys ++ [x]) σ H1) : tGYield te D ys σ H := ⟨Nat.lt_of_lt_of_le hy (by decide), h⟩
theorem r_gNil (h : D.nx ys σ H) : tG0 D ys σ H := h
theorem r_gSeq {t u : TGn} (h : t { D with nx := fun ys' σ' H' => u D ys' σ' H' } ys σ H) : tGThen t u D ys σ H := h
theorem r_gPlain {t : TS} (h : t ⟨D.nx ys, D.rt ys, D.bk ys, D.ct ys⟩ σ H) : tPlain t D ys σ H := h
theorem loopG {lo : Int} {n : Nat} (Pv : Nat → List V → L2.St → Hp → Prop) (h0 : Pv 0 ys σ H)
    (hs : ∀ i ys' σ' H', i < n → Pv i ys' σ' H' → g (.int (lo + i)) σ' H' fun σ2 H2 => tb { D with nx := Pv (i + 1), ct := Pv (i + 1), bk := D.nx } ys' σ2 H2) (hd : ∀ ys' σ' H', Pv n ys' σ' H' → D.nx ys' σ' H') : ForG (Itr lo n) g tb D ys σ H := by
  refine ⟨fun i m ys σ H => m = n - i ∧ i ≤ n ∧ Pv i ys σ H, ⟨n, by simp, Nat.zero_le _, h0⟩, ?_⟩
  rintro i m ys σ H ⟨rfl, hi, p⟩
  by_cases hlt : i < n
  · refine .inr ⟨hlt, Pv (i + 1), fun ys' σ' H' p' => ⟨n - (i + 1), by omega, rfl, hlt, p'⟩, fun x H' y => ?_⟩
    obtain ⟨rfl, rfl⟩ := y
    exact hs i ys σ _ hlt p
  · have e : i = n := by omega
    subst e
    refine .inl ⟨?_, hd ys σ H p⟩
    first | exact Nat.le_refl _ | (show ¬ _; omega)
end
section
variable {σ : L2.St} {H : Hp} {K : PySem.W.Frag} {a c d : L2.St → Hp → Prop} {b : VK} {g : TG} {tb : TS}
/-- zip of two tuples -/
theorem r_iZip {ta : TA} {R : It → Hp → Prop} (h : ta σ H fun vs H1 => ∃ a b xs ys, vs = [.ref a, .ref b] ∧ ((SqL K H1 a xs ∧ SqL K H1 b ys ∧ R (Itz K a b) H1) ∨ (SqT K H1 a xs ∧ SqT K H1 b ys ∧ R (RZ.ItzT K a b) H1))) : RZ.iZipA K ta σ H R := h
theorem r_zipT {p q : Addr} {xs ys : List V} {D : Ends} (h1 : SqT K H p xs) (h2 : SqT K H q ys) (h : ForR (RZ.ItzT K p q) g tb D σ H) :
    ∃ a b xs ys, [V.ref p, V.ref q] = [.ref a, .ref b] ∧ ((SqL K H a xs ∧ SqL K H b ys ∧ ForR (Itz K a b) g tb D σ H) ∨ (SqT K H a xs ∧ SqT K H b ys ∧ ForR (RZ.ItzT K a b) g tb D σ H)) := ⟨p, q, xs, ys, rfl, .inr ⟨h1, h2, h⟩⟩
theorem loopZ {p q : Addr} {xs ys : List V} (Pv : Nat → L2.St → Hp → Prop) (h0 : Pv 0 σ H) (hq : ∀ i σ H, Pv i σ H → SqT K H p xs ∧ SqT K H q ys)
    (hs : ∀ (i : Nat) (x y : V) (T : Addr) (σ : L2.St) (H H2 : Hp), xs[i]? = some x → ys[i]? = some y → Pv i σ H → Same H H2 → SqT K H2 T [x, y] → g (.ref T) σ H2 fun σ2 H3 => tb ⟨Pv (i + 1), b, a, Pv (i + 1)⟩ σ2 H3)
    (hd : ∀ σ H, Pv (min xs.length ys.length) σ H → a σ H) : ForR (RZ.ItzT K p q) g tb ⟨a, b, c, d⟩ σ H := by
  refine ⟨fun i m σ H => m = xs.length - i ∧ i ≤ xs.length ∧ i ≤ ys.length ∧ Pv i σ H, ⟨xs.length, rfl, Nat.zero_le _, Nat.zero_le _, h0⟩, ?_⟩
  rintro i m σ H ⟨rfl, hi, hj, p⟩
  obtain ⟨qx, qy⟩ := hq i σ H p
  by_cases hlt : i < xs.length ∧ i < ys.length
  · have hx : xs[i]? = some xs[i] := List.getElem?_eq_getElem hlt.1
    have hy : ys[i]? = some ys[i] := List.getElem?_eq_getElem hlt.2
    refine .inr ⟨⟨xs, ys, _, _, qx, qy, hx, hy⟩, Pv (i + 1), fun σ' H' p' => ⟨xs.length - (i + 1), by omega, rfl, hlt.1, hlt.2, p'⟩, fun v H' y => ?_⟩
    obtain ⟨T, x', y', rfl, hT, rfl, f1, f2⟩ := y
    exact hs i x' y' T σ H _ (f1 xs qx) (f2 ys qy) p (ex_new hT) (SqT.of upd_same)
  · have e : i = min xs.length ys.length := by omega
    refine .inl ⟨⟨xs, ys, qx, qy, by omega⟩, hd σ H (e ▸ p)⟩
theorem r_gTup2 {T : Addr} {x y : V} {t : TGs} {Q : L2.St → Hp → Prop} (h : SqT K H T [x, y]) (q : t [x, y] σ H Q) : gTup K 2 t (.ref T) σ H Q := ⟨T, [x, y], rfl, h, rfl, q⟩
end
section
variable {σ : L2.St} {H : Hp} {Q : VK} {K : PySem.W.Frag} {a c d : L2.St → Hp → Prop} {b : VK}
theorem r_gCons {t : TG} {u : TGs} {v : V} {vs : List V} {Q : L2.St → Hp → Prop} (h : t v σ H fun σ' H' => u vs σ' H' Q) : gCons t u (v :: vs) σ H Q := ⟨v, vs, rfl, h⟩
theorem r_gNil2 {Q : L2.St → Hp → Prop} (h : Q σ H) : gNil [] σ H Q := ⟨rfl, h⟩
theorem r_aug {i : Nat} {te : TE} {ti : TIp} {x : V} (hx : σ[i]? = some (some x)) (h : te σ H fun y H1 => ti x y H1 fun z H2 => a (σ.set i (some z)) H2) : tAug i te ti ⟨a, b, c, d⟩ σ H := ⟨x, hx, h⟩
theorem r_ipI {g : Int → Int → Int} {i j : Int} (q : Q (.int (g i j)) H) : ipI g (.int i) (.int j) H Q := ⟨i, j, rfl, rfl, q⟩
theorem r_neTS {p q : Addr} {xs ys : List Str} (h1 : SqT K H p (xs.map V.str)) (h2 : SqT K H q (ys.map V.str)) (o1 : ∀ x ∈ xs, Asc x) (o2 : ∀ x ∈ ys, Asc x) (k : Q (.bl (!decide (xs = ys))) H) : rNeD K (.ref p) (.ref q) H Q := by
  refine ⟨_, _, dp_strs h1, dp_strs h2, shaped_strs o1, shaped_strs o2, ?_⟩
  rw [eqv_strs]
  exact k
theorem r_catA {p q : Addr} {xs ys : List V} (h1 : SqT K H p xs) (h2 : SqT K H q ys) (hz : xs.length + ys.length ≤ 100000) (k : ∀ r H2, Same H H2 → SqT K H2 r (xs ++ ys) → Q (.ref r) H2) : rCatA K (.ref p) (.ref q) H Q := by
  refine ⟨p, q, xs, ys, rfl, rfl, h1, h2, Nat.le_trans hz (by decide), fun e => k q H (Same.refl _) (by rw [e]; exact h2), fun _ e => k p H (Same.refl _) (by rw [e, List.append_nil]; exact h1), fun _ _ r hr => k r _ (ex_new hr) (SqT.of upd_same)⟩
theorem cutV_to {xs : List V} {n : Int} (h0 : 0 ≤ n) : cutV xs none (some n) = xs.take n.toNat := by
  unfold cutV
  have e0 : HT.sIx xs.length 0 none = 0 := rfl
  have e1 : HT.sIx xs.length xs.length (some n) = min n.toNat xs.length := by
    show (if n < 0 then (n + (xs.length : Int)).toNat else min n.toNat xs.length) = _
    rw [if_neg (by omega)]
  rw [e0, e1, List.drop_zero, Nat.sub_zero]
  by_cases h : n.toNat ≤ xs.length
  · rw [Nat.min_eq_left h]
  · rw [Nat.min_eq_right (by omega), List.take_length, List.take_of_length_le (by omega)]
theorem cutV_last {xs : List V} : cutV xs none (some (-1)) = xs.dropLast := by
  unfold cutV
  have e0 : HT.sIx xs.length 0 none = 0 := rfl
  have e1 : HT.sIx xs.length xs.length (some (-1)) = xs.length - 1 := by
    show (if (-1 : Int) < 0 then ((-1 : Int) + (xs.length : Int)).toNat else min (-1 : Int).toNat xs.length) = _
    rw [if_pos (by decide)]; omega
  rw [e0, e1, List.drop_zero, Nat.sub_zero, List.dropLast_eq_take]
end
section
variable {σ : L2.St} {H : Hp} {Q : VK}
def MsgF (s : Str) (σ : L2.St) (x : V) (H1 : Hp) (Q : VK) : Prop := (∃ y : Str, x = .str y ∧ y.length ≤ sizeLine ∧ (fun (x : V) (H1 : Hp) => ∃ y : Str, x = .str y ∧ (Str.empty ++ s ++ y).length ≤ sizeLine ∧ tJs [] (Str.empty ++ s ++ y) σ H1 fun out H2 => Q (.str out) H2) (.str y) H1) ∨
  ∃ i : Int, x = .int i ∧ i.natAbs.log2 < 1920 ∧ (fun (x : V) (H1 : Hp) => ∃ y : Str, x = .str y ∧ (Str.empty ++ s ++ y).length ≤ sizeLine ∧ tJs [] (Str.empty ++ s ++ y) σ H1 fun out H2 => Q (.str out) H2) (.str (toString i)) H1
theorem r_msgF {s : Str} {te : TE} (h1 : s.length ≤ 1000) (h : te σ H fun x H1 => MsgF s σ x H1 Q) : tJoined [tC (.str s), tFmt te] σ H Q := by
  refine ⟨s, rfl, ?_, h⟩
  rw [len_app]
  show 0 + s.length ≤ sizeLine
  have : 1000 ≤ sizeLine := by decide
  omega
theorem r_msgF1 {s z : Str} (h1 : s.length ≤ 1000) (h2 : z.length ≤ 100000) (q : ∀ out, Q (.str out) H) : MsgF s σ (.str z) H Q := by
  refine .inl ⟨z, rfl, Nat.le_trans h2 (by decide), z, rfl, ?_, q _⟩
  rw [len_app, len_app]
  show 0 + s.length + z.length ≤ sizeLine
  have : 101000 ≤ sizeLine := by decide
  omega
end
section
variable {X : Cx} {H : Hp} {Q : VK}
def rMin2 : List V → Hp → VK → Prop := fun xs H Q => ∃ i j, xs = [.int i, .int j] ∧ Q (.int (if j < i then j else i)) H
theorem cMin2 (hc : X.calm = true) : CallR X (.builtin "min") rMin2 := call_min2 hc
theorem r_min2 {i j : Int} (q : Q (.int (if j < i then j else i)) H) : rMin2 [.int i, .int j] H Q := ⟨i, j, rfl, q⟩
theorem atI_end {α : Type} {xs : List α} {v : α} (h : xs[xs.length - 1]? = some v) : atI xs (-1) = some v := by
  have hl : xs.length - 1 < xs.length := (List.getElem?_eq_some_iff.mp h).1
  have e : ixN xs.length (-1) = some (xs.length - 1) := by
    unfold ixN
    rw [if_neg (by decide), if_pos (by omega)]
    congr 1
    omega
  unfold atI
  rw [e]
  exact h
end
/-! ### names and their plain labels -/
theorem plain_name {zs : List Str} (hl : zs.length ≤ 12) (h : ∀ z ∈ zs, plainB z = true) : nameB zs = true := name_yes hl fun i y hy => .inl (h y (List.mem_of_getElem? hy))
theorem name_plain {zs : List Str} (h : nameB zs = true) (hw : wildB zs = false) : ∀ z ∈ zs, plainB z = true := by
  unfold nameB at h
  rw [hw, Bool.and_eq_true, if_neg (by decide)] at h
  exact List.all_eq_true.mp h.2
theorem name_plainW {zs : List Str} (h : nameB zs = true) (hw : wildB zs = true) : ∀ z ∈ zs.dropLast, plainB z = true := by
  unfold nameB at h
  rw [hw, Bool.and_eq_true, if_pos rfl] at h
  exact List.all_eq_true.mp h.2
theorem last_wild {zs : List Str} {y : Str} (h : zs[zs.length - 1]? = some y) : wildB zs = decide (y = "*") := by
  have h1 : 1 ≤ zs.length := by have := (List.getElem?_eq_some_iff.mp h).1; omega
  by_cases e : y = "*"
  · rw [decide_eq_true e, (wild_iff zs).mpr ⟨h1, by rw [h, e]; rfl⟩]
  · rw [decide_eq_false e]
    refine Bool.eq_false_iff.mpr fun w => e ?_
    have := ((wild_iff zs).mp w).2
    rw [h] at this
    exact Option.some.inj this
theorem sl_kA {X : Cx} {K : PySem.W.Frag} (hK : X.K = K) : SlR X (rSlA K) := hK ▸ sl_tupA
/-! ### tuples of names -/
def dT (zs : List Str) : PyData := .tuple (zs.map PyData.str)
/-- out: tuples of texts, as L says -/
def TupsAt (K : PySem.W.Frag) (H : Hp) (out : List V) (L : List (List Str)) : Prop := out.length = L.length ∧ ∀ (i : Nat) (zs : List Str), L[i]? = some zs → ∃ b, out[i]? = some (.ref b) ∧ SqT K H b (zs.map V.str)
theorem TupsAt.ex {K : PySem.W.Frag} {H H' : Hp} {out : List V} {L : List (List Str)} (h : TupsAt K H out L) (e : Same H H') : TupsAt K H' out L := ⟨h.1, fun i zs hi => by
  obtain ⟨b, hb, hs⟩ := h.2 i zs hi
  exact ⟨b, hb, ex_t e hs⟩⟩
theorem TupsAt.all {K : PySem.W.Frag} {H : Hp} : ∀ {out : List V} {L : List (List Str)}, TupsAt K H out L → DpAll K H out (L.map dT)
  | [], [], _ => .nil
  | [], _ :: _, h => by have := h.1; simp at this
  | _ :: _, [], h => by have := h.1; simp at this
  | v :: out, zs :: L, h => by
    obtain ⟨b, hb, hs⟩ := h.2 0 zs rfl
    have : v = .ref b := by simpa using hb
    subst this
    exact .cons (dp_tup hs) (TupsAt.all ⟨by simpa using h.1, fun i zs hi => by simpa using h.2 (i + 1) zs (by simpa using hi)⟩)
theorem dp_tups {K : PySem.W.Frag} {H : Hp} {t : Addr} {out : List V} {L : List (List Str)} (h : SqT K H t out) (hT : TupsAt K H out L) : Dp K H (.ref t) (.tuple (L.map dT)) := .tup h hT.all
theorem pure_tups {L : List (List Str)} (hl : L.length ≤ 10000) (h : ∀ zs ∈ L, zs.length ≤ 10000 ∧ ∀ z ∈ zs, Asc z) : pureD (.tuple (L.map dT)) = true := by
  simp only [pureD, List.length_map, decide_eq_true hl, Bool.true_and]
  refine (pureAll_iff _).mpr fun x hx => ?_
  obtain ⟨zs, hz, rfl⟩ := List.mem_map.mp hx
  exact pure_strs (h zs hz).1 (h zs hz).2
theorem depth_tupsAll : ∀ L : List (List Str), PyData.depthAll (L.map dT) ≤ 1
  | [] => by simp [PyData.depthAll]
  | zs :: L => by
    have h := depth_tupsAll L
    have h2 := depth_tup zs
    simp only [List.map_cons, PyData.depthAll]
    unfold dT at h ⊢
    omega
theorem eqv_tups (L : List (List Str)) : PyData.eqv (.tuple (L.map dT)) (.tuple (L.map dT)) = true := by
  simp only [PyData.eqv]
  refine eqvAll_yes rfl fun i d e h1 h2 => ?_
  rw [h1] at h2
  cases h2
  rw [List.getElem?_map] at h1
  cases hz : L[i]? with
  | none => rw [hz] at h1; cases h1
  | some zs =>
    rw [hz] at h1
    cases h1
    unfold dT
    rw [eqv_strs]
    simp
/-- _law_same of the same names -/
theorem r_same_tups {K : PySem.W.Frag} {H : Hp} {Q : VK} {a b : Addr} {xs ys : List V} {L : List (List Str)} {n : Nat} (h1 : SqT K H a xs) (h2 : SqT K H b ys) (t1 : TupsAt K H xs L) (t2 : TupsAt K H ys L) (hl : L.length ≤ 10000) (h : ∀ zs ∈ L, zs.length ≤ 10000 ∧ ∀ z ∈ zs, Asc z)
    (q : Q (.bl true) H) : spSame K (n + 3) [.ref a, .ref b] H Q E0 :=
  ⟨_, _, _, _, rfl, dp_tups h1 t1, dp_tups h2 t2, pure_tups hl h, pure_tups hl h, by
    have := depth_tupsAll L
    simp only [PyData.depth]
    omega, by rw [eqv_tups]; exact q⟩
end My

set_option Elab.async false
set_option linter.all false
set_option maxRecDepth 100000
set_option maxHeartbeats 4000000
namespace My
open PySem PySem.Spec PyProof.Rows L2 PySem.W
open C8 (tCut pss_cut)
/-! ### order of data of one form -/
section
variable {X : Cx}
def rLtD (K : PySem.W.Frag) : R2 := fun x y H Q => ∃ d e, Dp K H x d ∧ Dp K H y e ∧ alike d e = true ∧ d ≠ .none ∧ d.depth ≤ 64 ∧ Q (.bl (dataLt d e)) H
def rLeD (K : PySem.W.Frag) : R2 := fun x y H Q => ∃ d e, Dp K H x d ∧ Dp K H y e ∧ alike d e = true ∧ d ≠ .none ∧ d.depth ≤ 64 ∧ Q (.bl (!dataLt e d)) H
def rGtD (K : PySem.W.Frag) : R2 := fun x y H Q => ∃ d e, Dp K H x d ∧ Dp K H y e ∧ alike d e = true ∧ d ≠ .none ∧ d.depth ≤ 64 ∧ Q (.bl (dataLt e d)) H
def rGeD (K : PySem.W.Frag) : R2 := fun x y H Q => ∃ d e, Dp K H x d ∧ Dp K H y e ∧ alike d e = true ∧ d ≠ .none ∧ d.depth ≤ 64 ∧ Q (.bl (!dataLt d e)) H
theorem op_ltD (hu : X.A.units + 64 < cLine) : OpR X (compareOp .Lt) (rLtD X.K) := by
  intro pins s σ H x y v u Q I rx ry h
  obtain ⟨d, e, hd, he, ha, hn, hz, q⟩ := h
  obtain ⟨as, r1⟩ := Dp.reads I d x v hd rx
  obtain ⟨bs, r2⟩ := Dp.reads I e y u he ry
  exact lt_data r1 r2 ha hn (by omega) ⟨.bl _, H, I, rfl, q⟩
theorem op_leD (hu : X.A.units + 64 < cLine) : OpR X (compareOp .LtE) (rLeD X.K) := by
  intro pins s σ H x y v u Q I rx ry h
  obtain ⟨d, e, hd, he, ha, hn, hz, q⟩ := h
  obtain ⟨as, r1⟩ := Dp.reads I d x v hd rx
  obtain ⟨bs, r2⟩ := Dp.reads I e y u he ry
  exact le_data r1 r2 ha hn (by omega) ⟨.bl _, H, I, rfl, q⟩
theorem op_gtD (hu : X.A.units + 64 < cLine) : OpR X (compareOp .Gt) (rGtD X.K) := by
  intro pins s σ H x y v u Q I rx ry h
  obtain ⟨d, e, hd, he, ha, hn, hz, q⟩ := h
  obtain ⟨as, r1⟩ := Dp.reads I d x v hd rx
  obtain ⟨bs, r2⟩ := Dp.reads I e y u he ry
  exact gt_data r1 r2 ha hn (by omega) ⟨.bl _, H, I, rfl, q⟩
theorem op_geD (hu : X.A.units + 64 < cLine) : OpR X (compareOp .GtE) (rGeD X.K) := by
  intro pins s σ H x y v u Q I rx ry h
  obtain ⟨d, e, hd, he, ha, hn, hz, q⟩ := h
  obtain ⟨as, r1⟩ := Dp.reads I d x v hd rx
  obtain ⟨bs, r2⟩ := Dp.reads I e y u he ry
  exact ge_data r1 r2 ha hn (by omega) ⟨.bl _, H, I, rfl, q⟩
end
/-! ### sorted(xs) of tuples, the empty one among them -/
section
open PySem.SeqAt
variable {prog : Program} {w : World} {A : Around} {E : Value → Shared → Prop} {s : Shared}
theorem call_tup_lt {Q : Value → Shared → Prop} {l b : Addr} {items items2 : Array Value} {e r : Nat → Bool} (hl : s.heap.IsTuple l items) (hb : s.heap.IsTuple b items2)
    (he : ∀ j (h1 : j < items.size) (h2 : j < items2.size), EqAt A.in1 s items[j] items2[j] (e j)) (hr : ∀ j (h1 : j < items.size) (h2 : j < items2.size), e j = false → RcLt A.in1 s items[j] items2[j] (r j))
    (h : Q (.bool (firstLt e r (decide (items.size < items2.size)) (List.range (min items.size items2.size)))) s) : wpAny (model prog w) A (call (.builtin "tuple.__lt__") [.ref l, .ref b]) Q E s := by
  obtain ⟨⟨cls, dd, data, sl⟩, ho, hc, n, hd⟩ := id hl
  obtain ⟨⟨cls2, dd2, data2, sl2⟩, ho2, hc2, n2, hd2⟩ := id hb
  simp only at hc hd hc2 hd2
  subst hc hd hc2 hd2
  exact call_meets F.slot_tuple_lt ⟨_, ho, rfl⟩ F.entry_tuple_lt (F.args_tuple_lt_2 _ _) (tuple_ltAt l b items items2 n n2 dd dd2 sl sl2 e r) ⟨ho, ho2, he, hr, h⟩
theorem oneLt_tups {f : Bool} {xs ys : List PyData} {a b : Value} {as bs : List Addr} {Q : Bool → Shared → Prop} (ra : Reads s.heap a (.tuple xs) as) (rb : Reads s.heap b (.tuple ys) bs) (h : alike (.tuple xs) (.tuple ys) = true)
    (hu : A.units + min (PyData.tuple xs).depth (PyData.tuple ys).depth < cLine) (hq : Q (dataLt (.tuple xs) (.tuple ys)) s) : wpAny (model prog w) A (oneLt' f a b) Q E s := by
  cases f with
  | false =>
    rw [oneLt'_eq]
    simp only [Bool.false_eq_true, if_false]
    exact wpAny_bind (rcLt_alike _ _ A s a b as bs ra rb h (by intro z; cases z) hu prog w E _ (wpAny_truthy_bool hq))
  | true =>
    have hal : alikeAll xs ys = true := by simpa [alike] using h
    cases ra with
    | @tuple l o vs n _ as₁ h1 h2 h3 h4 =>
      cases rb with
      | @tuple l' o' vs' n' _ bs₁ k1 k2 k3 k4 =>
        have n1 : vs.size = xs.length := by simpa using SeqAt.ReadsAll.length _ _ _ h4
        have n2 : vs'.size = ys.length := by simpa using SeqAt.ReadsAll.length _ _ _ k4
        rw [dataLt_tuple, ← firstLt_toks xs ys hal, ← n1, ← n2] at hq
        rw [oneLt'_eq]
        simp only [if_true]
        refine wpAny_bind (wpAny_cRoomFor (room_here hu) ?_)
        refine wpAny_bind (wpAny_callSpecialIfBound?_slot (T := "tuple") ⟨_, h1, h2⟩ F.slot_tuple_lt (call_tup_lt (e := pairEq xs ys) (r := fun j => dataLt (xs.getD j .none) (ys.getD j .none)) ⟨_, h1, h2, _, h3⟩ ⟨_, k1, k2, _, k3⟩ (fun j j1 j2 => ?_) (fun j j1 j2 hj => ?_) ?_))
        · have := eqAt_alikeAll xs ys A.in1 s vs.toList vs'.toList _ _ h4 k4 hal (room_in hu) j (by simpa using j1) (by simpa using j2)
          simpa using this
        · have := rcLt_alikeAll xs ys A.in1 s vs.toList vs'.toList _ _ h4 k4 hal (room_in hu) j (by simpa using j1) (by simpa using j2) hj
          simpa using this
        · exact wpAny_truthy_bool hq
theorem keyLt_general (x y : Value) : keyLt' general' x y = oneLt' false x y := rfl
/-- the first items of the keys -/
def firstD : PyData → Bool
  | .tuple (_ :: _) => true
  | _ => false
theorem firsts_reads : ∀ (vs : List Value) (ds : List PyData) {Q : List (Option Value) → Shared → Prop}, EachIs (fun v d => ∃ as, Reads s.heap v d as) vs ds → (∀ d ∈ ds, ∃ xs, d = .tuple xs) →
    (∀ fs : List (Option Value), fs.map (·.isSome) = ds.map firstD → Q fs s) → wpAny (model prog w) A (vs.mapM firstOfTuple') Q E s
  | [], ds, Q, e, ht, h => by
    cases e
    rw [List.mapM_nil]
    exact wpAny_pure (h [] rfl)
  | v :: vs, ds, Q, e, ht, h => by
    cases e with
    | @cons _ d _ ds h1 t =>
      obtain ⟨as, r⟩ := h1
      obtain ⟨xs, rfl⟩ := ht d List.mem_cons_self
      cases r with
      | @tuple a o xs' n _ _ ho hc hd hr =>
        rw [List.mapM_cons]
        refine wpAny_bind ?_
        rw [kas_first_eq]
        refine wpAny_bind (Looks.here (show Looks (model prog w) s.heap (typeOf (.ref a)) o.cls from (Looks.ld ho).andThen .now) ?_)
        rw [hc, if_neg (by first | decide | simp)]
        refine wpAny_bind (listItems_at ho hd (wpAny_pure ?_))
        have hz : xs'.size = xs.length := by simpa using SeqAt.ReadsAll.length _ _ _ hr
        refine wpAny_bind (firsts_reads vs ds (Q := fun bs s' => wpAny (model prog w) A (pure (xs'[0]? :: bs)) Q E s') t (fun d hd => ht d (List.mem_cons_of_mem _ hd)) fun fs hf => wpAny_pure (h _ ?_))
        rw [List.map_cons, List.map_cons, hf]
        congr 1
        cases xs with
        | nil =>
          have : xs'[0]? = none := Array.getElem?_eq_none (by rw [hz]; simp)
          rw [this]; rfl
        | cons x xs =>
          have h0 : 0 < xs'.size := by rw [hz]; simp
          rw [Array.getElem?_eq_getElem h0]; rfl
theorem allAlike_tail {d : PyData} {ds : List PyData} (h : AllAlike (d :: ds)) : AllAlike ds := fun x hx y hy => h x (List.mem_cons_of_mem _ hx) y (List.mem_cons_of_mem _ hy)
/-- tuples that are alike can be sorted, whatever their lengths -/
theorem sortsAt_tups {vs : List Value} {ds : List PyData} (e : EachIs (fun v d => ∃ as, Reads s.heap v d as) vs ds) (hal : AllAlike ds) (ht : ∀ d ∈ ds, ∃ xs, d = .tuple xs) (hu : ∀ d, d ∈ ds → A.units + d.depth < cLine) : SortsAt prog w A s (dataKind s.heap ds) vs := by
  by_cases hall : ∀ d ∈ ds, firstD d = true
  · refine SortsAt.data e hal (.inl fun d hd => ?_) hu
    obtain ⟨xs, rfl⟩ := ht d hd
    cases xs with
    | nil => have := hall _ hd; cases this
    | cons x r => exact ⟨x, r, rfl⟩
  have room : ∀ {d d' : PyData}, d ∈ ds → A.units + min d.depth d'.depth < cLine := fun {d d'} hd => Nat.lt_of_le_of_lt (Nat.add_le_add_left (Nat.min_le_left _ _) _) (hu d hd)
  have hlt : ∀ f : Bool, ∀ E : Value → Shared → Prop, ∀ (x y : Value) (a b : (dataKind s.heap ds).α) {Q : Bool → Shared → Prop}, (dataKind s.heap ds).keyOf x = some a → (dataKind s.heap ds).keyOf y = some b → Q ((dataKind s.heap ds).blt a b) s → wpAny (model prog w) A (oneLt' f x y) Q E s := by
    intro f E x y a b Q ha hb hq
    obtain ⟨d, as, hd, ra, rfl⟩ := dataKind_inv ha
    obtain ⟨d', as', hd', rb, rfl⟩ := dataKind_inv hb
    obtain ⟨x1, rfl⟩ := ht d hd
    obtain ⟨x2, rfl⟩ := ht d' hd'
    exact oneLt_tups ra rb (hal _ hd _ hd') (room hd) hq
  refine ⟨fun v hv => ?_, ?_⟩
  · obtain ⟨d, hd, as, r⟩ := e.left v hv
    exact ⟨_, dataKind_some hal hd r⟩
  have hno : ∀ fs : List (Option Value), fs.map (·.isSome) = ds.map firstD → (fs.toArray.all fun x => x.isSome) = false := fun fs hf => by
    rw [Bool.eq_false_iff]
    intro h
    refine hall fun d hd => ?_
    rw [List.all_toArray, List.all_eq_true] at h
    have hm : firstD d ∈ fs.map (·.isSome) := by rw [hf]; exact List.mem_map_of_mem hd
    obtain ⟨x, hx, e1⟩ := List.mem_map.mp hm
    rw [← e1]
    exact h x hx
  cases ds with
  | nil => exact absurd (fun d hd => by cases hd) hall
  | cons d₀ ds₀ =>
    cases hf0 : firstD d₀ with
    | true =>
      refine ⟨general', fun E x y a b Q ha hb hq => ?_, fun h2 E Q hq => ?_⟩
      · rw [keyLt_general]
        exact hlt false E x y a b ha hb hq
      · rw [keyKind'_eq, List.mapM_toArray, map_eq_pure_bind]
        refine wpAny_bind (wpAny_bind (firsts_reads vs _ e ht fun fs hf => wpAny_pure ?_))
        rw [if_neg (by rw [hno fs hf]; decide)]
        cases fs with
        | nil => simp at hf
        | cons f fs =>
          have e1 : f.isSome = true := by rw [List.map_cons, List.map_cons] at hf; rw [(List.cons.inj hf).1, hf0]
          rw [if_pos (by simpa using e1)]
          exact wpAny_pure hq
    | false =>
      refine ⟨oneType', fun E x y a b Q ha hb hq => ?_, fun h2 E Q hq => ?_⟩
      · rw [keyLt'_oneType]
        exact hlt true E x y a b ha hb hq
      · obtain ⟨v₁, v₂, rest, rfl⟩ : ∃ v₁ v₂ rest, vs = v₁ :: v₂ :: rest := by
          match vs, h2 with
          | [], h2 => simp at h2
          | [_], h2 => simp at h2
          | v₁ :: v₂ :: rest, _ => exact ⟨v₁, v₂, rest, rfl⟩
        rw [keyKind'_eq, List.mapM_toArray, map_eq_pure_bind]
        refine wpAny_bind (wpAny_bind (firsts_reads _ _ e ht fun fs hf => wpAny_pure ?_))
        rw [if_neg (by rw [hno fs hf]; decide)]
        cases fs with
        | nil => simp at hf
        | cons f fs =>
          have e1 : f.isSome = false := by rw [List.map_cons, List.map_cons] at hf; rw [(List.cons.inj hf).1, hf0]
          rw [if_neg (by simpa using e1)]
          rw [oneTypeOnly'_eq, List.mapM_toArray, map_eq_pure_bind]
          refine wpAny_bind (wpAny_bind (wpAny_bind (kas_mapM (r := Value.type "tuple") _ (fun v hv Q' hq => ?_) (wpAny_pure ?_))))
          · obtain ⟨d, hd, as, r⟩ := e.left v hv
            obtain ⟨xs, rfl⟩ := ht d hd
            exact (show Looks (model prog w) s.heap (typeOf v) (.type "tuple") from looks_reads r).here hq
          · have hall : ((List.map (fun _ => Value.type "tuple") (v₁ :: v₂ :: rest)).toArray.all fun x => x == Value.type "tuple") = true := by
              simp only [List.all_toArray, List.all_map, List.all_eq_true]
              intro _ _
              exact beq_self_eq_true _
            have h0 : (List.map (fun _ => Value.type "tuple") (v₁ :: v₂ :: rest)).toArray[0]? = some (Value.type "tuple") := by simp
            rw [h0]
            simp only [hall, if_true]
            exact wpAny_pure (wpAny_pure hq)
/-- all are tuples, or none is a tuple or None -/
def SortableT (ds : List PyData) : Prop := (∀ d ∈ ds, ∃ xs, d = .tuple xs) ∨ ∀ d ∈ ds, d ≠ .none ∧ ∀ xs, d ≠ .tuple xs
theorem sortsAt_data {vs : List Value} {ds : List PyData} (e : EachIs (fun v d => ∃ as, Reads s.heap v d as) vs ds) (hal : AllAlike ds) (hk : SortableT ds) (hu : ∀ d, d ∈ ds → A.units + d.depth < cLine) : SortsAt prog w A s (dataKind s.heap ds) vs := by
  rcases hk with h | h
  · exact sortsAt_tups e hal h hu
  · exact SortsAt.data e hal (.inr h) hu
theorem sorted_dataT {R : Value → PyData → Prop} {ds : List PyData} {vs : List Value} {l : Addr} {Q : Value → Shared → Prop} (hl : s.heap.IsList l vs.toArray) (e : EachIs R vs ds) (er : EachIs (fun v d => ∃ as, Reads s.heap v d as) vs ds) (hal : AllAlike ds) (hk : SortableT ds) (hL : ds.length ≤ sizeLine)
    (hu : ∀ d, d ∈ ds → A.units + 2 + d.depth < cLine) (h : ∀ out, out.length = ds.length → EachIs R out (ds.mergeSort (dataLe false id)) → Q (.ref (s.heap.objs.size + 1)) { s with heap := sortedAll s.heap vs (List.toArray out) }) :
    wpAny (model prog w) A (call (.builtin "sorted") [.ref l]) Q E s := by
  have er' : EachIs (fun v b => ∃ as, Reads (sortingHeap (copyHeap s.heap vs) (s.heap.objs.size + 1) vs) v b as) vs ds := er.mono fun _ _ ⟨as, r⟩ => ⟨as, PyProof.Rows.Reads.keeps (fun _ _ => sorting_copy_old) r⟩
  have em : ds.map id = ds := List.map_id ds
  have hal' : AllAlike (ds.map id) := by rw [em]; exact hal
  refine sorted_vals hl (sortsAt_data (s := { s with heap := sortingHeap (copyHeap s.heap vs) (s.heap.objs.size + 1) vs }) er' hal hk fun d hd => ?_) (by rw [e.length]; exact hL) (h _ (by rw [sortVals_length false rfl]; exact e.length) ?_)
  · have := hu d hd
    first | exact this | (show A.in1.in1.units + _ < _; exact this)
  · have := sortVals_data (h' := sortingHeap (copyHeap s.heap vs) (s.heap.objs.size + 1) vs) (enc := id) false e er' hal'
    rw [em] at this
    exact this
end
section
variable {X : Cx}
theorem vals_of_each {K : PySem.W.Frag} {H : Hp} : ∀ {out : List Value} {ds : List PyData}, EachIs (fun v d => ∃ y, RelV y v ∧ Dp K H y d) out ds → ∃ ys, Vals ys out ∧ DpAll K H ys ds
  | _, _, .nil => ⟨[], .nil, .nil⟩
  | _, _, .cons ⟨y, r, h⟩ t => by
    obtain ⟨ys, r2, h2⟩ := vals_of_each t
    exact ⟨y :: ys, .cons r r2, .cons h h2⟩
theorem each_of_vals {K : PySem.W.Frag} {H : Hp} : ∀ {xs : List V} {vs : List Value} {ds : List PyData}, Vals xs vs → DpAll K H xs ds → EachIs (fun v d => ∃ y, RelV y v ∧ Dp K H y d) vs ds
  | _, _, _, .nil, .nil => .nil
  | _, _, _, .cons r t, .cons h u => .cons ⟨_, r, h⟩ (each_of_vals t u)
/-- sorted(xs), xs a list of data that are alike -/
def rSortD (K : PySem.W.Frag) : List V → Hp → VK → Prop := fun vs H Q => ∃ (a : Addr) (xs : List V) (ds : List PyData), vs = [V.ref a] ∧ SqL K H a xs ∧ DpAll K H xs ds ∧ AllAlike ds ∧ SortableT ds ∧ (∀ d ∈ ds, d.depth ≤ 60) ∧
  ∀ (ys : List V) (p : Addr), DpAll K H ys (ds.mergeSort (dataLe false id)) → H p = none → Q (.ref p) (upd H p (.lst ys))
theorem cr_sortedD (hu : X.A.units + 64 < cLine) : CallR X (.builtin "sorted") (rSortD X.K) := by
  intro pins s σ H vs us Q I r h
  obtain ⟨a, xs, ds, rfl, hs, hx, hal, hk, hz, q⟩ := h
  obtain ⟨its, rv, hl, hsz⟩ := I.list hs
  obtain ⟨u, rfl, ru⟩ := vals1 r
  obtain rfl : u = Value.ref a := ru
  have el : xs.length = ds.length := dpAll_len hx
  have e1 := each_of_vals rv hx
  refine sorted_dataT (R := fun v d => ∃ y, RelV y v ∧ Dp X.K H y d) hl.isList e1 (e1.mono fun v d ⟨y, r, h⟩ => Dp.reads I d y v h r) hal hk (by rw [← el]; exact hsz) (fun d hd => by have := hz d hd; omega) fun out ho h2 => ?_
  obtain ⟨ys, r2, h3⟩ := vals_of_each h2
  obtain ⟨n, hn⟩ := sortedAll_at s.heap its (List.toArray out)
  refine ⟨.ref (s.heap.objs.size + 1), upd H (s.heap.objs.size + 1) (.lst ys), I.laid (t' := s.toks) (fun b o e => sortedAll_old e) (Nat.le_succ _) ⟨?_, out, n, r2, hn⟩, rfl, q ys _ h3 (I.hok.fresh (Nat.le_succ _))⟩
  rw [r2.length, ho, ← el]
  exact hsz
end
section
variable {K : PySem.W.Frag} {H : Hp} {Q : VK}
theorem r_sortD {a : Addr} {xs : List V} {ds : List PyData} (hs : SqL K H a xs) (hx : DpAll K H xs ds) (hal : AllAlike ds) (hk : SortableT ds) (hz : ∀ d ∈ ds, d.depth ≤ 60)
    (q : ∀ (ys : List V) (p : Addr) H2, DpAll K H ys (ds.mergeSort (dataLe false id)) → H p = none → Same H H2 → H2 p = some (.lst ys) → Q (.ref p) H2) : rSortD K [.ref a] H Q :=
  ⟨a, xs, ds, rfl, hs, hx, hal, hk, hz, fun ys p h hp => q ys p _ h hp (ex_new hp) upd_same⟩
/-! ### names in order -/
/-- tuples of texts, the lesser -/
def ltN (xs ys : List Str) : Bool := dataLt (dT xs) (dT ys)
theorem alike_strs : ∀ xs ys : List Str, alikeAll (xs.map PyData.str) (ys.map PyData.str) = true
  | [], _ => by simp [alikeAll]
  | _ :: _, [] => by simp [alikeAll]
  | x :: xs, y :: ys => by
    simp only [List.map_cons, alikeAll, alike_strs xs ys, alike, Bool.and_self]
theorem alike_dT (xs ys : List Str) : alike (dT xs) (dT ys) = true := by
  unfold dT
  simp only [alike]
  exact alike_strs xs ys
theorem r_ltTS {a b : Addr} {xs ys : List Str} (h1 : SqT K H a (xs.map V.str)) (h2 : SqT K H b (ys.map V.str)) (q : Q (.bl (ltN xs ys)) H) : rLtD K (.ref a) (.ref b) H Q :=
  ⟨_, _, dp_tup h1, dp_tup h2, alike_dT _ _, (by intro z; cases z), by have := depth_tup xs; omega, q⟩
theorem r_leTS {a b : Addr} {xs ys : List Str} (h1 : SqT K H a (xs.map V.str)) (h2 : SqT K H b (ys.map V.str)) (q : Q (.bl (!ltN ys xs)) H) : rLeD K (.ref a) (.ref b) H Q :=
  ⟨_, _, dp_tup h1, dp_tup h2, alike_dT _ _, (by intro z; cases z), by have := depth_tup xs; omega, q⟩
theorem r_gtTS {a b : Addr} {xs ys : List Str} (h1 : SqT K H a (xs.map V.str)) (h2 : SqT K H b (ys.map V.str)) (q : Q (.bl (ltN ys xs)) H) : rGtD K (.ref a) (.ref b) H Q :=
  ⟨_, _, dp_tup h1, dp_tup h2, alike_dT _ _, (by intro z; cases z), by have := depth_tup xs; omega, q⟩
theorem r_geTS {a b : Addr} {xs ys : List Str} (h1 : SqT K H a (xs.map V.str)) (h2 : SqT K H b (ys.map V.str)) (q : Q (.bl (!ltN xs ys)) H) : rGeD K (.ref a) (.ref b) H Q :=
  ⟨_, _, dp_tup h1, dp_tup h2, alike_dT _ _, (by intro z; cases z), by have := depth_tup xs; omega, q⟩
/-- texts, the lesser -/
def ltS (x y : Str) : Bool := decide (x.cps.toList < y.cps.toList)
theorem ltN_cons (x y : Str) (xs ys : List Str) : ltN (x :: xs) (y :: ys) = if x = y then ltN xs ys else ltS x y := by
  unfold ltN dT ltS
  rw [dataLt_tuple, dataLt_tuple, List.map_cons, List.map_cons, dataLt_cons (by simp [alike])]
  rw [dataLt_str]
  by_cases h : x = y
  · rw [if_pos h, if_pos (by simp [PyData.eqv, h])]
  · rw [if_neg h, if_neg (by simp [PyData.eqv, h])]
theorem ltN_nil_cons (y : Str) (ys : List Str) : ltN [] (y :: ys) = true := by
  unfold ltN dT
  rw [dataLt_tuple, List.map_cons, toks_all_cons]
  simp only [List.map_nil, keyToksAll]
  rw [lex_diff (O := itemOrd) (by simp)]
  first | rfl | decide | simp [itemOrd, itemLt]
theorem ltN_nil (xs : List Str) : ltN xs [] = false := by
  cases xs with
  | nil =>
    unfold ltN
    exact lex_irrefl _
  | cons x xs =>
    unfold ltN dT
    rw [dataLt_tuple, List.map_cons, toks_all_cons]
    simp only [List.map_nil, keyToksAll]
    rw [lex_diff (O := itemOrd) (by simp)]
    first | rfl | decide | simp [itemOrd, itemLt]
theorem ltS_irrefl (x : Str) : ltS x x = false := by
  unfold ltS
  exact decide_eq_false (List.lt_irrefl _)
theorem ltS_trans {x y z : Str} (h1 : ltS x y = true) (h2 : ltS y z = true) : ltS x z = true := by
  unfold ltS at *
  rw [decide_eq_true_iff] at *
  exact List.lt_trans h1 h2
theorem ltS_total {x y : Str} (h : x ≠ y) : ltS x y = true ∨ ltS y x = true := by
  unfold ltS
  simp only [decide_eq_true_iff]
  have hne : x.cps.toList ≠ y.cps.toList := fun e => h (TL.ext_tl e)
  by_cases h1 : x.cps.toList < y.cps.toList
  · exact .inl h1
  · by_cases h2 : y.cps.toList < x.cps.toList
    · exact .inr h2
    · exact absurd (List.le_antisymm (List.not_lt.mp h2) (List.not_lt.mp h1)) hne
theorem ltS_asymm {x y : Str} (h : ltS x y = true) : ltS y x = false := by
  cases e : ltS y x with
  | false => rfl
  | true =>
    have := ltS_trans h e
    rw [ltS_irrefl] at this
    cases this
theorem ltN_irrefl : ∀ xs : List Str, ltN xs xs = false
  | [] => ltN_nil []
  | x :: xs => by rw [ltN_cons, if_pos rfl, ltN_irrefl xs]
theorem ltN_trans : ∀ {xs ys zs : List Str}, ltN xs ys = true → ltN ys zs = true → ltN xs zs = true
  | [], [], _, h, _ => by rw [ltN_nil] at h; cases h
  | _ :: _, [], _, h, _ => by rw [ltN_nil] at h; cases h
  | _, _ :: _, [], _, h => by rw [ltN_nil] at h; cases h
  | [], _ :: _, z :: zs, _, _ => ltN_nil_cons z zs
  | x :: xs, y :: ys, z :: zs, h1, h2 => by
    rw [ltN_cons] at h1 h2 ⊢
    by_cases e1 : x = y
    · rw [if_pos e1] at h1
      subst e1
      by_cases e2 : x = z
      · rw [if_pos e2] at h2 ⊢
        exact ltN_trans h1 h2
      · rw [if_neg e2] at h2 ⊢
        exact h2
    · rw [if_neg e1] at h1
      by_cases e2 : y = z
      · subst e2
        rw [if_neg e1]
        exact h1
      · rw [if_neg e2] at h2
        have h3 := ltS_trans h1 h2
        by_cases e3 : x = z
        · subst e3
          rw [ltS_irrefl] at h3
          cases h3
        · rw [if_neg e3]
          exact h3
theorem ltN_total : ∀ {xs ys : List Str}, xs ≠ ys → ltN xs ys = true ∨ ltN ys xs = true
  | [], [], h => absurd rfl h
  | [], y :: ys, _ => .inl (ltN_nil_cons y ys)
  | x :: xs, [], _ => .inr (ltN_nil_cons x xs)
  | x :: xs, y :: ys, h => by
    rw [ltN_cons, ltN_cons]
    by_cases e : x = y
    · rw [if_pos e, if_pos e.symm]
      exact ltN_total fun z => h (by rw [e, z])
    · rw [if_neg e, if_neg fun z => e z.symm]
      exact ltS_total e
theorem ltN_asymm {xs ys : List Str} (h : ltN xs ys = true) : ltN ys xs = false := by
  cases e : ltN ys xs with
  | false => rfl
  | true =>
    have := ltN_trans h e
    rw [ltN_irrefl] at this
    cases this
/-- x ≤ y -/
theorem leN_iff {xs ys : List Str} : ltN ys xs = false ↔ xs = ys ∨ ltN xs ys = true := by
  constructor
  · intro h
    by_cases e : xs = ys
    · exact .inl e
    · rcases ltN_total e with h1 | h1
      · exact .inr h1
      · rw [h] at h1; cases h1
  · rintro (rfl | h)
    · exact ltN_irrefl _
    · exact ltN_asymm h
theorem ltN_app : ∀ p xs ys : List Str, ltN (p ++ xs) (p ++ ys) = ltN xs ys
  | [], _, _ => rfl
  | x :: p, xs, ys => by rw [List.cons_append, List.cons_append, ltN_cons, if_pos rfl, ltN_app p]
end
/-! ### sorted lists of names, membership -/
section
variable {X : Cx}
def rMax2 : List V → Hp → VK → Prop := fun xs H Q => ∃ i j, xs = [.int i, .int j] ∧ Q (.int (if j > i then j else i)) H
theorem cMax2 (hc : X.calm = true) : CallR X (.builtin "max") rMax2 := call_max2 hc
end
theorem units65 {k : Nat} {A : Around} (r : Room k A) : A.units + 65 < cLine := by have := r.un; omega
section
variable {K : PySem.W.Frag} {H : Hp} {Q : VK}
theorem r_max2 {i j : Int} (q : Q (.int (if j > i then j else i)) H) : rMax2 [.int i, .int j] H Q := ⟨i, j, rfl, q⟩
theorem all_dT {L : List (List Str)} {d : PyData} (h : d ∈ L.map dT) : ∃ zs ∈ L, d = dT zs := by
  obtain ⟨zs, hz, rfl⟩ := List.mem_map.mp h
  exact ⟨zs, hz, rfl⟩
theorem dp_inv {v : V} {zs : List Str} (h : Dp K H v (dT zs)) : ∃ b, v = .ref b ∧ SqT K H b (zs.map V.str) := by
  unfold dT at h
  have key : ∀ (xs : List V) (zs : List Str), DpAll K H xs (zs.map PyData.str) → xs = zs.map V.str := by
    intro xs zs
    induction zs generalizing xs with
    | nil => intro h; cases h; rfl
    | cons z zs ih =>
      intro h
      cases h with
      | cons h1 h2 =>
        cases h1
        rw [ih _ h2]; rfl
  cases h with
  | tup hs ha => exact ⟨_, rfl, by rw [← key _ _ ha]; exact hs⟩
theorem TupsAt.of {out : List V} {L : List (List Str)} (h : DpAll K H out (L.map dT)) : TupsAt K H out L := by
  refine ⟨by have := dpAll_len h; simpa using this, fun i zs hi => ?_⟩
  obtain ⟨v, hv, hd⟩ := dpAll_get h (i := i) (d := dT zs) (by rw [List.getElem?_map, hi]; rfl)
  obtain ⟨b, rfl, hb⟩ := dp_inv hd
  exact ⟨b, hv, hb⟩
def leN (xs ys : List Str) : Bool := !ltN ys xs
theorem leN_trans {a b c : List Str} (h1 : leN a b = true) (h2 : leN b c = true) : leN a c = true := by
  unfold leN at *
  simp only [Bool.not_eq_true'] at *
  rcases leN_iff.mp h1 with rfl | h1
  · exact h2
  · rcases leN_iff.mp h2 with rfl | h2
    · exact ltN_asymm h1
    · exact ltN_asymm (ltN_trans h1 h2)
theorem leN_total (a b : List Str) : (leN a b || leN b a) = true := by
  unfold leN
  cases h : ltN b a with
  | false => rfl
  | true => rw [ltN_asymm h]; rfl
def sortN (L : List (List Str)) : List (List Str) := L.mergeSort leN
theorem sortN_perm (L : List (List Str)) : (sortN L).Perm L := List.mergeSort_perm L leN
theorem sortN_sorted (L : List (List Str)) : (sortN L).Pairwise fun a b => leN a b = true := List.pairwise_mergeSort (le := leN) (fun _ _ _ h1 h2 => leN_trans h1 h2) (fun a b => leN_total a b) L
/-- sorted(names) -/
theorem r_sortN {a : Addr} {xs : List V} {L : List (List Str)} (hs : SqL K H a xs) (hx : TupsAt K H xs L)
    (q : ∀ (ys : List V) (p : Addr) H2, TupsAt K H2 ys (sortN L) → H p = none → Same H H2 → H2 p = some (.lst ys) → Q (.ref p) H2) : rSortD K [.ref a] H Q := by
  refine r_sortD hs hx.all (fun d hd d' hd' => ?_) (.inl fun d hd => ?_) (fun d hd => ?_) fun ys p H2 h1 hp e h2 => q ys p H2 ?_ hp e h2
  · obtain ⟨x, _, rfl⟩ := all_dT hd
    obtain ⟨y, _, rfl⟩ := all_dT hd'
    exact alike_dT x y
  · obtain ⟨x, _, rfl⟩ := all_dT hd
    exact ⟨_, rfl⟩
  · obtain ⟨x, _, rfl⟩ := all_dT hd
    have := depth_tup x
    unfold dT
    omega
  · refine TupsAt.ex (TupsAt.of ?_) e
    unfold sortN
    have e : (L.mergeSort leN).map dT = (L.map dT).mergeSort (dataLe false id) := sort_maps dT fun a _ b _ => rfl
    rw [e]
    exact h1
theorem any_dT (L : List (List Str)) (zs : List Str) : ((L.map dT).any fun z => PyData.eqv z (dT zs)) = decide (zs ∈ L) := by
  induction L with
  | nil => simp
  | cons y L ih =>
    rw [List.map_cons, List.any_cons, ih]
    unfold dT
    rw [eqv_strs]
    by_cases h : y = zs
    · subst h; simp
    · simp [h]
      intro e
      exact absurd e.symm h
theorem shaped_dT {zs : List Str} (h : ∀ z ∈ zs, Asc z) : SeqAt.shaped (dT zs) = true := shaped_strs h
theorem shaped_dTs {L : List (List Str)} (h : ∀ zs ∈ L, ∀ z ∈ zs, Asc z) : SeqAt.shaped (.list (L.map dT)) = true := by
  unfold SeqAt.shaped
  rw [Bool.and_eq_true]
  refine ⟨?_, decide_eq_true ?_⟩
  · simp only [PyData.canLay0]
    induction L with
    | nil => simp [PyData.canLayAll0]
    | cons y L ih =>
      have h1 : (dT y).canLay0 = true := by
        have := shaped_dT (h y List.mem_cons_self)
        unfold SeqAt.shaped at this
        rw [Bool.and_eq_true] at this
        exact this.1
      rw [List.map_cons]
      simp only [PyData.canLayAll0, h1, ih fun zs hz => h zs (List.mem_cons_of_mem _ hz), Bool.and_self]
  · have := depth_tupsAll L
    simp only [PyData.depth]
    omega
theorem r_notInTS {a b : Addr} {out : List V} {L : List (List Str)} {zs : List Str} (hx : SqT K H b (zs.map V.str)) (hs : SqL K H a out) (hL : TupsAt K H out L) (o1 : ∀ z ∈ zs, Asc z) (o2 : ∀ zs ∈ L, ∀ z ∈ zs, Asc z) (q : Q (.bl (!decide (zs ∈ L))) H) : rNotInD K (.ref b) (.ref a) H Q :=
  ⟨dT zs, L.map dT, dp_tup hx, .lst hs hL.all, shaped_dT o1, shaped_dTs o2, by rw [any_dT]; exact q⟩
theorem r_inTS {a b : Addr} {out : List V} {L : List (List Str)} {zs : List Str} (hx : SqT K H b (zs.map V.str)) (hs : SqL K H a out) (hL : TupsAt K H out L) (o1 : ∀ z ∈ zs, Asc z) (o2 : ∀ zs ∈ L, ∀ z ∈ zs, Asc z) (q : Q (.bl (decide (zs ∈ L))) H) : rInD K (.ref b) (.ref a) H Q :=
  ⟨dT zs, L.map dT, dp_tup hx, .lst hs hL.all, shaped_dT o1, shaped_dTs o2, by rw [any_dT]; exact q⟩
end
end My

set_option Elab.async false
set_option linter.all false
set_option maxRecDepth 100000
set_option maxHeartbeats 4000000
namespace My
open PySem PySem.Spec PyProof.Rows L2
open C8 (tCut pss_cut)
local macro_rules | `(tactic| walk_at "side") => `(tactic| (first | with_reducible assumption | with_reducible exact rfl | omega | decide +kernel | exact ⟨by omega, by omega⟩ | exact Nat.le_of_ble_eq_true rfl | exact Or.inl ⟨by omega, by omega⟩ | exact Or.inr ⟨by omega, by omega⟩ | (intro hh; cases hh; done) | (simp; omega)))
local macro_rules | `(tactic| walk_at "trT") => `(tactic| (with_reducible first | assumption | (refine' SqT.of ?z; (case z => assumption)) | (refine' ex_t ?e ?h; (case e => assumption); case h => walk_at "trT") | (refine' but_t ?e ?g ?h; (case e => assumption); (case g => assumption); case h => walk_at "trT")))
local macro_rules | `(tactic| walk_at "trL") => `(tactic| (with_reducible first | assumption | (refine' SqL.of ?z; (case z => assumption)) | (refine' ex_l ?e ?h; (case e => assumption); case h => walk_at "trL")))
local macro_rules | `(tactic| walk_at "rd1") => `(tactic| first
  | ((with_reducible refine r_seq ?_))
  | ((with_reducible refine r_asgN ?_))
  | ((with_reducible refine r_ret ?_))
  | ((with_reducible refine r_retN ?_))
  | ((with_reducible refine r_drop ?_))
  | ((with_reducible refine r_ifS ?_))
  | ((with_reducible refine r_next ?_))
  | ((with_reducible refine r_brk ?_))
  | ((with_reducible refine r_cont ?_))
  | ((with_reducible refine r_for ?_))
  | ((with_reducible refine r_iStr ?_))
  | ((with_reducible refine r_iStr1 ?_))
  | ((with_reducible refine r_iList ?_))
  | ((with_reducible refine r_iTup ?_))
  | ((with_reducible refine r_iRng1 ?_))
  | ((with_reducible refine r_iRng2 ?_))
  | ((with_reducible refine' r_var ?k1 ?_); (case k1 => with_unfolding_all rfl))
  | ((with_reducible refine r_c ?_))
  | ((with_reducible refine r_op ?_))
  | ((with_reducible refine r_un ?_))
  | ((with_reducible refine r_if ?_))
  | ((with_reducible refine r_fn ?_))
  | ((with_reducible refine r_cb ?_))
  | ((with_reducible refine r_cons ?_))
  | ((with_reducible refine r_nil ?_))
  | ((with_reducible refine r_test ?_))
  | ((with_reducible refine r_tB ?_))
  | ((with_reducible refine r_and ?_))
  | ((with_reducible refine r_or ?_))
  | ((with_reducible refine r_not ?_))
  | ((with_reducible refine r_chain ?_))
  | ((with_reducible refine r_andV ?_))
  | ((with_reducible refine r_orV ?_))
  | ((with_reducible refine r_notV ?_))
  | ((with_reducible refine r_tup ?_))
  | ((with_reducible refine r_lst ?_))
  | ((with_reducible refine r_sl ?_))
  | ((with_reducible refine r_noPart ?_))
  | ((with_reducible refine r_part ?_))
  | ((with_reducible refine r_bl ?_))
  | ((with_reducible refine r_exI ?_))
  | ((with_reducible refine r_I0 ?_))
  | ((with_reducible refine r_U ?_))
  | ((with_reducible refine r_eqI ?_))
  | ((with_reducible refine r_eqS ?_))
  | ((with_reducible refine r_eqB ?_))
  | ((with_reducible refine r_neI ?_))
  | ((with_reducible refine r_neS ?_))
  | ((with_reducible refine r_neB ?_))
  | ((with_reducible refine r_int ?_))
  | ((with_reducible refine r_inS ?_))
  | ((with_reducible refine r_notInS ?_))
  | ((with_reducible refine r_bm ?_))
  | ((with_reducible refine r_up ?_))
  | ((with_reducible refine r_low ?_))
  | ((with_reducible refine' r_up1 ?k1 ?_); (case k1 => walk_at "side"))
  | ((with_reducible refine' r_low1 ?k1 ?_); (case k1 => walk_at "side"))
  | ((with_reducible refine' r_newL ?k1 ?_); (case k1 => walk_at "side"))
  | ((with_reducible refine' r_newT ?k1 ?_); (case k1 => walk_at "side"))
  | ((with_reducible refine r_asg ?_))
  | ((with_reducible refine r_gName ?_))
  | ((with_reducible refine r_sub ?_))
  | ((with_reducible refine' r_I ?k1 ?_); (case k1 => walk_at "side"))
  | ((with_reducible refine' r_lenS ?k1 ?_); (case k1 => walk_at "side"))
  | ((with_reducible refine' r_addS ?k1 ?_); (case k1 => walk_at "side"))
  | ((with_reducible refine r_iteT ?_))
  | ((with_reducible refine r_iteF ?_))
  | ((with_reducible refine r_iteNT ?_))
  | ((with_reducible refine r_iteNF ?_))
  | ((with_reducible refine' r_iteDp ?k1 ?_); (case k1 => walk_at "side"))
  | ((with_reducible refine' r_iteDn ?k1 ?_); (case k1 => walk_at "side"))
  | ((with_reducible refine' r_iteNp ?k1 ?_); (case k1 => walk_at "side"))
  | ((with_reducible refine' r_iteNn ?k1 ?_); (case k1 => walk_at "side"))
  | ((with_reducible refine' r_iList1 ?k1 ?k2 ?_); (case k2 => walk_at "trL"))
  | ((with_reducible refine' r_iTup1 ?k1 ?k2 ?_); (case k2 => walk_at "trT"))
  | ((with_reducible refine' r_iRng11 ?k1 ?_); (case k1 => walk_at "side"))
  | ((with_reducible refine' r_iRng21 ?k1 ?_); (case k1 => walk_at "side"))
  | ((with_reducible refine' r_ixL ?k1 ?k2 ?_); (case k1 => walk_at "trL"); (case k2 => with_unfolding_all rfl))
  | ((with_reducible refine' r_ixT ?k1 ?k2 ?_); (case k1 => walk_at "trT"); (case k2 => with_unfolding_all rfl))
  | ((with_reducible refine' r_lenT ?k1 ?_); (case k1 => walk_at "trT"))
  | ((with_reducible refine' r_lenL ?k1 ?_); (case k1 => walk_at "trL"))
  | ((with_reducible refine' r_slS ?k1 ?_); (case k1 => walk_at "side"))
  | ((with_reducible refine' r_isiBt ?k1 ?_); (case k1 => decide +kernel))
  | ((with_reducible refine' r_isiBf ?k1 ?_); (case k1 => decide +kernel))
  | ((with_reducible refine' r_isiIt ?k1 ?_); (case k1 => decide +kernel))
  | ((with_reducible refine' r_isiIf ?k1 ?_); (case k1 => decide +kernel))
  | ((with_reducible refine' r_isiSt ?k1 ?_); (case k1 => decide +kernel))
  | ((with_reducible refine' r_isiSf ?k1 ?_); (case k1 => decide +kernel))
  | ((with_reducible refine' r_isiTt ?k1 ?k2 ?_); (case k1 => walk_at "trT"); (case k2 => decide +kernel))
  | ((with_reducible refine' r_isiTf ?k1 ?k2 ?_); (case k1 => walk_at "trT"); (case k2 => decide +kernel))
  | ((with_reducible refine r_yes ?_))
  | ((with_reducible refine r_lc ?_))
  | ((with_reducible refine r_endsW ?_))
  | ((with_reducible refine r_split ?_))
  | ((with_reducible refine r_join ?_))
  | ((with_reducible refine r_revL ?_))
  | ((with_reducible refine' r_revL1 ?k1 ?_); (case k1 => walk_at "trL"))
  | ((with_reducible refine' r_backT ?k1 ?_); (case k1 => walk_at "trT"))
  | ((with_reducible refine r_strAnd ?_))
  | ((with_reducible refine r_asc ?_))
  | ((with_reducible refine r_asc1 ?_))
  | ((with_reducible refine r_two ?_))
  | ((with_reducible refine r_fnS ?_))
  | ((with_reducible refine r_raise ?_))
  | ((with_reducible refine r_isN ?_))
  | ((with_reducible refine r_notN ?_))
  | ((with_reducible refine r_tryAs ?_))
  | ((with_reducible refine r_find ?_))
  | ((with_reducible refine r_gFor ?_))
  | ((with_reducible refine' r_gYield ?k1 ?_); (case k1 => walk_at "side"))
  | ((with_reducible refine r_gNil ?_))
  | ((with_reducible refine r_gSeq ?_))
  | ((with_reducible refine r_gPlain ?_))
  | ((with_reducible refine r_listGen ?_))
  | ((with_reducible refine r_iZip ?_))
  | ((with_reducible refine r_gCons ?_))
  | ((with_reducible refine r_gNil2 ?_))
  | ((with_reducible refine' r_aug ?k1 ?_); (case k1 => with_unfolding_all rfl))
  | ((with_reducible refine r_ipI ?_))
  | ((with_reducible refine r_min2 ?_))
  | ((with_reducible refine r_max2 ?_)))
local macro_rules | `(tactic| walk_at "rd") => `(tactic| repeat walk_at "rd1")
local macro_rules | `(tactic| walk_at "en") => `(tactic| ((try dsimp only [nox_K, cx_K, gcx_K]); walk_at "rd"))
local macro_rules | `(tactic| walk_at "sp") => `(tactic| first
  | with_reducible refine r_iteD ?_ ?_
  | with_reducible refine r_iteN ?_ ?_
  | with_reducible refine r_ite ?_ ?_)
def topS (i : Nat) : Stmt := PySem.Challenge.pw_provenames_k05_names_in_order.main.body.getD i (.Pass ⟨0, 0, 0, 0⟩)
abbrev s_lies_in : Stmt := topS 1
theorem sc_lies_in : FnScope ["name", "above"] ["name", "above"] (defScope s_lies_in) := ⟨rfl, rfl, rfl, by decide +kernel, rfl, by decide +kernel, by decide +kernel⟩
abbrev s_lies_below : Stmt := topS 2
theorem sc_lies_below : FnScope ["name", "above"] ["name", "above"] (defScope s_lies_below) := ⟨rfl, rfl, rfl, by decide +kernel, rfl, by decide +kernel, by decide +kernel⟩
abbrev s_shared : Stmt := topS 3
theorem sc_shared : FnScope ["name", "other", "length", "label", "other_label"] ["name", "other"] (defScope s_shared) := ⟨rfl, rfl, rfl, by decide +kernel, rfl, by decide +kernel, by decide +kernel⟩
abbrev s__law_cell : Stmt := topS 5
theorem sc__law_cell : FnScope ["script", "k", "total", "cell"] ["script", "k"] (defScope s__law_cell) := ⟨rfl, rfl, rfl, by decide +kernel, rfl, by decide +kernel, by decide +kernel⟩
abbrev s__law_source : Stmt := topS 6
theorem sc__law_source : FnScope ["cell"] ["cell"] (defScope s__law_source) := ⟨rfl, rfl, rfl, by decide +kernel, rfl, by decide +kernel, by decide +kernel⟩
abbrev s__law_draw : Stmt := topS 7
theorem sc__law_draw : FnScope ["source", "many", "digit"] ["source", "many"] (defScope s__law_draw) := ⟨rfl, rfl, rfl, by decide +kernel, rfl, by decide +kernel, by decide +kernel⟩
abbrev s__law_label : Stmt := topS 8
theorem sc__law_label : FnScope ["source", "chars", "choice", "label", "k", "labels"] ["source"] (defScope s__law_label) := ⟨rfl, rfl, rfl, by decide +kernel, rfl, by decide +kernel, by decide +kernel⟩
abbrev s__law_name : Stmt := topS 9
theorem sc__law_name : FnScope ["source", "count", "shape", "labels", "k"] ["source"] (defScope s__law_name) := ⟨rfl, rfl, rfl, by decide +kernel, rfl, by decide +kernel, by decide +kernel⟩
abbrev s__law_longer : Stmt := topS 10
theorem sc__law_longer : FnScope ["labels", "source", "room", "longer", "k"] ["labels", "source"] (defScope s__law_longer) := ⟨rfl, rfl, rfl, by decide +kernel, rfl, by decide +kernel, by decide +kernel⟩
abbrev s__law_other : Stmt := topS 11
theorem sc__law_other : FnScope ["name", "source", "plain", "choice"] ["name", "source"] (defScope s__law_other) := ⟨rfl, rfl, rfl, by decide +kernel, rfl, by decide +kernel, by decide +kernel⟩
abbrev s__law_same : Stmt := topS 12
theorem sc__law_same : FnScope ["actual", "expected", "k"] ["actual", "expected"] (defScope s__law_same) := ⟨rfl, rfl, rfl, by decide +kernel, rfl, by decide +kernel, by decide +kernel⟩
abbrev s__law_bool : Stmt := topS 13
theorem sc__law_bool : FnScope ["actual", "expected"] ["actual", "expected"] (defScope s__law_bool) := ⟨rfl, rfl, rfl, by decide +kernel, rfl, by decide +kernel, by decide +kernel⟩
abbrev s__law_common : Stmt := topS 14
theorem sc__law_common : FnScope ["name", "other", "k"] ["name", "other"] (defScope s__law_common) := ⟨rfl, rfl, rfl, by decide +kernel, rfl, by decide +kernel, by decide +kernel⟩
abbrev s__law_drawn : Stmt := topS 15
theorem sc__law_drawn : FnScope ["names", "source"] ["names", "source"] (defScope s__law_drawn) := ⟨rfl, rfl, rfl, by decide +kernel, rfl, by decide +kernel, by decide +kernel⟩
abbrev s__law_blocks : Stmt := topS 16
theorem sc__law_blocks : FnScope ["names", "name", "end", "other"] ["names"] (defScope s__law_blocks) := ⟨rfl, rfl, rfl, by decide +kernel, rfl, by decide +kernel, by decide +kernel⟩
abbrev s__law_neighbours : Stmt := topS 17
theorem sc__law_neighbours : FnScope ["names", "first", "least", "second", "expected"] ["names"] (defScope s__law_neighbours) := ⟨rfl, rfl, rfl, by decide +kernel, rfl, by decide +kernel, by decide +kernel⟩
abbrev s__law_longest : Stmt := topS 18
theorem sc__law_longest : FnScope ["names", "name", "most", "before", "other", "actual", "behind"] ["names", "name"] (defScope s__law_longest) := ⟨rfl, rfl, rfl, by decide +kernel, rfl, by decide +kernel, by decide +kernel⟩
abbrev s_law : Stmt := topS 19
theorem sc_law : FnScope ["script", "size", "count", "drawn", "k", "name", "further", "names"] ["script"] (defScope s_law) := ⟨rfl, rfl, rfl, by decide +kernel, rfl, by decide +kernel, by decide +kernel⟩
structure Txt (K : PySem.W.Frag) (mg : Str → Option Value) : Prop where
  m_bool : mg "bool" = none
  m_int : mg "int" = none
  m_isinstance : mg "isinstance" = none
  m_len : mg "len" = none
  m_list : mg "list" = none
  m_max : mg "max" = none
  m_min : mg "min" = none
  m_range : mg "range" = none
  m_sorted : mg "sorted" = none
  m_str : mg "str" = none
  m_tuple : mg "tuple" = none
  m_zip : mg "zip" = none
  d_lies_in : Def1 K mg "lies_in" ["name", "above"] s_lies_in
  d_lies_below : Def1 K mg "lies_below" ["name", "above"] s_lies_below
  d_shared : Def1 K mg "shared" ["name", "other"] s_shared
  d__law_cell : Def1 K mg "_law_cell" ["script", "k"] s__law_cell
  d__law_source : Def1 K mg "_law_source" ["cell"] s__law_source
  d__law_draw : Def1 K mg "_law_draw" ["source", "many"] s__law_draw
  d__law_label : Def1 K mg "_law_label" ["source"] s__law_label
  d__law_name : Def1 K mg "_law_name" ["source"] s__law_name
  d__law_longer : Def1 K mg "_law_longer" ["labels", "source"] s__law_longer
  d__law_other : Def1 K mg "_law_other" ["name", "source"] s__law_other
  d__law_same : Def1 K mg "_law_same" ["actual", "expected"] s__law_same
  d__law_bool : Def1 K mg "_law_bool" ["actual", "expected"] s__law_bool
  d__law_common : Def1 K mg "_law_common" ["name", "other"] s__law_common
  d__law_drawn : Def1 K mg "_law_drawn" ["names", "source"] s__law_drawn
  d__law_blocks : Def1 K mg "_law_blocks" ["names"] s__law_blocks
  d__law_neighbours : Def1 K mg "_law_neighbours" ["names"] s__law_neighbours
  d__law_longest : Def1 K mg "_law_longest" ["names", "name"] s__law_longest
  d_law : Def1 K mg "law" ["script"] s_law
section
variable {P : Program} {w : World} {K : PySem.W.Frag} {mg : Str → Option Value} {base : Heap}
theorem ok__law_draw (T : Txt K mg) : Fn P w K mg base 1 "_law_draw" ["source", "many"] spDraw := by
  refine T.d__law_draw.ok sc__law_draw (by rintro vs H Q E ⟨_, _, rfl, _⟩; rfl) (fun f cdv A outer s H vs Q E hr h => ?_)
  obtain ⟨a, m, rfl, ⟨x, y, z, hS, hy⟩, h0, h1, k⟩ := h
  refine ⟨_, (pss_cons (ps_if (pt_cmpR op_eq (pe_ix ix_list (pv 0) pe_int (fun _ _ => rfl)) pe_int (nomark _))
  (pss_cons (ps_set (i := 2) sc__law_draw.nd rfl (.inl rfl) (pe_op op_mod (pe_callTy cInt (by rfl) T.m_int (by decide +kernel) (pa_cons (pe_ix ix_list (pv 0) pe_int (fun _ _ => rfl)) pa_nil)) (pv 1)))
  (pss_cons (ps_asg (pe_op op_fdiv (pe_ix ix_list (pv 0) pe_int (fun _ _ => rfl)) (pv 1)) (pg_sub (pv 0) pe_int set_list))
  (pss_one (ps_ret (pv 2)))))
  pss_nil)
  (pss_cons (ps_asg (pe_op op_mod (pe_callTy cInt (by rfl) T.m_int (by decide +kernel) (pa_cons (pe_op op_add (pe_op op_mul (pe_ix ix_list (pv 0) pe_int (fun _ _ => rfl)) pe_int) pe_int) pa_nil)) pe_int) (pg_sub (pv 0) pe_int set_list))
  (pss_cons (ps_asg (pe_op op_mod (pe_callTy cInt (by rfl) T.m_int (by decide +kernel) (pa_cons (pe_op op_add (pe_op op_add (pe_op op_mul (pe_ix ix_list (pv 0) pe_int (fun _ _ => rfl)) pe_int) (pe_ix ix_list (pv 0) pe_int (fun _ _ => rfl))) pe_int) pa_nil)) pe_int) (pg_sub (pv 0) pe_int set_list))
  (pss_one (ps_ret (pe_op op_mod (pe_callTy cInt (by rfl) T.m_int (by decide +kernel) (pa_cons (pe_ix ix_list (pv 0) pe_int (fun _ _ => rfl)) pa_nil)) (pv 1))))))), ?_⟩
  walk_at "en"
  walk_at "sp" <;> intro hy0
  · walk_at "rd"
    refine r_setL hS rfl fun H1 b1 e1 => ?_
    walk_at "rd"
    exact k _ _ b1 ⟨_, _, _, e1, .inl hy0⟩ (Int.emod_nonneg _ (by omega)) (Int.emod_lt_of_pos _ h0)
  · have hy := hy.resolve_left hy0
    walk_at "rd"
    refine r_setL hS rfl fun H1 b1 e1 => ?_
    have e1 : H1 a = some (.lst [.int ((x * 48271 + 69621) % 2147483647), .int y, .int z]) := e1
    have hx0 := Int.emod_nonneg (x * 48271 + 69621) (show (2147483647 : Int) ≠ 0 by decide)
    have hx1 := Int.emod_lt_of_pos (x * 48271 + 69621) (show (0 : Int) < 2147483647 by decide)
    walk_at "rd"
    refine r_setL e1 rfl fun H2 b2 e2 => ?_
    walk_at "rd"
    refine k _ _ (b1.trans b2) ⟨_, _, _, e2, .inr ⟨hx0, by omega, Int.emod_nonneg _ (by decide), ?_⟩⟩ (Int.emod_nonneg _ (by omega)) (Int.emod_lt_of_pos _ h0)
    exact Int.lt_trans (Int.emod_lt_of_pos _ (by decide)) (by decide)
theorem ok__law_source (T : Txt K mg) : Fn P w K mg base 1 "_law_source" ["cell"] spSource := by
  refine T.d__law_source.ok sc__law_source (by rintro vs H Q E ⟨_, rfl, _⟩; rfl) (fun f cdv A outer s H vs Q E hr h => ?_)
  obtain ⟨n, rfl, k⟩ := h
  refine ⟨_, (pss_cons (ps_if (pt_cmpR op_ge (pv 0) (pe_op op_pow pe_int pe_int) (nomark _))
  (pss_one (ps_ret (pe_lst (pa_cons (pe_op op_sub (pv 0) (pe_op op_pow pe_int pe_int)) (pa_cons pe_int (pa_cons pe_int pa_nil))))))
  pss_nil)
  (pss_one (ps_ret (pe_lst (pa_cons (pe_op op_mod (pe_callTy cInt (by rfl) T.m_int (by decide +kernel) (pa_cons (pv 0) pa_nil)) pe_int) (pa_cons pe_int (pa_cons pe_int pa_nil))))))), ?_⟩
  walk_at "en"
  walk_at "sp" <;> intro hn
  · walk_at "rd"
    intro p H1 n1 e1 hp
    exact k _ _ e1 n1 ⟨_, _, _, hp, .inl rfl⟩
  · walk_at "rd"
    intro p H1 n1 e1 hp
    exact k _ _ e1 n1 ⟨_, _, _, hp, .inr ⟨Int.emod_nonneg _ (by decide), Int.lt_trans (Int.emod_lt_of_pos _ (by decide)) (by decide), by decide, by decide⟩⟩
theorem ok__law_cell (T : Txt K mg) : Fn P w K mg base 1 "_law_cell" ["script", "k"] (spCell K) := by
  refine T.d__law_cell.ok sc__law_cell (by rintro vs H Q E ⟨_, _, _, rfl, _⟩; rfl) (fun f cdv A outer s H vs Q E hr h => ?_)
  obtain ⟨l, ns, n, rfl, hL, hlen, h0, h1, k⟩ := h
  refine ⟨_, (pss_cons (ps_if (pt_cmpR op_lt (pv 1) (pe_callB cLenQ (by rfl) T.m_len PySem.boot_len (pa_cons (pv 0) pa_nil)) (nomark _))
  (pss_one (ps_ret (pe_callTy cInt (by rfl) T.m_int (by decide +kernel) (pa_cons (pe_ix ix_list (pv 0) (pv 1) (fun _ _ => rfl)) pa_nil))))
  pss_nil)
  (pss_cons (ps_set (i := 2) sc__law_cell.nd rfl (.inl rfl) (pe_op op_add (pe_op op_mul pe_int (pv 1)) pe_int))
  (pss_cons (ps_for PassesOwn.never rfl (pi_list (pv 0)) (pg_name (i := 3) sc__law_cell.nd rfl (.inl rfl))
  (pss_one (ps_set (i := 2) sc__law_cell.nd rfl (.inl rfl) (pe_op op_mod (pe_callTy cInt (by rfl) T.m_int (by decide +kernel) (pa_cons (pe_op op_add (pe_op op_mul (pv 2) pe_int) (pv 3)) pa_nil)) pe_int))))
  (pss_one (ps_ret (pv 2)))))), ?_⟩
  walk_at "en"
  walk_at "sp" <;> intro hn
  · walk_at "rd"
    obtain ⟨v, hv, ha, _⟩ := atI_in (xs := ns.map V.int) h0 hn
    obtain ⟨c, _, rfl⟩ := List.mem_map.mp hv
    refine r_ixL hL ha ?_
    walk_at "rd"
    exact k c
  · walk_at "rd"
    refine loopL (xs := ns.map V.int) (fun i σ' H' => (∃ t v, σ' = [some (.ref l), some (.int n), some (.int t), v] ∧ 0 ≤ t ∧ t ≤ 2147483629) ∧ H' = H) ⟨⟨_, _, rfl, by omega, by omega⟩, rfl⟩ (by rintro i σ' H' _ ⟨_, rfl⟩; exact hL) ?_ ?_
    · rintro i x σ' H' hi ⟨⟨t, v, rfl, ht0, ht1⟩, rfl⟩
      obtain ⟨c, _, rfl⟩ := List.mem_map.mp (List.mem_of_getElem? hi)
      walk_at "rd"
      exact ⟨⟨_, _, rfl, Int.emod_nonneg _ (by decide), Int.le_of_lt (Int.emod_lt_of_pos _ (by decide))⟩, rfl⟩
    · rintro σ' H' ⟨⟨t, v, rfl, ht0, ht1⟩, rfl⟩
      walk_at "rd"
      exact k t

def LabP (v : V) : Prop := ∃ z : Str, v = .str z ∧ plainB z = true
theorem ok__law_label (T : Txt K mg) : Fn P w K mg base 2 "_law_label" ["source"] (spDrawn fun _ v => LabP v) := by
  refine T.d__law_label.ok sc__law_label (by rintro vs H Q E ⟨_, rfl, _⟩; rfl) (fun f cdv A outer s H vs Q E hr h => ?_)
  obtain ⟨a, rfl, hS, k⟩ := h
  refine ⟨_, (pss_cons (ps_set (i := 1) sc__law_label.nd rfl (.inl rfl) pe_str)
  (pss_cons (ps_set (i := 2) sc__law_label.nd rfl (.inl rfl) (pe_fn (ok__law_draw T) hr (by rfl) (pa_cons (pv 0) (pa_cons pe_int pa_nil))))
  (pss_cons (ps_if (pt_cmpR op_eq (pv 2) pe_int (nomark _))
  (pss_cons (ps_set (i := 3) sc__law_label.nd rfl (.inl rfl) pe_str)
  (pss_cons (ps_for PassesOwn.never rfl (pi_range1 rfl T.m_range (pa_cons (pe_op op_add pe_int (pe_fn (ok__law_draw T) hr (by rfl) (pa_cons (pv 0) (pa_cons pe_int pa_nil)))) pa_nil)) (pg_name (i := 4) sc__law_label.nd rfl (.inl rfl))
  (pss_one (ps_set (i := 3) sc__law_label.nd rfl (.inl rfl) (pe_op oAddS (pv 3) (pe_ix ix_str (pv 1) (pe_fn (ok__law_draw T) hr (by rfl) (pa_cons (pv 0) (pa_cons pe_int pa_nil))) (fun _ _ => rfl))))))
  (pss_one (ps_ret (pv 3)))))
  pss_nil)
  (pss_cons (ps_if (pt_cmpR op_eq (pv 2) pe_int (nomark _))
  (pss_one (ps_ret (pe_op oAddS (pe_op oMulS pe_str (pe_fn (ok__law_draw T) hr (by rfl) (pa_cons (pv 0) (pa_cons pe_int pa_nil)))) (pe_ix ix_str (pv 1) (pe_fn (ok__law_draw T) hr (by rfl) (pa_cons (pv 0) (pa_cons pe_int pa_nil))) (fun _ _ => rfl)))))
  pss_nil)
  (pss_cons (ps_set (i := 5) sc__law_label.nd rfl (.inl rfl) (pe_lst (pa_cons pe_str (pa_cons pe_str (pa_cons pe_str (pa_cons pe_str (pa_cons pe_str (pa_cons pe_str (pa_cons pe_str (pa_cons pe_str (pa_cons pe_str (pa_cons pe_str (pa_cons pe_str (pa_cons pe_str pa_nil))))))))))))))
  (pss_one (ps_ret (pe_ix ix_list (pv 5) (pe_fn (ok__law_draw T) hr (by rfl) (pa_cons (pv 0) (pa_cons pe_int pa_nil))) (fun _ _ => rfl))))))))), ?_⟩
  have e37 : ((CH.cps.toList.length : Nat) : Int) = 37 := by decide +kernel
  walk_at "en"
  refine r_draw hS (by decide) (by decide) fun H1 d b1 s1 d0 d1 => ?_
  walk_at "rd"
  walk_at "sp" <;> intro hd
  · walk_at "rd"
    refine r_draw s1 (by decide) (by decide) fun H2 n b2 s2 n0 n1 => ?_
    walk_at "rd"
    refine loopR (fun i σ' H' => ∃ (z : Str) (v : Option V), σ' = [some (.ref a), some (.str CH), some (.int d), some (.str z), v, none] ∧ z.length = i ∧ (∀ c ∈ z.cps.toList, c ∈ CH.cps.toList) ∧ But a H H' ∧ Src H' a) ⟨_, _, rfl, by decide +kernel, by decide +kernel, b1.trans b2, s2⟩ ?_ ?_
    · rintro i σ' H' hi ⟨z, v, rfl, hz, hA, b3, s3⟩
      walk_at "rd"
      refine r_draw s3 (by decide) (by decide) fun H3 d3 b4 s4 d30 d31 => ?_
      obtain ⟨c, hc, ha, _⟩ := atI_in (xs := CH.cps.toList) d30 (by rw [e37]; exact d31)
      refine r_ixS (by decide +kernel) ha ?_
      refine r_addS (by rw [hz, len_one]; omega) ?_
      walk_at "rd"
      refine ⟨_, _, rfl, by rw [len_app, len_one, hz], ?_, b3.trans b4, s4⟩
      intro x hx
      rw [cps_app] at hx
      rcases List.mem_append.mp hx with hx | hx
      · exact hA x hx
      · rw [show x = c by simpa using hx]; exact hc
    · rintro σ' H' ⟨z, v, rfl, hz, hA, b3, s3⟩
      walk_at "rd"
      exact k _ _ b3 s3 ⟨z, rfl, plain_iff.mpr ⟨by omega, hA⟩⟩
  · walk_at "rd"
    walk_at "sp" <;> intro hd2
    · walk_at "rd"
      refine r_draw s1 (by decide) (by decide) fun H2 n b2 s2 n0 n1 => ?_
      refine r_mulS (by decide +kernel) ⟨n0, by omega⟩ fun y hy1 hy2 => ?_
      walk_at "rd"
      refine r_draw s2 (by decide) (by decide) fun H3 d3 b3 s3 d30 d31 => ?_
      obtain ⟨c, hc, ha, _⟩ := atI_in (xs := CH.cps.toList) d30 (by rw [e37]; exact d31)
      have ea : ("a" : Str).length = 1 := by decide +kernel
      rw [ea] at hy1
      refine r_ixS (by decide +kernel) ha ?_
      refine r_addS (by rw [len_one]; omega) ?_
      refine k _ _ ((b1.trans b2).trans b3) s3 ⟨_, rfl, plain_iff.mpr ⟨by rw [len_app, len_one]; omega, ?_⟩⟩
      intro x hx
      rw [cps_app] at hx
      rcases List.mem_append.mp hx with hx | hx
      · have h97 : ∀ c ∈ ("a" : Str).cps.toList, c ∈ CH.cps.toList := by decide +kernel
        exact h97 x (hy2 x hx)
      · rw [show x = c by simpa using hx]; exact hc
    · walk_at "rd"
      intro p H2 n2 e2 hp
      walk_at "rd"
      refine r_draw (s1.ex e2) (by decide) (by decide) fun H3 d3 b3 s3 d30 d31 => ?_
      obtain ⟨v, hv, ha, _⟩ := atI_in (xs := ["a", "b", "ab", "ba", "aa", "-", "0", "a-", "z", "zzzzzzzzzzzzzzzzzzzz", "9", "tree"].map fun s : String => V.str s) d30 d31
      have hpa : p ≠ a := by
        rintro rfl
        obtain ⟨xs, h⟩ := s1.lst
        rw [n2] at h; cases h
      refine r_ixL (SqL.of (b3 _ _ hpa hp)) ha ?_
      refine k _ _ ((b1.same' e2).trans b3) s3 ?_
      have key : ∀ s ∈ ["a", "b", "ab", "ba", "aa", "-", "0", "a-", "z", "zzzzzzzzzzzzzzzzzzzz", "9", "tree"], plainB (s : Str) = true := by decide +kernel
      obtain ⟨s, hs, rfl⟩ := List.mem_map.mp hv
      exact ⟨_, rfl, key s hs⟩
def NameV (K : PySem.W.Frag) (H : Hp) (v : V) : Prop := ∃ (p : Addr) (zs : List Str), v = .ref p ∧ SqT K H p (zs.map V.str) ∧ nameB zs = true
theorem ok__law_name (T : Txt K mg) : Fn P w K mg base 3 "_law_name" ["source"] (spDrawn (NameV K)) := by
  refine T.d__law_name.ok sc__law_name (by rintro vs H Q E ⟨_, rfl, _⟩; rfl) (fun f cdv A outer s H vs Q E hr h => ?_)
  obtain ⟨a, rfl, hS, k⟩ := h
  refine ⟨_, (pss_cons (ps_set (i := 1) sc__law_name.nd rfl (.inl rfl) (pe_fn (ok__law_draw T) (hr.mono (by decide)) (by rfl) (pa_cons (pv 0) (pa_cons pe_int pa_nil))))
  (pss_cons (ps_set (i := 2) sc__law_name.nd rfl (.inl rfl) (pe_fn (ok__law_draw T) (hr.mono (by decide)) (by rfl) (pa_cons (pv 0) (pa_cons pe_int pa_nil))))
  (pss_cut (ps_if (pt_cmpR op_eq (pv 2) pe_int (nomark _))
  (pss_one (ps_set (i := 1) sc__law_name.nd rfl (.inl rfl) (pe_op op_add pe_int (pe_op op_mod (pe_callTy cInt (by rfl) T.m_int (by decide +kernel) (pa_cons (pv 1) pa_nil)) pe_int))))
  pss_nil)
  (pss_cut (ps_if (pt_cmpR op_gt (pv 2) pe_int (nomark _))
  (pss_one (ps_set (i := 1) sc__law_name.nd rfl (.inl rfl) (pe_op op_mod (pe_callTy cInt (by rfl) T.m_int (by decide +kernel) (pa_cons (pv 1) pa_nil)) pe_int)))
  pss_nil)
  (pss_cons (ps_set (i := 3) sc__law_name.nd rfl (.inl rfl) (pe_lst pa_nil))
  (pss_cons (ps_for PassesOwn.never rfl (pi_range1 rfl T.m_range (pa_cons (pv 1) pa_nil)) (pg_name (i := 4) sc__law_name.nd rfl (.inl rfl))
  (pss_one (ps_expr (pe_bm PySem.F.plainAttrs_list PySem.F.slot_list_append PySem.F.type_list_append mt_append (pv 3) (pa_cons (pe_fn (ok__law_label T) hr (by rfl) (pa_cons (pv 0) pa_nil)) pa_nil)))))
  (pss_cut (ps_if (PW.pt (pw_and (pt_cmpR op_gt (pv 1) pe_int (nomark _)) (pw_and1 (pt_cmpR op_eq (pe_fn (ok__law_draw T) (hr.mono (by decide)) (by rfl) (pa_cons (pv 0) (pa_cons pe_int pa_nil))) pe_int (nomark _)))))
  (pss_one (ps_asg pe_str (pg_sub (pv 3) (pe_op op_sub (pv 1) pe_int) set_list)))
  pss_nil)
  (pss_one (ps_ret (pe_callTy cTupOf (by rfl) T.m_tuple (by decide +kernel) (pa_cons (pv 3) pa_nil))))))))))), ?_⟩
  walk_at "en"
  refine r_draw hS (by decide) (by decide) fun H1 d b1 s1 d0 d1 => ?_
  walk_at "rd"
  refine r_draw s1 (by decide) (by decide) fun H2 d2 b2 s2 d20 d21 => ?_
  walk_at "rd"
  refine r_cut (fun σ' H' => H' = H2 ∧ ∃ n : Int, 0 ≤ n ∧ n ≤ 12 ∧ σ' = [some (.ref a), some (.int n), some (.int d2), none, none]) ?_ ?_
  · walk_at "rd"
    walk_at "sp" <;> intro hd
    · walk_at "rd"
      exact ⟨rfl, _, by omega, by omega, rfl⟩
    · walk_at "rd"
      exact ⟨rfl, _, by omega, by omega, rfl⟩
  rintro σ' H' ⟨rfl, n, hn0, hn1, rfl⟩
  refine r_cut (fun σ' H'' => H'' = H' ∧ ∃ n : Int, 0 ≤ n ∧ n ≤ 12 ∧ σ' = [some (.ref a), some (.int n), some (.int d2), none, none]) ?_ ?_
  · walk_at "rd"
    walk_at "sp" <;> intro hd
    · walk_at "rd"
      exact ⟨rfl, _, by omega, by omega, rfl⟩
    · walk_at "rd"
      exact ⟨rfl, _, by omega, by omega, rfl⟩
  rintro σ' H3 ⟨rfl, n, hn0, hn1, rfl⟩
  walk_at "rd"
  intro p H4 n4 e4 hp
  walk_at "rd"
  have hpa : p ≠ a := by
    rintro rfl
    obtain ⟨xs, h⟩ := s2.lst
    rw [n4] at h; cases h
  have hbp : But a H H3 := b1.trans b2
  have hnp : H p = none := but_fresh hbp hpa n4
  refine loopR (fun i σ' H' => ∃ (zs : List Str) (v : Option V), σ' = [some (.ref a), some (.int n), some (.int d2), some (.ref p), v] ∧ zs.length = i ∧ (∀ z ∈ zs, plainB z = true) ∧ But a H H' ∧ Src H' a ∧ H' p = some (.lst (zs.map V.str))) ⟨[], _, rfl, rfl, by simp, hbp.same' e4, s2.ex e4, hp⟩ ?_ ?_
  · rintro i σ' H' hi ⟨zs, v, rfl, hz, hA, b5, s5, hp5⟩
    walk_at "rd"
    refine r_append hp5 ?_
    walk_at "rd"
    refine r_drawn s5 fun H7 v7 b7 s7 hv7 => ?_
    obtain ⟨y, rfl, hy⟩ := hv7
    walk_at "rd"
    refine r_append1 (b7 _ _ hpa hp5) (by rw [List.length_map]; omega) fun H8 b8 h8 => ?_
    refine ⟨zs ++ [y], _, rfl, by simp [hz], ?_, (b5.trans b7).step b8 hnp, s7.but b8 hpa.symm, by rw [h8, List.map_append]; rfl⟩
    intro x hx
    rcases List.mem_append.mp hx with hx | hx
    · exact hA x hx
    · rw [List.mem_singleton.mp hx]; exact hy
  rintro σ' H5 ⟨zs, v, rfl, hz, hA, b5, s5, hp5⟩
  have hfirst : nameB zs = true := name_yes (by omega) fun i y hy => .inl (hA y (List.mem_of_getElem? hy))
  refine r_cut (fun σ' H' => ∃ (zs : List Str) (v : Option V), σ' = [some (.ref a), some (.int n), some (.int d2), some (.ref p), v] ∧ nameB zs = true ∧ But a H H' ∧ Src H' a ∧ H' p = some (.lst (zs.map V.str))) ?_ ?_
  · walk_at "rd"
    walk_at "sp" <;> intro hn
    · walk_at "rd"
      refine r_draw s5 (by decide) (by decide) fun H6 d6 b6 s6 _ _ => ?_
      walk_at "rd"
      walk_at "sp" <;> intro hd6
      · walk_at "rd"
        refine r_setL (b6 _ _ hpa hp5) (ixN_in (by omega) (by rw [List.length_map, hz]; omega)) fun H9 b9 h9 => ?_
        refine ⟨zs.set (n - 1).toNat "*", v, rfl, ?_, (b5.trans b6).step b9 hnp, s6.but b9 hpa.symm, by rw [h9, List.map_set]⟩
        refine name_yes (by simp; omega) fun i y hy => ?_
        rw [List.getElem?_set] at hy
        split at hy
        · split at hy
          · rename_i h1 h2
            refine .inr ⟨?_, (Option.some.inj hy).symm⟩
            rw [List.length_set]; omega
          · cases hy
        · exact .inl (hA y (List.mem_of_getElem? hy))
      · walk_at "rd"
        exact ⟨zs, v, rfl, hfirst, b5.trans b6, s6, b6 _ _ hpa hp5⟩
    · walk_at "rd"
      exact ⟨zs, v, rfl, hfirst, b5, s5, hp5⟩
  clear hfirst hp5 s5 b5 hA hz v zs
  rintro σ' H5 ⟨zs, v, rfl, hz, b5, s5, hp5⟩
  walk_at "rd"
  refine r_tupOf (SqL.of hp5) fun l H6 n6 e6 h6 => ?_
  exact k _ _ (b5.same' e6) (s5.ex e6) ⟨l, zs, rfl, SqT.of h6, hz⟩

def AscAll (xs : List Str) : Prop := ∀ x ∈ xs, Asc x
def spTwo (K : PySem.W.Frag) (r : List Str → List Str → Bool) : Sp := fun vs H Q _ => ∃ (a b : Addr) (xs ys : List Str), vs = [.ref a, .ref b] ∧ SqT K H a (xs.map V.str) ∧ SqT K H b (ys.map V.str) ∧ AscAll xs ∧ AscAll ys ∧ ∀ H', Same H H' → Q (.bl (r xs ys)) H'
def inB (xs ys : List Str) : Bool := decide (xs.take ys.length = ys)
theorem ok_lies_in (T : Txt K mg) : Fn P w K mg base 1 "lies_in" ["name", "above"] (spTwo K inB) := by
  refine T.d_lies_in.ok sc_lies_in (by rintro vs H Q E ⟨_, _, _, _, rfl, _⟩; rfl) (fun f cdv A outer s H vs Q E hr h => ?_)
  obtain ⟨a, b, xs, ys, rfl, h1, h2, o1, o2, k⟩ := h
  refine ⟨_, (pss_one (ps_ret (pe_cmpR (op_eqD hr.units) (pe_slice sl_tupA (pv 0) po_none (po_some (pe_callB cLenQ (by rfl) T.m_len PySem.boot_len (pa_cons (pv 1) pa_nil)))) (pv 1) (nomark _)))), ?_⟩
  walk_at "en"
  refine r_slA h1 fun p H2 e2 hp => ?_
  rw [cutV_to (by omega), List.length_map, ← List.map_take] at hp
  walk_at "rd"
  refine r_eqTS hp (ex_t e2 h2) (fun x hx => o1 x (List.mem_of_mem_take hx)) o2 ?_
  exact k _ e2
def belowB (xs ys : List Str) : Bool := inB xs ys && !decide (xs = ys)
theorem ok_lies_below (T : Txt K mg) : Fn P w K mg base 2 "lies_below" ["name", "above"] (spTwo K belowB) := by
  refine T.d_lies_below.ok sc_lies_below (by rintro vs H Q E ⟨_, _, _, _, rfl, _⟩; rfl) (fun f cdv A outer s H vs Q E hr h => ?_)
  obtain ⟨a, b, xs, ys, rfl, h1, h2, o1, o2, k⟩ := h
  refine ⟨_, (pss_one (ps_ret (pe_and (pe_fn (ok_lies_in T) hr (by rfl) (pa_cons (pv 0) (pa_cons (pv 1) pa_nil))) (pe_one (pe_cmpR (op_neD hr.units) (pv 0) (pv 1) (nomark _)))))), ?_⟩
  walk_at "en"
  refine ⟨a, b, xs, ys, rfl, h1, h2, o1, o2, fun H1 e1 => ?_⟩
  walk_at "rd"
  cases hb : inB xs ys with
  | true =>
    walk_at "rd"
    refine r_neTS (ex_t e1 h1) (ex_t e1 h2) o1 o2 ?_
    have := k _ e1
    unfold belowB at this
    rw [hb, Bool.true_and] at this
    exact this
  | false =>
    walk_at "rd"
    have := k _ e1
    unfold belowB at this
    rw [hb, Bool.false_and] at this
    exact this
/-- how many labels two names have in common, from the root down -/
def com : List Str → List Str → Nat
  | x :: xs, y :: ys => if x = y then com xs ys + 1 else 0
  | _, _ => 0
theorem com_le : ∀ xs ys, com xs ys ≤ xs.length ∧ com xs ys ≤ ys.length
  | [], _ => by simp [com]
  | _ :: _, [] => by simp [com]
  | x :: xs, y :: ys => by
    have := com_le xs ys
    unfold com
    split <;> simp <;> omega
theorem com_at : ∀ (xs ys : List Str) (n : Nat), n ≤ xs.length → n ≤ ys.length → (∀ i, i < n → xs[i]? = ys[i]?) → (n = xs.length ∨ n = ys.length ∨ xs[n]? ≠ ys[n]?) → com xs ys = n
  | [], ys, n, h1, _, _, _ => by simp at h1; subst h1; simp [com]
  | x :: xs, [], n, _, h2, _, _ => by simp at h2; subst h2; simp [com]
  | x :: xs, y :: ys, 0, _, _, _, h4 => by
    unfold com
    rcases h4 with h | h | h
    · simp at h
    · simp at h
    · simp at h
      rw [if_neg h]
  | x :: xs, y :: ys, n + 1, h1, h2, h3, h4 => by
    unfold com
    have h0 := h3 0 (by omega)
    simp at h0
    rw [if_pos h0, com_at xs ys n (by simpa using h1) (by simpa using h2) (fun i hi => by simpa using h3 (i + 1) (by omega)) (by simpa using h4)]
def spShared (K : PySem.W.Frag) : Sp := fun vs H Q _ => ∃ (a b : Addr) (xs ys : List Str), vs = [.ref a, .ref b] ∧ SqT K H a (xs.map V.str) ∧ SqT K H b (ys.map V.str) ∧ ∀ p H', Same H H' → SqT K H' p ((xs.take (com xs ys)).map V.str) → Q (.ref p) H'
theorem ok_shared (T : Txt K mg) : Fn P w K mg base 1 "shared" ["name", "other"] (spShared K) := by
  refine T.d_shared.ok sc_shared (by rintro vs H Q E ⟨_, _, _, _, rfl, _⟩; rfl) (fun f cdv A outer s H vs Q E hr h => ?_)
  obtain ⟨a, b, xs, ys, rfl, h1, h2, k⟩ := h
  refine ⟨_, (pss_cons (ps_set (i := 2) sc_shared.nd rfl (.inl rfl) pe_int)
  (pss_cons (ps_for PassesOwn.never rfl (RZ.pi_zipA rfl T.m_zip (pa_cons (pv 0) (pa_cons (pv 1) pa_nil))) (pg_tup (by rfl) (pgs_cons (pg_name (i := 3) sc_shared.nd rfl (.inl rfl)) (pgs_cons (pg_name (i := 4) sc_shared.nd rfl (.inl rfl)) pgs_nil)))
  (pss_cons (ps_if (pt_cmpR op_ne (pv 3) (pv 4) (nomark _))
  (pss_one ps_break)
  pss_nil)
  (pss_one (ps_aug (i := 2) sc_shared.nd rfl (.inl rfl) pe_int ip_add))))
  (pss_one (ps_ret (pe_slice sl_tupA (pv 0) po_none (po_some (pv 2))))))), ?_⟩
  have fin : ∀ (n : Nat) (H' : Hp), Same H H' → com xs ys = n → rSlA K (V.ref a) none (some (n : Int)) H' Q := fun n H' e hn => by
    refine r_slA (ex_t e h1) fun p H2 e2 hp => ?_
    rw [cutV_to (by omega), Int.toNat_natCast, ← List.map_take, ← hn] at hp
    exact k _ _ (e.trans e2) hp
  walk_at "en"
  refine r_zipT h1 h2 ?_
  refine loopZ (xs := xs.map V.str) (ys := ys.map V.str) (fun i σ' H' => (∃ v v', σ' = [some (.ref a), some (.ref b), some (.int i), v, v']) ∧ Same H H' ∧ i ≤ xs.length ∧ i ≤ ys.length ∧ ∀ j, j < i → xs[j]? = ys[j]?) ⟨⟨_, _, rfl⟩, Same.refl _, by omega, by omega, by intro j hj; omega⟩ (fun i σ' H' ⟨_, e, _⟩ => ⟨ex_t e h1, ex_t e h2⟩) ?_ ?_
  · rintro i x y p σ' H' H2 hx hy ⟨⟨v, v', rfl⟩, e1, hi1, hi2, hall⟩ e2 hp
    obtain ⟨x, hx', rfl⟩ := map_get hx
    obtain ⟨y, hy', rfl⟩ := map_get hy
    clear hx hy
    refine r_gTup2 hp ?_
    walk_at "rd"
    walk_at "sp" <;> intro hne
    · walk_at "rd"
      refine fin i _ (e1.trans e2) (com_at xs ys i hi1 hi2 hall (.inr (.inr ?_)))
      rw [hx', hy']
      intro z
      exact hne (Option.some.inj z)
    · walk_at "rd"
      refine ⟨⟨_, _, rfl⟩, e1.trans e2, (List.getElem?_eq_some_iff.mp hx').1, (List.getElem?_eq_some_iff.mp hy').1, fun j hj => ?_⟩
      by_cases e : j = i
      · subst e; rw [hx', hy', hne]
      · exact hall j (by omega)
  · rintro σ' H' ⟨⟨v, v', rfl⟩, e1, hi1, hi2, hall⟩
    rw [List.length_map, List.length_map] at hall hi1 hi2 ⊢
    walk_at "rd"
    refine fin _ _ e1 (com_at xs ys _ hi1 hi2 hall ?_)
    omega

theorem ok__law_longer (T : Txt K mg) : Fn P w K mg base 3 "_law_longer" ["labels", "source"] (fun vs H Q _ => ∃ (l a : Addr) (zs : List Str), vs = [.ref l, .ref a] ∧ H l = some (.lst (zs.map V.str)) ∧ l ≠ a ∧ (∀ z ∈ zs, plainB z = true) ∧ zs.length ≤ 12 ∧ Src H a ∧ ∀ H' v, But a H H' → Src H' a → NameV K H' v → Q v H') := by
  refine T.d__law_longer.ok sc__law_longer (by rintro vs H Q E ⟨_, _, _, rfl, _⟩; rfl) (fun f cdv A outer s H vs Q E hr h => ?_)
  obtain ⟨l, a, zs, rfl, hL, hla, hP, hl, hS, k⟩ := h
  refine ⟨_, (pss_cons (ps_set (i := 2) sc__law_longer.nd rfl (.inl rfl) (pe_op op_sub pe_int (pe_callB cLenQ (by rfl) T.m_len PySem.boot_len (pa_cons (pv 0) pa_nil))))
  (pss_cons (ps_set (i := 3) sc__law_longer.nd rfl (.inl rfl) (pe_callTy cListOf (by rfl) T.m_list (by decide +kernel) (pa_cons (pv 0) pa_nil)))
  (pss_cons (ps_for PassesOwn.never rfl (pi_range1 rfl T.m_range (pa_cons (pe_op op_mod (pe_callTy cInt (by rfl) T.m_int (by decide +kernel) (pa_cons (pe_fn (ok__law_draw T) (hr.mono (by decide)) (by rfl) (pa_cons (pv 1) (pa_cons pe_int pa_nil))) pa_nil)) (pv 2)) pa_nil)) (pg_name (i := 4) sc__law_longer.nd rfl (.inl rfl))
  (pss_one (ps_expr (pe_bm PySem.F.plainAttrs_list PySem.F.slot_list_append PySem.F.type_list_append mt_append (pv 3) (pa_cons (pe_fn (ok__law_label T) hr (by rfl) (pa_cons (pv 1) pa_nil)) pa_nil)))))
  (pss_cut (ps_if (PW.pt (pw_and (pt_cmpR op_gt (pe_callB cLenQ (by rfl) T.m_len PySem.boot_len (pa_cons (pv 3) pa_nil)) (pe_callB cLenQ (by rfl) T.m_len PySem.boot_len (pa_cons (pv 0) pa_nil)) (nomark _)) (pw_and1 (pt_cmpR op_eq (pe_fn (ok__law_draw T) (hr.mono (by decide)) (by rfl) (pa_cons (pv 1) (pa_cons pe_int pa_nil))) pe_int (nomark _)))))
  (pss_one (ps_asg pe_str (pg_sub (pv 3) (pe_op op_sub (pe_callB cLenQ (by rfl) T.m_len PySem.boot_len (pa_cons (pv 3) pa_nil)) pe_int) set_list)))
  pss_nil)
  (pss_one (ps_ret (pe_callTy cTupOf (by rfl) T.m_tuple (by decide +kernel) (pa_cons (pv 3) pa_nil)))))))), ?_⟩
  walk_at "en"
  rw [List.length_map]
  refine r_listOf (.inl (SqL.of hL)) fun p H1 n1 e1 hp => ?_
  have hpa : p ≠ a := by
    rintro rfl
    obtain ⟨xs, h⟩ := hS.lst
    rw [n1] at h; cases h
  walk_at "rd"
  refine r_draw (hS.ex e1) (by decide) (by decide) fun H2 d b2 s2 d0 d1 => ?_
  have r1 := Int.emod_nonneg d (show (13 - (zs.length : Int)) ≠ 0 by omega)
  have r2 := Int.emod_lt_of_pos d (show (0 : Int) < 13 - (zs.length : Int) by omega)
  walk_at "rd"
  have b2' : But a H H2 := But.pre e1 b2
  refine loopR (fun i σ' H' => ∃ (ys : List Str) (v : Option V), σ' = [some (.ref l), some (.ref a), some (.int (13 - (zs.length : Int))), some (.ref p), v] ∧ ys.length = zs.length + i ∧ (∀ z ∈ ys, plainB z = true) ∧ But a H H' ∧ Src H' a ∧ H' l = some (.lst (zs.map V.str)) ∧ H' p = some (.lst (ys.map V.str))) ⟨zs, _, rfl, rfl, hP, b2', s2, b2 _ _ hla (e1 _ _ hL), b2 _ _ hpa hp⟩ ?_ ?_
  · rintro i σ' H' hi ⟨ys, v, rfl, hz, hA, b5, s5, hl5, hp5⟩
    walk_at "rd"
    refine r_append hp5 ?_
    walk_at "rd"
    refine r_drawn s5 fun H7 v7 b7 s7 hv7 => ?_
    obtain ⟨y, rfl, hy⟩ := hv7
    walk_at "rd"
    refine r_append1 (b7 _ _ hpa hp5) (by rw [List.length_map]; omega) fun H8 b8 h8 => ?_
    have hpl : l ≠ p := by
      rintro rfl
      rw [n1] at hL; cases hL
    refine ⟨ys ++ [y], _, rfl, by simp [hz]; omega, ?_, (b5.trans b7).step b8 n1, s7.but b8 hpa.symm, b8 _ _ hpl (b7 _ _ hla hl5), by rw [h8, List.map_append]; rfl⟩
    intro x hx
    rcases List.mem_append.mp hx with hx | hx
    · exact hA x hx
    · rw [List.mem_singleton.mp hx]; exact hy
  rintro σ' H5 ⟨ys, v, rfl, hz, hA, b5, s5, hl5, hp5⟩
  have hy12 : ys.length ≤ 12 := by omega
  refine r_cut (fun σ' H' => ∃ (ys : List Str), σ' = [some (.ref l), some (.ref a), some (.int (13 - (zs.length : Int))), some (.ref p), v] ∧ nameB ys = true ∧ But a H H' ∧ Src H' a ∧ H' p = some (.lst (ys.map V.str))) ?_ ?_
  · walk_at "rd"
    rw [List.length_map, List.length_map]
    walk_at "sp" <;> intro hn
    · walk_at "rd"
      refine r_draw s5 (by decide) (by decide) fun H6 d6 b6 s6 _ _ => ?_
      walk_at "rd"
      have hp6 := b6 _ _ hpa hp5
      walk_at "sp" <;> intro hd6
      · walk_at "rd"
        rw [List.length_map]
        refine r_setL hp6 (ixN_in (by omega) (by rw [List.length_map]; omega)) fun H9 b9 h9 => ?_
        refine ⟨ys.set ((ys.length : Int) - 1).toNat "*", rfl, ?_, (b5.trans b6).step b9 n1, s6.but b9 hpa.symm, by rw [h9, List.map_set]⟩
        refine name_yes (by simp; omega) fun i y hy => ?_
        rw [List.getElem?_set] at hy
        split at hy
        · split at hy
          · refine .inr ⟨?_, (Option.some.inj hy).symm⟩
            rw [List.length_set]; omega
          · cases hy
        · exact .inl (hA y (List.mem_of_getElem? hy))
      · walk_at "rd"
        exact ⟨ys, rfl, plain_name hy12 hA, b5.trans b6, s6, b6 _ _ hpa hp5⟩
    · walk_at "rd"
      exact ⟨ys, rfl, plain_name hy12 hA, b5, s5, hp5⟩
  clear hp5 hl5 s5 b5 hA hz hy12 ys
  rintro σ' H5 ⟨ys, rfl, hn, b5, s5, hp5⟩
  walk_at "rd"
  refine r_tupOf (SqL.of hp5) fun t H6 n6 e6 h6 => ?_
  exact k _ _ (b5.same' e6) (s5.ex e6) ⟨t, ys, rfl, SqT.of h6, hn⟩
theorem ok__law_common (T : Txt K mg) : Fn P w K mg base 1 "_law_common" ["name", "other"] (fun vs H Q _ => ∃ (a b : Addr) (xs ys : List Str), vs = [.ref a, .ref b] ∧ SqT K H a (xs.map V.str) ∧ SqT K H b (ys.map V.str) ∧ xs.length ≤ 1000 ∧ ys.length ≤ 1000 ∧ Q (.int (com xs ys)) H) := by
  refine T.d__law_common.ok sc__law_common (by rintro vs H Q E ⟨_, _, _, _, rfl, _⟩; rfl) (fun f cdv A outer s H vs Q E hr h => ?_)
  obtain ⟨a, b, xs, ys, rfl, h1, h2, l1, l2, k⟩ := h
  refine ⟨_, (pss_cons (ps_for PassesOwn.never rfl (pi_range1 rfl T.m_range (pa_cons (pe_callB (cMin2 rfl) (by rfl) T.m_min (by decide +kernel) (pa_cons (pe_callB cLenQ (by rfl) T.m_len PySem.boot_len (pa_cons (pv 0) pa_nil)) (pa_cons (pe_callB cLenQ (by rfl) T.m_len PySem.boot_len (pa_cons (pv 1) pa_nil)) pa_nil))) pa_nil)) (pg_name (i := 2) sc__law_common.nd rfl (.inl rfl))
  (pss_one (ps_if (pt_cmpR op_ne (pe_ix ix_tup (pv 0) (pv 2) (fun _ _ => rfl)) (pe_ix ix_tup (pv 1) (pv 2) (fun _ _ => rfl)) (nomark _))
  (pss_one (ps_ret (pv 2)))
  pss_nil)))
  (pss_one (ps_ret (pe_callB (cMin2 rfl) (by rfl) T.m_min (by decide +kernel) (pa_cons (pe_callB cLenQ (by rfl) T.m_len PySem.boot_len (pa_cons (pv 0) pa_nil)) (pa_cons (pe_callB cLenQ (by rfl) T.m_len PySem.boot_len (pa_cons (pv 1) pa_nil)) pa_nil)))))), ?_⟩
  have em : (if ((ys.length : Nat) : Int) < ((xs.length : Nat) : Int) then ((ys.length : Nat) : Int) else ((xs.length : Nat) : Int)) = ((min xs.length ys.length : Nat) : Int) := by split <;> omega
  walk_at "en"
  rw [List.length_map, List.length_map, em]
  walk_at "rd"
  refine loopR (fun i σ' H' => (∃ v, σ' = [some (.ref a), some (.ref b), v]) ∧ H' = H ∧ ∀ j, j < i → xs[j]? = ys[j]?) ⟨⟨_, rfl⟩, rfl, by intro j hj; omega⟩ ?_ ?_
  · rintro i σ' H' hi ⟨⟨v, rfl⟩, rfl, hall⟩
    have hi2 : i < min xs.length ys.length := by omega
    have g1 := List.getElem?_eq_getElem (show i < xs.length by omega)
    have g2 := List.getElem?_eq_getElem (show i < ys.length by omega)
    walk_at "rd"
    refine r_ixT h1 (v := .str xs[i]) (by rw [Int.zero_add]; exact atI_nat (by rw [List.getElem?_map, g1]; rfl)) ?_
    walk_at "rd"
    refine r_ixT h2 (v := .str ys[i]) (by rw [Int.zero_add]; exact atI_nat (by rw [List.getElem?_map, g2]; rfl)) ?_
    walk_at "rd"
    walk_at "sp" <;> intro hne
    · walk_at "rd"
      rw [Int.zero_add]
      rw [com_at xs ys i (by omega) (by omega) hall (.inr (.inr (by rw [g1, g2]; intro z; exact hne (Option.some.inj z))))] at k
      exact k
    · walk_at "rd"
      refine ⟨⟨_, rfl⟩, rfl, fun j hj => ?_⟩
      by_cases e : j = i
      · subst e; rw [g1, g2, hne]
      · exact hall j (by omega)
  · rintro σ' H' ⟨⟨v, rfl⟩, rfl, hall⟩
    walk_at "rd"
    rw [List.length_map, List.length_map, em]
    rw [com_at xs ys (min xs.length ys.length) (by omega) (by omega) (fun j hj => hall j (by omega)) (by omega)] at k
    exact k
theorem ok__law_bool (T : Txt K mg) : Fn P w K mg base 1 "_law_bool" ["actual", "expected"] (fun vs H Q _ => ∃ x y : Bool, vs = [.bl x, .bl y] ∧ Q (.bl (decide (x = y))) H) := by
  refine T.d__law_bool.ok sc__law_bool (by rintro vs H Q E ⟨_, _, rfl, _⟩; rfl) (fun f cdv A outer s H vs Q E hr h => ?_)
  obtain ⟨x, y, rfl, k⟩ := h
  refine ⟨_, (pss_one (ps_ret (pe_and (pe_callB call_isi (by rfl) T.m_isinstance (by decide +kernel) (pa_cons (pv 0) (pa_cons (pe_bltn (v := .ty "bool") rfl T.m_bool (by decide +kernel) rfl) pa_nil))) (pe_one (pe_cmpR op_eq (pv 0) (pv 1) (nomark _)))))), ?_⟩
  walk_at "en"
  exact k

theorem ok__law_other (T : Txt K mg) : Fn P w K mg base 4 "_law_other" ["name", "source"] (fun vs H Q _ => ∃ (n a : Addr) (zs : List Str), vs = [.ref n, .ref a] ∧ SqT K H n (zs.map V.str) ∧ nameB zs = true ∧ Src H a ∧ ∀ H' v, But a H H' → Src H' a → NameV K H' v → Q v H') := by
  refine T.d__law_other.ok sc__law_other (by rintro vs H Q E ⟨_, _, _, rfl, _⟩; rfl) (fun f cdv A outer s H vs Q E hr h => ?_)
  obtain ⟨n, a, zs, rfl, hT, hn, hS, k⟩ := h
  refine ⟨_, (pss_cons (ps_set (i := 2) sc__law_other.nd rfl (.inl rfl) (pe_callTy cListOf (by rfl) T.m_list (by decide +kernel) (pa_cons (pv 0) pa_nil)))
  (pss_cut (ps_if (PW.pt (pw_and (pt_cmpR op_gt (pe_callB cLenQ (by rfl) T.m_len PySem.boot_len (pa_cons (pv 2) pa_nil)) pe_int (nomark _)) (pw_and1 (pt_cmpR op_eq (pe_ix ix_list (pv 2) (pe_un un_neg pe_int) (fun _ _ => rfl)) pe_str (nomark _)))))
  (pss_one (ps_set (i := 2) sc__law_other.nd rfl (.inl rfl) (pe_slice sl_list (pv 2) po_none (po_some (pe_un un_neg pe_int)))))
  pss_nil)
  (pss_cons (ps_set (i := 3) sc__law_other.nd rfl (.inl rfl) (pe_fn (ok__law_draw T) (hr.mono (by decide)) (by rfl) (pa_cons (pv 1) (pa_cons pe_int pa_nil))))
  (pss_cons (ps_if (pt_cmpR op_eq (pv 3) pe_int (nomark _))
  (pss_one (ps_ret (pe_callTy cTupOf (by rfl) T.m_tuple (by decide +kernel) (pa_cons (pe_callTy cListOf (by rfl) T.m_list (by decide +kernel) (pa_cons (pv 0) pa_nil)) pa_nil))))
  pss_nil)
  (pss_cons (ps_if (pt_cmpR op_eq (pv 3) pe_int (nomark _))
  (pss_one (ps_ret (pe_callTy cTupOf (by rfl) T.m_tuple (by decide +kernel) (pa_cons (pe_slice sl_list (pv 2) po_none (po_some (pe_op op_mod (pe_callTy cInt (by rfl) T.m_int (by decide +kernel) (pa_cons (pe_fn (ok__law_draw T) (hr.mono (by decide)) (by rfl) (pa_cons (pv 1) (pa_cons pe_int pa_nil))) pa_nil)) (pe_op op_add (pe_callB cLenQ (by rfl) T.m_len PySem.boot_len (pa_cons (pv 2) pa_nil)) pe_int)))) pa_nil))))
  pss_nil)
  (pss_cons (ps_if (pt_cmpR op_eq (pv 3) pe_int (nomark _))
  (pss_one (ps_ret (pe_fn (ok__law_longer T) hr (by rfl) (pa_cons (pv 2) (pa_cons (pv 1) pa_nil)))))
  pss_nil)
  (pss_cons (ps_if (pt_cmpR op_eq (pv 3) pe_int (nomark _))
  (pss_one (ps_ret (pe_fn (ok__law_longer T) hr (by rfl) (pa_cons (pe_slice sl_list (pv 2) po_none (po_some (pe_op op_mod (pe_callTy cInt (by rfl) T.m_int (by decide +kernel) (pa_cons (pe_fn (ok__law_draw T) (hr.mono (by decide)) (by rfl) (pa_cons (pv 1) (pa_cons pe_int pa_nil))) pa_nil)) (pe_op op_add (pe_callB cLenQ (by rfl) T.m_len PySem.boot_len (pa_cons (pv 2) pa_nil)) pe_int)))) (pa_cons (pv 1) pa_nil)))))
  pss_nil)
  (pss_cons (ps_if (PW.pt (pw_and (pt_cmpR op_eq (pv 3) pe_int (nomark _)) (pw_and1 (pt_cmpR op_gt (pe_callB cLenQ (by rfl) T.m_len PySem.boot_len (pa_cons (pv 2) pa_nil)) pe_int (nomark _)))))
  (pss_cons (ps_asg (pe_fn (ok__law_label T) (hr.mono (by decide)) (by rfl) (pa_cons (pv 1) pa_nil)) (pg_sub (pv 2) (pe_op op_mod (pe_callTy cInt (by rfl) T.m_int (by decide +kernel) (pa_cons (pe_fn (ok__law_draw T) (hr.mono (by decide)) (by rfl) (pa_cons (pv 1) (pa_cons pe_int pa_nil))) pa_nil)) (pe_callB cLenQ (by rfl) T.m_len PySem.boot_len (pa_cons (pv 2) pa_nil))) set_list))
  (pss_one (ps_ret (pe_callTy cTupOf (by rfl) T.m_tuple (by decide +kernel) (pa_cons (pv 2) pa_nil)))))
  pss_nil)
  (pss_one (ps_ret (pe_fn (ok__law_name T) hr (by rfl) (pa_cons (pv 1) pa_nil)))))))))))), ?_⟩
  have hl := name_len hn
  walk_at "en"
  refine r_listOf (.inr hT) fun p H1 n1 e1 hp => ?_
  walk_at "rd"
  refine r_cut (fun σ' H' => ∃ (q : Addr) (ys : List Str), σ' = [some (.ref n), some (.ref a), some (.ref q), none] ∧ Same H1 H' ∧ H q = none ∧ H' q = some (.lst (ys.map V.str)) ∧ (∀ z ∈ ys, plainB z = true) ∧ ys.length ≤ 12) ?_ ?_
  · walk_at "rd"
    rw [List.length_map]
    walk_at "sp" <;> intro h0
    · walk_at "rd"
      have h1 : zs.length - 1 < zs.length := by omega
      have g := List.getElem?_eq_getElem h1
      refine r_ixL (SqL.of hp) (v := .str zs[zs.length-1]) (atI_end (by rw [List.length_map, List.getElem?_map, g]; rfl)) ?_
      walk_at "rd"
      have hw := last_wild g
      walk_at "sp" <;> intro he
      · walk_at "rd"
        refine r_slL (SqL.of hp) fun q H2 n2 e2 hq => ?_
        rw [cutV_last, ← List.map_dropLast] at hq
        walk_at "rd"
        exact ⟨q, _, rfl, e2, fresh_back e1 n2, hq, name_plainW hn (by rw [hw, decide_eq_true he]), by simp; omega⟩
      · walk_at "rd"
        exact ⟨p, zs, rfl, Same.refl _, n1, hp, name_plain hn (by rw [hw, decide_eq_false he]), hl⟩
    · walk_at "rd"
      exact ⟨p, zs, rfl, Same.refl _, n1, hp, by intro z hz; have := List.length_pos_of_mem hz; omega, hl⟩
  rintro σ' H2 ⟨q, ys, rfl, e2, nq, hq, hP, hy⟩
  have hqa : q ≠ a := by
    rintro rfl
    obtain ⟨xs, h⟩ := hS.lst
    rw [nq] at h; cases h
  have e02 := e1.trans e2
  have s2 := hS.ex e02
  obtain ⟨sl, hsl⟩ := s2.lst
  walk_at "rd"
  refine r_draw s2 (by decide) (by decide) fun H3 d b3 s3 d0 d1 => ?_
  have b03 : But a H H3 := But.pre e02 b3
  have hq3 := b3 _ _ hqa hq
  have hT3 : SqT K H3 n (zs.map V.str) := but_t b3 hsl (ex_t e02 hT)
  have r1 : ∀ c : Int, 0 ≤ c % ((ys.length : Int) + 1) := fun c => Int.emod_nonneg c (by omega)
  have r2 : ∀ c : Int, c % ((ys.length : Int) + 1) < (ys.length : Int) + 1 := fun c => Int.emod_lt_of_pos c (by omega)
  walk_at "rd"
  walk_at "sp" <;> intro h0
  · walk_at "rd"
    refine r_listOf (.inr hT3) fun r H4 n4 e4 hr => ?_
    walk_at "rd"
    refine r_tupOf (SqL.of hr) fun t H5 n5 e5 ht => ?_
    exact k _ _ ((b03.same' e4).same' e5) ((s3.ex e4).ex e5) ⟨t, zs, rfl, SqT.of ht, hn⟩
  · walk_at "rd"
    walk_at "sp" <;> intro h1
    · walk_at "rd"
      refine r_draw s3 (by decide) (by decide) fun H4 c b4 s4 _ _ => ?_
      have hq4 := b4 _ _ hqa hq3
      walk_at "rd"
      rw [List.length_map]
      walk_at "rd"
      refine r_slL (SqL.of hq4) fun u H5 n5 e5 hu => ?_
      rw [cutV_to (r1 c), ← List.map_take] at hu
      walk_at "rd"
      refine r_tupOf (SqL.of hu) fun t H6 n6 e6 ht => ?_
      exact k _ _ (((b03.trans b4).same' e5).same' e6) ((s4.ex e5).ex e6) ⟨t, _, rfl, SqT.of ht, plain_name (by simp; omega) fun z hz => hP z (List.mem_of_mem_take hz)⟩
    · walk_at "rd"
      walk_at "sp" <;> intro h2
      · walk_at "rd"
        exact ⟨q, a, ys, rfl, hq3, hqa, hP, hy, s3, fun H4 v b4 s4 hv => k _ _ (b03.trans b4) s4 hv⟩
      · walk_at "rd"
        walk_at "sp" <;> intro h3
        · walk_at "rd"
          refine r_draw s3 (by decide) (by decide) fun H4 c b4 s4 _ _ => ?_
          have hq4 := b4 _ _ hqa hq3
          walk_at "rd"
          rw [List.length_map]
          walk_at "rd"
          refine r_slL (SqL.of hq4) fun u H5 n5 e5 hu => ?_
          rw [cutV_to (r1 c), ← List.map_take] at hu
          have hua : u ≠ a := by
            rintro rfl
            obtain ⟨xs, h⟩ := s4.lst
            rw [n5] at h; cases h
          walk_at "rd"
          exact ⟨u, a, _, rfl, hu, hua, fun z hz => hP z (List.mem_of_mem_take hz), by simp; omega, s4.ex e5, fun H6 v b6 s6 hv => k _ _ (((b03.trans b4).same' e5).trans b6) s6 hv⟩
        · walk_at "rd"
          walk_at "sp" <;> intro h4
          · walk_at "rd"
            rw [List.length_map]
            walk_at "sp" <;> intro h5
            · walk_at "rd"
              refine r_drawn s3 fun H4 v4 b4 s4 hv4 => ?_
              obtain ⟨y, rfl, hy4⟩ := hv4
              have hq4 := b4 _ _ hqa hq3
              walk_at "rd"
              refine r_draw s4 (by decide) (by decide) fun H5 c b5 s5 _ _ => ?_
              have hq5 := b5 _ _ hqa hq4
              walk_at "rd"
              rw [List.length_map]
              have q1 := Int.emod_nonneg c (show (ys.length : Int) ≠ 0 by omega)
              have q2 := Int.emod_lt_of_pos c (show (0 : Int) < (ys.length : Int) by omega)
              walk_at "rd"
              refine r_setL hq5 (ixN_in q1 (by rw [List.length_map]; exact q2)) fun H6 b6 h6 => ?_
              walk_at "rd"
              refine r_tupOf (SqL.of h6) fun t H7 n7 e7 ht => ?_
              refine k _ _ ((((b03.trans b4).trans b5).step b6 nq).same' e7) ((s5.but b6 hqa.symm).ex e7) ⟨t, ys.set (c % (ys.length : Int)).toNat y, rfl, by rw [List.map_set]; exact SqT.of ht, plain_name (by simp; omega) fun z hz => ?_⟩
              rcases List.mem_or_eq_of_mem_set hz with h | h
              · exact hP z h
              · rw [h]; exact hy4
            · walk_at "rd"
              refine r_drawn s3 fun H4 v4 b4 s4 hv4 => ?_
              exact k _ _ (b03.trans b4) s4 hv4
          · walk_at "rd"
            refine r_drawn s3 fun H4 v4 b4 s4 hv4 => ?_
            exact k _ _ (b03.trans b4) s4 hv4

theorem ok__law_same (T : Txt K mg) : ∀ n, Fn P w K mg base n "_law_same" ["actual", "expected"] (spSame K n)
  | 0 => fn_false T.d__law_same
  | n + 1 => by
    have GR : Fn P w K mg base n "_law_same" ["actual", "expected"] (spSame K n) := ok__law_same T n
    refine T.d__law_same.ok sc__law_same (by rintro vs H Q E ⟨_, _, _, _, rfl, _⟩; rfl) (fun f cdv A outer s H vs Q E hr h => ?_)
    obtain ⟨v, u, d, e, rfl, hd, he, pd, pe, hdep, k⟩ := h
    refine ⟨_, (pss_cons (ps_if (pt_val (pe_callB call_isi (by rfl) T.m_isinstance (by decide +kernel) (pa_cons (pv 1) (pa_cons (pe_bltn (v := .ty "tuple") rfl T.m_tuple (by decide +kernel) rfl) pa_nil))))
  (pss_cons (ps_if (PW.pt (pw_or (pt_not (pt_val (pe_callB call_isi (by rfl) T.m_isinstance (by decide +kernel) (pa_cons (pv 0) (pa_cons (pe_bltn (v := .ty "tuple") rfl T.m_tuple (by decide +kernel) rfl) pa_nil))))) (pw_or1 (pt_cmpR op_ne (pe_callB cLenQ (by rfl) T.m_len PySem.boot_len (pa_cons (pv 0) pa_nil)) (pe_callB cLenQ (by rfl) T.m_len PySem.boot_len (pa_cons (pv 1) pa_nil)) (nomark _)))))
  (pss_one (ps_ret pe_bl))
  pss_nil)
  (pss_cons (ps_for PassesOwn.never rfl (pi_range1 rfl T.m_range (pa_cons (pe_callB cLenQ (by rfl) T.m_len PySem.boot_len (pa_cons (pv 1) pa_nil)) pa_nil)) (pg_name (i := 2) sc__law_same.nd rfl (.inl rfl))
  (pss_one (ps_if (pt_not (pt_val (pe_fn GR hr (by rfl) (pa_cons (pe_ix ix_tup (pv 0) (pv 2) (fun _ _ => rfl)) (pa_cons (pe_ix ix_tup (pv 1) (pv 2) (fun _ _ => rfl)) pa_nil)))))
  (pss_one (ps_ret pe_bl))
  pss_nil)))
  (pss_one (ps_ret pe_bl))))
  pss_nil)
  (pss_cons (ps_if (pt_val (pe_callB call_isi (by rfl) T.m_isinstance (by decide +kernel) (pa_cons (pv 1) (pa_cons (pe_bltn (v := .ty "str") rfl T.m_str (by decide +kernel) rfl) pa_nil))))
  (pss_one (ps_ret (pe_and (pe_callB call_isi (by rfl) T.m_isinstance (by decide +kernel) (pa_cons (pv 0) (pa_cons (pe_bltn (v := .ty "str") rfl T.m_str (by decide +kernel) rfl) pa_nil))) (pe_one (pe_cmpR (op_eqD hr.units) (pv 0) (pv 1) (nomark _))))))
  pss_nil)
  (pss_one (ps_ret (pe_and (pe_callB call_isi (by rfl) T.m_isinstance (by decide +kernel) (pa_cons (pv 0) (pa_cons (pe_bltn (v := .ty "int") rfl T.m_int (by decide +kernel) rfl) pa_nil))) (pe_and (pe_not (pe_callB call_isi (by rfl) T.m_isinstance (by decide +kernel) (pa_cons (pv 0) (pa_cons (pe_bltn (v := .ty "bool") rfl T.m_bool (by decide +kernel) rfl) pa_nil)))) (pe_one (pe_cmpR (op_eqD hr.units) (pv 0) (pv 1) (nomark _))))))))), ?_⟩
    walk_at "en"
    have ed : ∀ x : V, Dp K H x d → (∀ i, x = .int i → d = .int i) ∧ (∀ z, x = .str z → d = .str z) := fun x hx => by
      cases hx <;> constructor <;> intro z hz <;> cases hz <;> rfl
    cases he with
    | int j =>
      walk_at "rd"
      cases hd with
      | int i =>
        walk_at "rd"
        refine r_eqD (.int i) (.int j) (shaped_pure pd (by simp [PyData.depth])) (shaped_pure pe (by simp [PyData.depth])) ?_
        exact k
      | str y =>
        walk_at "rd"
        simpa [PyData.eqv] using k
      | tup ha hall =>
        walk_at "rd"
        simpa [PyData.eqv] using k
      | non => simp [pureD] at pd
      | bl b => simp [pureD] at pd
      | lst h1 h2 => simp [pureD] at pd
    | str y =>
      walk_at "rd"
      cases hd with
      | int i =>
        walk_at "rd"
        simpa [PyData.eqv] using k
      | str x =>
        walk_at "rd"
        refine r_eqD (.str x) (.str y) (shaped_pure pd (by simp [PyData.depth])) (shaped_pure pe (by simp [PyData.depth])) ?_
        exact k
      | tup ha hall =>
        walk_at "rd"
        simpa [PyData.eqv] using k
      | non => simp [pureD] at pd
      | bl b => simp [pureD] at pd
      | lst h1 h2 => simp [pureD] at pd
    | tup hb hall =>
      rename_i b ys es
      walk_at "rd"
      cases hd with
      | int i =>
        walk_at "rd"
        simpa [PyData.eqv] using k
      | str x =>
        walk_at "rd"
        simpa [PyData.eqv] using k
      | tup ha hall2 =>
        rename_i a xs ds
        walk_at "rd"
        have l1 := dpAll_len hall
        have l2 := dpAll_len hall2
        have kk : Q (.bl (PyData.eqvAll ds es)) H := by simpa [PyData.eqv] using k
        walk_at "sp" <;> intro hlen
        · walk_at "rd"
          rw [SeqAt.eqvAll_other_length (by omega)] at kk
          exact kk
        · have hwid : es.length ≤ 10000 := by simp [pureD] at pe; exact pe.1
          walk_at "rd"
          have hld : ds.length = es.length := by omega
          have hpa : ∀ x ∈ ds, pureD x = true := (pureAll_iff ds).mp (by simp [pureD] at pd; exact pd.2)
          have hpb : ∀ x ∈ es, pureD x = true := (pureAll_iff es).mp (by simp [pureD] at pe; exact pe.2)
          rw [Int.toNat_natCast, l1]
          refine loopR (fun i σ' H' => (∃ w, σ' = [some (.ref a), some (.ref b), w]) ∧ H' = H ∧ ∀ (j : Nat) (x y : PyData), j < i → ds[j]? = some x → es[j]? = some y → PyData.eqv x y = true) ⟨⟨_, rfl⟩, rfl, by intro j x y hj; omega⟩ ?_ ?_
          · rintro i σ' H' hi ⟨⟨w', rfl⟩, rfl, hyes⟩
            have hx := List.getElem?_eq_getElem (show i < ds.length by omega)
            have hy := List.getElem?_eq_getElem hi
            obtain ⟨v1, g1, q1⟩ := dpAll_get hall2 hx
            obtain ⟨v2, g2, q2⟩ := dpAll_get hall hy
            walk_at "rd"
            refine r_ixT ha (v := v1) (by rw [Int.zero_add]; exact atI_nat g1) ?_
            walk_at "rd"
            refine r_ixT hb (v := v2) (by rw [Int.zero_add]; exact atI_nat g2) ?_
            walk_at "rd"
            have hdx := depth_mem (List.getElem_mem hi)
            have hdd : (PyData.tuple es).depth = PyData.depthAll es + 1 := by simp [PyData.depth]
            cases n with
            | zero => omega
            | succ m =>
              refine ⟨v1, v2, _, _, rfl, q1, q2, hpa _ (List.getElem_mem _), hpb _ (List.getElem_mem _), by omega, ?_⟩
              walk_at "rd"
              cases hq : PyData.eqv (ds[i]'(by omega)) es[i] with
              | true =>
                walk_at "rd"
                refine ⟨⟨_, rfl⟩, rfl, fun j x y hj h1 h2 => ?_⟩
                by_cases e : j = i
                · subst e
                  rw [hx] at h1
                  rw [hy] at h2
                  cases h1
                  cases h2
                  exact hq
                · exact hyes j x y (by omega) h1 h2
              | false =>
                walk_at "rd"
                rw [eqvAll_no hx hy hq] at kk
                exact kk
          · rintro σ' H' ⟨⟨w', rfl⟩, rfl, hyes⟩
            walk_at "rd"
            rw [eqvAll_yes hld fun i d e h1 h2 => hyes i d e (List.getElem?_eq_some_iff.mp h2).1 h1 h2] at kk
            exact kk
      | non => simp [pureD] at pd
      | bl b => simp [pureD] at pd
      | lst h1 h2 => simp [pureD] at pd
    | non => simp [pureD] at pe
    | bl b => simp [pureD] at pe
    | lst h1 h2 => simp [pureD] at pe

/-! ### names in order: the mathematics -/
theorem inB_nil (xs : List Str) : inB xs [] = true := by simp [inB]
theorem inB_cons (x y : Str) (xs ys : List Str) : inB (x :: xs) (y :: ys) = (decide (x = y) && inB xs ys) := by
  unfold inB
  by_cases h : x = y <;> simp [h]
theorem inB_nil_cons (y : Str) (ys : List Str) : inB [] (y :: ys) = false := by simp [inB]
theorem block_in : ∀ (name other : List Str), (∀ z ∈ other, ltS z "~" = true) → (!ltN other name && ltN other (name ++ [("~" : Str)])) = inB other name
  | [], other, h => by
    rw [inB_nil, ltN_nil, List.nil_append, Bool.not_false, Bool.true_and]
    cases other with
    | nil => exact ltN_nil_cons _ _
    | cons z zs =>
      have h1 := h z List.mem_cons_self
      rw [ltN_cons]
      by_cases e : z = "~"
      · rw [e, ltS_irrefl] at h1; cases h1
      · rw [if_neg e]; exact h1
  | y :: ys, [], _ => by rw [inB_nil_cons, ltN_nil_cons]; rfl
  | y :: ys, z :: zs, h => by
    rw [inB_cons, List.cons_append, ltN_cons, ltN_cons]
    by_cases e : z = y
    · rw [if_pos e, if_pos e, decide_eq_true e, Bool.true_and]
      exact block_in ys zs fun w hw => h w (List.mem_cons_of_mem _ hw)
    · rw [if_neg e, if_neg e, decide_eq_false e, Bool.false_and]
      cases ltS z y <;> rfl
theorem block_below (name other : List Str) (h : ∀ z ∈ other, ltS z "~" = true) : (ltN name other && ltN other (name ++ [("~" : Str)])) = belowB other name := by
  unfold belowB
  rw [← block_in name other h]
  by_cases e : other = name
  · subst e
    rw [ltN_irrefl]
    simp
  · rw [decide_eq_false e]
    rcases ltN_total e with h1 | h1
    · rw [h1, ltN_asymm h1]; rfl
    · rw [h1, ltN_asymm h1]; simp
theorem lab_tilde {z : Str} (h : plainB z = true ∨ z = "*") : ltS z "~" = true := by
  have hb := (lab_fact h).1.1
  have key : ∀ c ∈ z.cps.toList, c < 126 := by
    intro c hc
    rcases h with h | rfl
    · have q : ∀ c ∈ CH.cps.toList, c < 126 := by decide +kernel
      exact q c ((plain_iff.mp h).2 c hc)
    · have q : ∀ c ∈ ("*" : Str).cps.toList, c < 126 := by decide +kernel
      exact q c hc
  unfold ltS
  refine decide_eq_true ?_
  have e : ("~" : Str).cps.toList = [126] := by decide +kernel
  rw [e]
  cases hz : z.cps.toList with
  | nil => have := len_list z; rw [hz] at this; simp at this; omega
  | cons c r =>
    have := key c (by rw [hz]; exact List.mem_cons_self)
    exact List.cons_lt_cons_iff.mpr (.inl this)
theorem name_tilde {zs : List Str} (h : nameB zs = true) : ∀ z ∈ zs, ltS z "~" = true := fun z hz => lab_tilde (name_mem h hz)
theorem com_self : ∀ xs : List Str, com xs xs = xs.length
  | [] => rfl
  | x :: xs => by unfold com; rw [if_pos rfl, com_self xs]; rfl
theorem com_comm : ∀ xs ys : List Str, com xs ys = com ys xs
  | [], [] => rfl
  | [], _ :: _ => rfl
  | _ :: _, [] => rfl
  | x :: xs, y :: ys => by
    unfold com
    by_cases e : x = y
    · rw [if_pos e, if_pos e.symm, com_comm xs ys]
    · rw [if_neg e, if_neg fun z => e z.symm]
theorem com_take : ∀ xs ys : List Str, xs.take (com xs ys) = ys.take (com xs ys)
  | [], ys => by simp [com]
  | x :: xs, [] => by simp [com]
  | x :: xs, y :: ys => by
    unfold com
    by_cases e : x = y
    · rw [if_pos e, e, List.take_succ_cons, List.take_succ_cons, com_take xs ys]
    · rw [if_neg e]; rfl
theorem com_mid : ∀ a b c : List Str, leN a b = true → leN b c = true → com a c = min (com a b) (com b c)
  | [], b, c, _, _ => by simp [com]
  | x :: xs, [], c, h, _ => by unfold leN at h; rw [ltN_nil_cons] at h; cases h
  | x :: xs, y :: ys, [], _, h => by unfold leN at h; rw [ltN_nil_cons] at h; cases h
  | x :: xs, y :: ys, z :: zs, h1, h2 => by
    unfold leN at h1 h2
    rw [ltN_cons] at h1 h2
    unfold com
    by_cases e1 : x = y
    · rw [if_pos e1.symm] at h1
      by_cases e2 : y = z
      · rw [if_pos e2.symm] at h2
        rw [if_pos e1, if_pos e2, if_pos (e1.trans e2), com_mid xs ys zs h1 h2]
        omega
      · rw [if_neg e2, if_neg (by rw [e1]; exact e2)]
        omega
    · rw [if_neg e1]
      rw [if_neg fun z => e1 z.symm] at h1
      by_cases e3 : x = z
      · subst e3
        rw [if_neg e1] at h2
        exfalso
        rcases ltS_total (x := x) (y := y) e1 with q | q
        · rw [q] at h2; cases h2
        · rw [q] at h1; cases h1
      · rw [if_neg e3]
        omega
theorem getD_at {α : Type} {L : List α} {i : Nat} {d : α} (h : i < L.length) : L.getD i d = L[i] := by rw [List.getD_eq_getElem?_getD, List.getElem?_eq_getElem h]; rfl
def AllN (L : List (List Str)) : Prop := ∀ zs ∈ L, nameB zs = true
theorem AllN.asc {L : List (List Str)} (h : AllN L) : ∀ zs ∈ L, ∀ z ∈ zs, Asc z := fun zs hz z hz2 => (name_asc (h zs hz) hz2).2
theorem ok__law_drawn (T : Txt K mg) : Fn P w K mg base 5 "_law_drawn" ["names", "source"] (fun vs H Q _ => ∃ (p a : Addr) (out : List V) (L : List (List Str)), vs = [.ref p, .ref a] ∧ SqL K H p out ∧ p ≠ a ∧ TupsAt K H out L ∧ AllN L ∧ L.length ≤ 1000 ∧ Src H a ∧ ∀ H' v, But a H H' → Src H' a → NameV K H' v → Q v H') := by
  refine T.d__law_drawn.ok sc__law_drawn (by rintro vs H Q E ⟨_, _, _, _, rfl, _⟩; rfl) (fun f cdv A outer s H vs Q E hr h => ?_)
  obtain ⟨p, a, out, L, rfl, hL, hpa, hT, hN, hl, hS, k⟩ := h
  refine ⟨_, (pss_cons (ps_if (PW.pt (pw_or (pt_cmpR op_eq (pe_callB cLenQ (by rfl) T.m_len PySem.boot_len (pa_cons (pv 0) pa_nil)) pe_int (nomark _)) (pw_or1 (pt_cmpR op_eq (pe_fn (ok__law_draw T) (hr.mono (by decide)) (by rfl) (pa_cons (pv 1) (pa_cons pe_int pa_nil))) pe_int (nomark _)))))
  (pss_one (ps_ret (pe_fn (ok__law_name T) (hr.mono (by decide)) (by rfl) (pa_cons (pv 1) pa_nil))))
  pss_nil)
  (pss_one (ps_ret (pe_fn (ok__law_other T) hr (by rfl) (pa_cons (pe_ix ix_list (pv 0) (pe_op op_mod (pe_callTy cInt (by rfl) T.m_int (by decide +kernel) (pa_cons (pe_fn (ok__law_draw T) (hr.mono (by decide)) (by rfl) (pa_cons (pv 1) (pa_cons pe_int pa_nil))) pa_nil)) (pe_callB cLenQ (by rfl) T.m_len PySem.boot_len (pa_cons (pv 0) pa_nil))) (fun _ _ => rfl)) (pa_cons (pv 1) pa_nil)))))), ?_⟩
  have ho := hT.1
  obtain ⟨sl, hsl⟩ := hS.lst
  walk_at "en"
  walk_at "sp" <;> intro h0
  · walk_at "rd"
    refine r_drawn hS fun H4 v4 b4 s4 hv4 => ?_
    exact k _ _ b4 s4 hv4
  · walk_at "rd"
    refine r_draw hS (by decide) (by decide) fun H3 d b3 s3 d0 d1 => ?_
    walk_at "rd"
    walk_at "sp" <;> intro h1
    · walk_at "rd"
      refine r_drawn s3 fun H4 v4 b4 s4 hv4 => ?_
      exact k _ _ (b3.trans b4) s4 hv4
    · walk_at "rd"
      refine r_draw s3 (by decide) (by decide) fun H4 c b4 s4 _ _ => ?_
      walk_at "rd"
      have b04 := b3.trans b4
      have q1 := Int.emod_nonneg c (show (out.length : Int) ≠ 0 by omega)
      have q2 := Int.emod_lt_of_pos c (show (0 : Int) < (out.length : Int) by omega)
      refine r_lenL (but_l b04 hpa hL) ?_
      walk_at "rd"
      obtain ⟨v, _, ha, hg⟩ := atI_in (xs := out) q1 q2
      refine r_ixL (but_l b04 hpa hL) ha ?_
      walk_at "rd"
      have hlt : (c % (out.length : Int)).toNat < L.length := by omega
      have hz := List.getElem?_eq_getElem hlt
      obtain ⟨b, hb, hs⟩ := hT.2 _ _ hz
      rw [hg] at hb
      cases hb
      exact ⟨b, a, _, rfl, but_t b04 hsl hs, hN _ (List.getElem_mem hlt), s4, fun H5 v b5 s5 hv => k _ _ (b04.trans b5) s5 hv⟩
def NmsL (K : PySem.W.Frag) (H : Hp) (p : Addr) (L : List (List Str)) : Prop := ∃ out, SqL K H p out ∧ TupsAt K H out L
theorem NmsL.ex {H H' : Hp} {p : Addr} {L : List (List Str)} (h : NmsL K H p L) (e : Same H H') : NmsL K H' p L := by
  obtain ⟨out, h1, h2⟩ := h
  exact ⟨out, ex_l e h1, h2.ex e⟩
theorem NmsL.get {H : Hp} {p : Addr} {L : List (List Str)} {i : Int} (h : NmsL K H p L) (h0 : 0 ≤ i) (h1 : i < (L.length : Int)) : ∃ b out zs, SqL K H p out ∧ atI out i = some (.ref b) ∧ SqT K H b (zs.map V.str) ∧ L[i.toNat]? = some zs ∧ out.length = L.length := by
  obtain ⟨out, hL, hT⟩ := h
  obtain ⟨v, _, ha, hg⟩ := atI_in (xs := out) h0 (by rw [hT.1]; exact h1)
  have hlt : i.toNat < L.length := by omega
  have hz := List.getElem?_eq_getElem hlt
  obtain ⟨b, hb, hs⟩ := hT.2 _ _ hz
  rw [hg] at hb
  cases hb
  exact ⟨b, out, _, hL, ha, hs, hz, hT.1⟩
theorem NmsL.len {H : Hp} {p : Addr} {L : List (List Str)} {Q : VK} (h : NmsL K H p L) (q : Q (.int (L.length : Int)) H) : rLenQ K [.ref p] H Q := by
  obtain ⟨out, hL, hT⟩ := h
  refine r_lenL hL ?_
  rw [hT.1]
  exact q
theorem loopN {σ : L2.St} {H : Hp} {a c d : L2.St → Hp → Prop} {b' : VK} {g : TG} {tb : TS} {p : Addr} {L : List (List Str)} (Pv : Nat → L2.St → Hp → Prop) (hp : NmsL K H p L) (h0 : Pv 0 σ H) (hS : ∀ i σ' H', Pv i σ' H' → Same H H')
    (hs : ∀ i b zs σ' H', L[i]? = some zs → SqT K H' b (zs.map V.str) → Pv i σ' H' → g (.ref b) σ' H' fun σ2 H2 => tb ⟨Pv (i + 1), b', a, Pv (i + 1)⟩ σ2 H2) (hd : ∀ σ' H', Pv L.length σ' H' → a σ' H') : ForR (Itl K p) g tb ⟨a, b', c, d⟩ σ H := by
  obtain ⟨out, hL, hT⟩ := hp
  refine loopL (xs := out) Pv h0 (fun i σ' H' _ h => ex_l (hS i σ' H' h) hL) (fun i x σ' H' hx h => ?_) (fun σ' H' h => hd σ' H' (by rw [← hT.1]; exact h))
  have hlt : i < L.length := by rw [← hT.1]; exact (List.getElem?_eq_some_iff.mp hx).1
  have hz := List.getElem?_eq_getElem hlt
  obtain ⟨b, hb, hs'⟩ := hT.2 _ _ hz
  rw [hx] at hb
  cases hb
  exact hs i b _ σ' H' hz (ex_t (hS i σ' H' h) hs') h
theorem ok__law_blocks (T : Txt K mg) : Fn P w K mg base 3 "_law_blocks" ["names"] (fun vs H Q _ => ∃ (p : Addr) (L : List (List Str)), vs = [.ref p] ∧ NmsL K H p L ∧ AllN L ∧ ∀ H', Same H H' → Q (.bl true) H') := by
  refine T.d__law_blocks.ok sc__law_blocks (by rintro vs H Q E ⟨_, _, rfl, _⟩; rfl) (fun f cdv A outer s H vs Q E hr h => ?_)
  obtain ⟨p, L, rfl, hL, hN, k⟩ := h
  refine ⟨_, (pss_cons (ps_for PassesOwn.never rfl (pi_list (pv 0)) (pg_name (i := 1) sc__law_blocks.nd rfl (.inl rfl))
  (pss_cons (ps_set (i := 2) sc__law_blocks.nd rfl (.inl rfl) (pe_op op_catA (pv 1) (pe_tup (pa_cons pe_str pa_nil))))
  (pss_one (ps_for PassesOwn.never rfl (pi_list (pv 0)) (pg_name (i := 3) sc__law_blocks.nd rfl (.inl rfl))
  (pss_cons (ps_if (pt_not (pt_val (pe_fn (ok__law_bool T) (hr.mono (by decide)) (by rfl) (pa_cons (pe_fn (ok_lies_in T) (hr.mono (by decide)) (by rfl) (pa_cons (pv 3) (pa_cons (pv 1) pa_nil))) (pa_cons (pe_cut (pe_and (pe_cmpR (op_leD hr.units) (pv 1) (pv 3) (nomark _)) (pe_one (pe_cmpR (op_ltD hr.units) (pv 3) (pv 2) (nomark _))))) pa_nil)))))
  (pss_one (ps_ret pe_bl))
  pss_nil)
  (pss_one (ps_if (pt_not (pt_val (pe_fn (ok__law_bool T) (hr.mono (by decide)) (by rfl) (pa_cons (pe_fn (ok_lies_below T) hr (by rfl) (pa_cons (pv 3) (pa_cons (pv 1) pa_nil))) (pa_cons (pe_cut (pe_and (pe_cmpR (op_ltD hr.units) (pv 1) (pv 3) (nomark _)) (pe_one (pe_cmpR (op_ltD hr.units) (pv 3) (pv 2) (nomark _))))) pa_nil)))))
  (pss_one (ps_ret pe_bl))
  pss_nil)))))))
  (pss_one (ps_ret pe_bl))), ?_⟩
  walk_at "en"
  obtain ⟨out, hL1, _⟩ := id hL
  refine r_iList1 out hL1 ?_
  walk_at "rd"
  refine loopN (L := L) (fun i σ' H' => (∃ v1 v2 v3, σ' = [some (.ref p), v1, v2, v3]) ∧ Same H H') hL ⟨⟨_, _, _, rfl⟩, Same.refl _⟩ (fun i σ' H' h => h.2) ?_ ?_
  · rintro i b zs σ' H1 hz hb ⟨⟨v1, v2, v3, rfl⟩, e1⟩
    have hzn := hN zs (List.mem_of_getElem? hz)
    walk_at "rd"
    intro t H2 n2 e2 ht
    walk_at "rd"
    refine r_catA (ex_t e2 hb) (SqT.of ht) (by have := name_len hzn; simp; omega) fun r H3 e3 hr3 => ?_
    have e13 := (e1.trans e2).trans e3
    have hb3 := ex_t (e2.trans e3) hb
    have hr4 : SqT K H3 r ((zs ++ [("~" : Str)]).map V.str) := by rw [List.map_append]; exact hr3
    walk_at "rd"
    refine loopN (L := L) (fun i σ' H' => (∃ v2, σ' = [some (.ref p), some (.ref b), some (.ref r), v2]) ∧ Same H3 H') (hL.ex e13) ⟨⟨_, rfl⟩, Same.refl _⟩ (fun i σ' H' h => h.2) ?_ ?_
    · rintro j c ys σ' H4 hy hc ⟨⟨w2, rfl⟩, e4⟩
      have hyn := hN ys (List.mem_of_getElem? hy)
      have a1 : AscAll ys := fun z hz => (name_asc hyn hz).2
      have a2 : AscAll zs := fun z hz => (name_asc hzn hz).2
      have ty := name_tilde hyn
      walk_at "rd"
      refine ⟨c, b, ys, zs, rfl, hc, ex_t e4 hb3, a1, a2, fun H5 e5 => ?_⟩
      have hc5 := ex_t e5 hc
      have hb5 := ex_t (e4.trans e5) hb3
      have hr5 := ex_t (e4.trans e5) hr4
      walk_at "rd"
      refine r_cutE (fun v H' => H' = H5 ∧ v = .bl (inB ys zs)) ?_ ?_
      · walk_at "rd"
        refine r_leTS hb5 hc5 ?_
        walk_at "rd"
        have hB := block_in zs ys ty
        cases hq : ltN ys zs with
        | true =>
          walk_at "rd"
          rw [hq] at hB
          exact ⟨rfl, by rw [← hB]; rfl⟩
        | false =>
          walk_at "rd"
          refine r_ltTS hc5 hr5 ?_
          rw [hq] at hB
          exact ⟨rfl, by rw [← hB]; rfl⟩
      rintro v H' ⟨rfl, rfl⟩
      walk_at "rd"
      refine ⟨_, _, rfl, ?_⟩
      walk_at "rd"
      refine ⟨c, b, ys, zs, rfl, hc5, hb5, a1, a2, fun H6 e6 => ?_⟩
      have hc6 := ex_t e6 hc5
      have hb6 := ex_t e6 hb5
      have hr6 := ex_t e6 hr5
      walk_at "rd"
      refine r_cutE (fun v H' => H' = H6 ∧ v = .bl (belowB ys zs)) ?_ ?_
      · walk_at "rd"
        refine r_ltTS hb6 hc6 ?_
        walk_at "rd"
        have hB := block_below zs ys ty
        cases hq : ltN zs ys with
        | true =>
          walk_at "rd"
          refine r_ltTS hc6 hr6 ?_
          rw [hq] at hB
          exact ⟨rfl, by rw [← hB]; rfl⟩
        | false =>
          walk_at "rd"
          rw [hq] at hB
          exact ⟨rfl, by rw [← hB]; rfl⟩
      rintro v H' ⟨rfl, rfl⟩
      walk_at "rd"
      refine ⟨_, _, rfl, ?_⟩
      walk_at "rd"
      exact ⟨⟨_, rfl⟩, (e4.trans e5).trans e6⟩
    · rintro σ' H4 ⟨⟨w2, rfl⟩, e4⟩
      walk_at "rd"
      exact ⟨⟨_, _, _, rfl⟩, e13.trans e4⟩
  · rintro σ' H1 ⟨⟨v1, v2, v3, rfl⟩, e1⟩
    walk_at "rd"
    exact k _ e1
theorem ok__law_neighbours (T : Txt K mg) : Fn P w K mg base 4 "_law_neighbours" ["names"] (fun vs H Q _ => ∃ (p : Addr) (L : List (List Str)), vs = [.ref p] ∧ NmsL K H p L ∧ AllN L ∧ L.length ≤ 1000 ∧ (L.Pairwise fun a b => leN a b = true) ∧ ∀ H', Same H H' → Q (.bl true) H') := by
  refine T.d__law_neighbours.ok sc__law_neighbours (by rintro vs H Q E ⟨_, _, rfl, _⟩; rfl) (fun f cdv A outer s H vs Q E hr h => ?_)
  obtain ⟨p, L, rfl, hL, hN, hl, hS, k⟩ := h
  refine ⟨_, (pss_cons (ps_for PassesOwn.never rfl (pi_range1 rfl T.m_range (pa_cons (pe_callB cLenQ (by rfl) T.m_len PySem.boot_len (pa_cons (pv 0) pa_nil)) pa_nil)) (pg_name (i := 1) sc__law_neighbours.nd rfl (.inl rfl))
  (pss_cons (ps_set (i := 2) sc__law_neighbours.nd rfl (.inl rfl) (pe_callB cLenQ (by rfl) T.m_len PySem.boot_len (pa_cons (pe_ix ix_list (pv 0) (pv 1) (fun _ _ => rfl)) pa_nil)))
  (pss_one (ps_for PassesOwn.never rfl (pi_range2 rfl T.m_range (pa_cons (pv 1) (pa_cons (pe_callB cLenQ (by rfl) T.m_len PySem.boot_len (pa_cons (pv 0) pa_nil)) pa_nil))) (pg_name (i := 3) sc__law_neighbours.nd rfl (.inl rfl))
  (pss_cut (ps_if (pt_cmpR op_gt (pv 3) (pv 1) (nomark _))
  (pss_one (ps_set (i := 2) sc__law_neighbours.nd rfl (.inl rfl) (pe_callB (cMin2 rfl) (by rfl) T.m_min (by decide +kernel) (pa_cons (pv 2) (pa_cons (pe_fn (ok__law_common T) (hr.mono (by decide)) (by rfl) (pa_cons (pe_ix ix_list (pv 0) (pe_op op_sub (pv 3) pe_int) (fun _ _ => rfl)) (pa_cons (pe_ix ix_list (pv 0) (pv 3) (fun _ _ => rfl)) pa_nil))) pa_nil)))))
  pss_nil)
  (pss_cons (ps_set (i := 4) sc__law_neighbours.nd rfl (.inl rfl) (pe_slice sl_tupA (pe_ix ix_list (pv 0) (pv 1) (fun _ _ => rfl)) po_none (po_some (pv 2))))
  (pss_cons (ps_if (pt_not (pt_val (pe_fn (ok__law_same T 3) hr (by rfl) (pa_cons (pe_fn (ok_shared T) (hr.mono (by decide)) (by rfl) (pa_cons (pe_ix ix_list (pv 0) (pv 1) (fun _ _ => rfl)) (pa_cons (pe_ix ix_list (pv 0) (pv 3) (fun _ _ => rfl)) pa_nil))) (pa_cons (pv 4) pa_nil)))))
  (pss_one (ps_ret pe_bl))
  pss_nil)
  (pss_one (ps_if (pt_not (pt_val (pe_fn (ok__law_same T 3) hr (by rfl) (pa_cons (pe_fn (ok_shared T) (hr.mono (by decide)) (by rfl) (pa_cons (pe_ix ix_list (pv 0) (pv 3) (fun _ _ => rfl)) (pa_cons (pe_ix ix_list (pv 0) (pv 1) (fun _ _ => rfl)) pa_nil))) (pa_cons (pv 4) pa_nil)))))
  (pss_one (ps_ret pe_bl))
  pss_nil)))))))))
  (pss_one (ps_ret pe_bl))), ?_⟩
  have srt : ∀ i j (hi : i < L.length) (hj : j < L.length), i ≤ j → leN L[i] L[j] = true := fun i j hi hj hij => by
    rcases Nat.lt_or_ge i j with h | h
    · exact (List.pairwise_iff_getElem.mp hS) i j hi hj h
    · have : i = j := by omega
      subst this
      unfold leN
      rw [ltN_irrefl]; rfl
  walk_at "en"
  refine hL.len ?_
  walk_at "rd"
  refine loopR (fun i σ' H' => (∃ v1 v2 v3 v4, σ' = [some (.ref p), v1, v2, v3, v4]) ∧ Same H H') ⟨⟨_, _, _, _, rfl⟩, Same.refl _⟩ ?_ ?_
  · rintro i σ' H1 hi ⟨⟨v1, v2, v3, v4, rfl⟩, e1⟩
    have hi' : i < L.length := by omega
    walk_at "rd"
    obtain ⟨b, out, zs, hL1, ha, hb, hz, ho⟩ := (hL.ex e1).get (i := 0 + (i : Int)) (by omega) (by omega)
    have ez : zs = L[i] := by
      have e : ((0 : Int) + (i : Int)).toNat = i := by omega
      rw [e, List.getElem?_eq_getElem hi'] at hz
      exact (Option.some.inj hz).symm
    subst ez
    refine r_ixL hL1 ha ?_
    walk_at "rd"
    rw [ho, List.length_map]
    have hzn := hN _ (List.getElem_mem hi')
    refine loopR (fun j σ' H' => (∃ v2 v4, σ' = [some (.ref p), some (.int (0 + (i : Int))), some (.int (com L[i] (L.getD (i + (j - 1)) []))), v2, v4]) ∧ Same H H') ⟨⟨v3, v4, ?_⟩, e1⟩ ?_ ?_
    · rw [Nat.zero_sub, Nat.add_zero, getD_at hi', com_self]
      rfl
    · rintro j σ' H2 hj ⟨⟨w3, w4, rfl⟩, e2⟩
      have hj' : i + j < L.length := by omega
      walk_at "rd"
      refine r_cut (fun σ' H' => (∃ v4, σ' = [some (.ref p), some (.int (0 + (i : Int))), some (.int (com L[i] L[i + j])), some (.int (0 + (i : Int) + j)), v4]) ∧ Same H H') ?_ ?_
      · walk_at "rd"
        walk_at "sp" <;> intro h0
        · have hj1 : i + (j - 1) < L.length := by omega
          walk_at "rd"
          obtain ⟨b1, out1, z1, hL1, ha1, hb1, hz1, ho1⟩ := (hL.ex e2).get (i := 0 + (i : Int) + j - 1) (by omega) (by omega)
          have ez : z1 = L[i + (j - 1)] := by
            have e : ((0 : Int) + (i : Int) + j - 1).toNat = i + (j - 1) := by omega
            rw [e, List.getElem?_eq_getElem hj1] at hz1
            exact (Option.some.inj hz1).symm
          subst ez
          refine r_ixL hL1 ha1 ?_
          walk_at "rd"
          obtain ⟨b2, out2, z2, hL2, ha2, hb2, hz2, ho2⟩ := (hL.ex e2).get (i := 0 + (i : Int) + j) (by omega) (by omega)
          have ez : z2 = L[i + j] := by
            have e : ((0 : Int) + (i : Int) + j).toNat = i + j := by omega
            rw [e, List.getElem?_eq_getElem hj'] at hz2
            exact (Option.some.inj hz2).symm
          subst ez
          refine r_ixL hL2 ha2 ?_
          walk_at "rd"
          refine ⟨b1, b2, _, _, rfl, hb1, hb2, by have := name_len (hN _ (List.getElem_mem hj1)); omega, by have := name_len (hN _ (List.getElem_mem hj')); omega, ?_⟩
          walk_at "rd"
          have hm := com_mid L[i] L[i + (j - 1)] L[i + j] (srt _ _ hi' hj1 (by omega)) (srt _ _ hj1 hj' (by omega))
          rw [getD_at hj1]
          refine ⟨⟨w4, ?_⟩, e2⟩
          have e : (if ((com L[i + (j - 1)] L[i + j] : Nat) : Int) < ((com L[i] L[i + (j - 1)] : Nat) : Int) then ((com L[i + (j - 1)] L[i + j] : Nat) : Int) else ((com L[i] L[i + (j - 1)] : Nat) : Int)) = ((com L[i] L[i + j] : Nat) : Int) := by
            rw [hm]
            split <;> omega
          rw [e]
          rfl
        · walk_at "rd"
          have ej : j = 0 := by omega
          subst ej
          refine ⟨⟨w4, ?_⟩, e2⟩
          rw [getD_at (by omega)]
          rfl
      rintro σ' H2 ⟨⟨w4, rfl⟩, e2⟩
      walk_at "rd"
      have gi : ∀ {H' : Hp}, Same H H' → ∃ b out, SqL K H' p out ∧ atI out (0 + (i : Int)) = some (.ref b) ∧ SqT K H' b (L[i].map V.str) := fun {H'} e => by
        obtain ⟨b, out, zs, h1, h2, h3, h4, _⟩ := (hL.ex e).get (i := 0 + (i : Int)) (by omega) (by omega)
        have ez : zs = L[i] := by
          have e : ((0 : Int) + (i : Int)).toNat = i := by omega
          rw [e, List.getElem?_eq_getElem hi'] at h4
          exact (Option.some.inj h4).symm
        subst ez
        exact ⟨b, out, h1, h2, h3⟩
      have gj : ∀ {H' : Hp}, Same H H' → ∃ b out, SqL K H' p out ∧ atI out (0 + (i : Int) + j) = some (.ref b) ∧ SqT K H' b (L[i + j].map V.str) := fun {H'} e => by
        obtain ⟨b, out, zs, h1, h2, h3, h4, _⟩ := (hL.ex e).get (i := 0 + (i : Int) + j) (by omega) (by omega)
        have ez : zs = L[i + j] := by
          have e : ((0 : Int) + (i : Int) + j).toNat = i + j := by omega
          rw [e, List.getElem?_eq_getElem hj'] at h4
          exact (Option.some.inj h4).symm
        subst ez
        exact ⟨b, out, h1, h2, h3⟩
      obtain ⟨b1, o1, x1, x2, x3⟩ := gi e2
      refine r_ixL x1 x2 ?_
      walk_at "rd"
      refine r_slA x3 fun q H3 e3 hq => ?_
      rw [cutV_to (by omega), Int.toNat_natCast, ← List.map_take] at hq
      walk_at "rd"
      have e23 := e2.trans e3
      obtain ⟨b2, o2, y1, y2, y3⟩ := gi e23
      refine r_ixL y1 y2 ?_
      walk_at "rd"
      obtain ⟨b3, o3, z1, z2, z3⟩ := gj e23
      refine r_ixL z1 z2 ?_
      walk_at "rd"
      refine ⟨b2, b3, _, _, rfl, y3, z3, fun r H4 e4 hr => ?_⟩
      walk_at "rd"
      have a1 : ∀ z ∈ L[i].take (com L[i] L[i + j]), Asc z := fun z hz => (name_asc hzn (List.mem_of_mem_take hz)).2
      refine r_same_strs hr (ex_t e4 hq) a1 a1 (by have := name_len hzn; simp; omega) (by have := name_len hzn; simp; omega) ?_
      walk_at "rd"
      have e24 := e23.trans e4
      obtain ⟨b2, o2, y1, y2, y3⟩ := gj e24
      refine r_ixL y1 y2 ?_
      walk_at "rd"
      obtain ⟨b3, o3, z1, z2, z3⟩ := gi e24
      refine r_ixL z1 z2 ?_
      walk_at "rd"
      refine ⟨b2, b3, _, _, rfl, y3, z3, fun r5 H5 e5 hr5 => ?_⟩
      walk_at "rd"
      rw [com_comm, ← com_take] at hr5
      refine r_same_strs hr5 (ex_t (e4.trans e5) hq) a1 a1 (by have := name_len hzn; simp; omega) (by have := name_len hzn; simp; omega) ?_
      walk_at "rd"
      refine ⟨⟨some (.int (0 + (i : Int) + j)), some (.ref q), ?_⟩, e24.trans e5⟩
      rw [Nat.add_sub_cancel, getD_at hj']
      rfl
    · rintro σ' H2 ⟨⟨w3, w4, rfl⟩, e2⟩
      walk_at "rd"
      exact ⟨⟨_, _, _, _, rfl⟩, e2⟩
  · rintro σ' H1 ⟨⟨v1, v2, v3, v4, rfl⟩, e1⟩
    walk_at "rd"
    exact k _ e1
/-- the greatest common part -/
def tk (c : Nat) (ns : List Str) (L : List (List Str)) : Nat := if h : c < L.length then com ns L[c] else 0
theorem tk_of {c : Nat} {ns : List Str} {L : List (List Str)} (h : c < L.length) : tk c ns L = com ns L[c] := by unfold tk; rw [dif_pos h]
theorem tk_le (c : Nat) (ns : List Str) (L : List (List Str)) : tk c ns L ≤ ns.length := by
  unfold tk
  split
  · exact (com_le _ _).1
  · omega
theorem most_is {ns : List Str} {L : List (List Str)} {c m : Nat} (hS : L.Pairwise fun a b => leN a b = true) (hc : c ≤ L.length) (h1 : ∀ j (hj : j < L.length), j < c → leN L[j] ns = true) (h2 : ∀ j (hj : j < L.length), c ≤ j → leN L[j] ns = false)
    (h3 : ∀ j (hj : j < L.length), com ns L[j] ≤ m) (h4 : m = 0 ∨ ∃ j, ∃ hj : j < L.length, com ns L[j] = m) : m = max (if 0 < c then tk (c - 1) ns L else 0) (tk c ns L) := by
  have srt : ∀ i j (hi : i < L.length) (hj : j < L.length), i ≤ j → leN L[i] L[j] = true := fun i j hi hj hij => by
    rcases Nat.lt_or_ge i j with h | h
    · exact (List.pairwise_iff_getElem.mp hS) i j hi hj h
    · have : i = j := by omega
      subst this
      unfold leN
      rw [ltN_irrefl]; rfl
  have up : ∀ j (hj : j < L.length), com ns L[j] ≤ max (if 0 < c then tk (c - 1) ns L else 0) (tk c ns L) := by
    intro j hj
    rcases Nat.lt_or_ge j c with h | h
    · have hc1 : c - 1 < L.length := by omega
      rw [if_pos (by omega), tk_of hc1]
      have := com_mid L[j] L[c - 1] ns (srt _ _ hj hc1 (by omega)) (h1 _ hc1 (by omega))
      rw [com_comm ns L[j], com_comm ns L[c - 1]]
      omega
    · have hc1 : c < L.length := by omega
      rw [tk_of hc1]
      have h5 : leN ns L[c] = true := by
        have := leN_total ns L[c]
        rw [h2 c hc1 (Nat.le_refl _), Bool.or_false] at this
        exact this
      have := com_mid ns L[c] L[j] h5 (srt _ _ hc1 hj h)
      omega
  have lo : max (if 0 < c then tk (c - 1) ns L else 0) (tk c ns L) ≤ m := by
    refine Nat.max_le.mpr ⟨?_, ?_⟩
    · split
      · rw [tk_of (by omega)]
        exact h3 _ _
      · omega
    · unfold tk
      split
      · exact h3 _ _
      · omega
  rcases h4 with h | ⟨j, hj, h⟩
  · omega
  · have := up j hj
    omega
theorem ok__law_longest (T : Txt K mg) : Fn P w K mg base 4 "_law_longest" ["names", "name"] (fun vs H Q _ => ∃ (p b : Addr) (L : List (List Str)) (ns : List Str), vs = [.ref p, .ref b] ∧ NmsL K H p L ∧ AllN L ∧ L.length ≤ 1000 ∧ (L.Pairwise fun a b => leN a b = true) ∧ SqT K H b (ns.map V.str) ∧ nameB ns = true ∧ ∀ H', Same H H' → Q (.bl true) H') := by
  refine T.d__law_longest.ok sc__law_longest (by rintro vs H Q E ⟨_, _, _, _, rfl, _⟩; rfl) (fun f cdv A outer s H vs Q E hr h => ?_)
  obtain ⟨p, b, L, ns, rfl, hL, hN, hl, hS, hb, hn, k⟩ := h
  refine ⟨_, (pss_cons (ps_set (i := 2) sc__law_longest.nd rfl (.inl rfl) pe_int)
  (pss_cons (ps_set (i := 3) sc__law_longest.nd rfl (.inl rfl) pe_int)
  (pss_cons (ps_for PassesOwn.never rfl (pi_list (pv 0)) (pg_name (i := 4) sc__law_longest.nd rfl (.inl rfl))
  (pss_cons (ps_set (i := 2) sc__law_longest.nd rfl (.inl rfl) (pe_callB (cMax2 rfl) (by rfl) T.m_max (by decide +kernel) (pa_cons (pv 2) (pa_cons (pe_fn (ok__law_common T) (hr.mono (by decide)) (by rfl) (pa_cons (pv 1) (pa_cons (pv 4) pa_nil))) pa_nil))))
  (pss_one (ps_if (pt_cmpR (op_leD hr.units) (pv 4) (pv 1) (nomark _))
  (pss_one (ps_set (i := 3) sc__law_longest.nd rfl (.inl rfl) (pe_op op_add (pv 3) pe_int)))
  pss_nil))))
  (pss_cons (ps_set (i := 5) sc__law_longest.nd rfl (.inl rfl) (pe_tup pa_nil))
  (pss_cut (ps_if (pt_cmpR op_gt (pv 3) pe_int (nomark _))
  (pss_one (ps_set (i := 5) sc__law_longest.nd rfl (.inl rfl) (pe_fn (ok_shared T) (hr.mono (by decide)) (by rfl) (pa_cons (pv 1) (pa_cons (pe_ix ix_list (pv 0) (pe_op op_sub (pv 3) pe_int) (fun _ _ => rfl)) pa_nil)))))
  pss_nil)
  (pss_cut (ps_if (pt_cmpR op_lt (pv 3) (pe_callB cLenQ (by rfl) T.m_len PySem.boot_len (pa_cons (pv 0) pa_nil)) (nomark _))
  (pss_cons (ps_set (i := 6) sc__law_longest.nd rfl (.inl rfl) (pe_fn (ok_shared T) (hr.mono (by decide)) (by rfl) (pa_cons (pv 1) (pa_cons (pe_ix ix_list (pv 0) (pv 3) (fun _ _ => rfl)) pa_nil))))
  (pss_one (ps_if (pt_cmpR op_gt (pe_callB cLenQ (by rfl) T.m_len PySem.boot_len (pa_cons (pv 6) pa_nil)) (pe_callB cLenQ (by rfl) T.m_len PySem.boot_len (pa_cons (pv 5) pa_nil)) (nomark _))
  (pss_one (ps_set (i := 5) sc__law_longest.nd rfl (.inl rfl) (pv 6)))
  pss_nil)))
  pss_nil)
  (pss_one (ps_ret (pe_fn (ok__law_same T 3) hr (by rfl) (pa_cons (pv 5) (pa_cons (pe_slice sl_tupA (pv 1) po_none (po_some (pv 2))) pa_nil))))))))))), ?_⟩
  have srt : ∀ i j (hi : i < L.length) (hj : j < L.length), i ≤ j → leN L[i] L[j] = true := fun i j hi hj hij => by
    rcases Nat.lt_or_ge i j with h | h
    · exact (List.pairwise_iff_getElem.mp hS) i j hi hj h
    · have : i = j := by omega
      subst this
      unfold leN
      rw [ltN_irrefl]; rfl
  have hnl := name_len hn
  walk_at "en"
  obtain ⟨out, hL1, hT1⟩ := id hL
  have ho := hT1.1
  refine r_iList1 out hL1 ?_
  walk_at "rd"
  refine loopN (L := L) (fun i σ' H' => H' = H ∧ ∃ (m c : Nat) (v : Option V), σ' = [some (.ref p), some (.ref b), some (.int m), some (.int c), v, none, none] ∧ c ≤ i ∧ (∀ j (hj : j < L.length), j < c → leN L[j] ns = true) ∧ (∀ j (hj : j < L.length), c ≤ j → j < i → leN L[j] ns = false) ∧
    (∀ j (hj : j < L.length), j < i → com ns L[j] ≤ m) ∧ (m = 0 ∨ ∃ j, ∃ hj : j < L.length, j < i ∧ com ns L[j] = m)) hL ⟨rfl, 0, 0, none, rfl, Nat.le_refl _, by intro j _ h; omega, by intro j _ _ h; omega, by intro j _ h; omega, .inl rfl⟩ (fun i σ' H' h => by rw [h.1]; exact Same.refl _) ?_ ?_
  · rintro i q zs σ' H1 hz hq ⟨rfl, m, c, v, rfl, hci, h1, h2, h3, h4⟩
    have hi := (List.getElem?_eq_some_iff.mp hz).1
    have ez : L[i] = zs := (List.getElem?_eq_some_iff.mp hz).2
    subst ez
    have hzn := name_len (hN _ (List.getElem_mem hi))
    walk_at "rd"
    refine ⟨b, q, _, _, rfl, hb, hq, by omega, by omega, ?_⟩
    walk_at "rd"
    refine r_leTS hq hb ?_
    have em : (if ((com ns L[i] : Nat) : Int) > ((m : Nat) : Int) then ((com ns L[i] : Nat) : Int) else ((m : Nat) : Int)) = ((max m (com ns L[i]) : Nat) : Int) := by split <;> omega
    rw [em]
    have h3' : ∀ j (hj : j < L.length), j < i + 1 → com ns L[j] ≤ max m (com ns L[i]) := fun j hj hji => by
      by_cases e : j = i
      · subst e; omega
      · have := h3 j hj (by omega); omega
    have h4' : max m (com ns L[i]) = 0 ∨ ∃ j, ∃ hj : j < L.length, j < i + 1 ∧ com ns L[j] = max m (com ns L[i]) := by
      rcases Nat.lt_or_ge m (com ns L[i]) with hlt | hge
      · exact .inr ⟨i, hi, by omega, by omega⟩
      · rcases h4 with h | ⟨j, hj, hji, h⟩
        · exact .inl (by omega)
        · exact .inr ⟨j, hj, by omega, by omega⟩
    walk_at "rd"
    cases hlt : ltN ns L[i] with
    | false =>
      have hle : leN L[i] ns = true := by unfold leN; rw [hlt]; rfl
      have ec : c = i := by
        rcases Nat.lt_or_ge c i with h | h
        · have := h2 c (by omega) (Nat.le_refl _) h
          rw [leN_trans (srt c i (by omega) hi (by omega)) hle] at this
          cases this
        · omega
      walk_at "rd"
      refine ⟨rfl, _, c + 1, _, rfl, by omega, fun j hj hjc => ?_, fun j hj h5 h6 => by omega, h3', h4'⟩
      exact leN_trans (srt j i hj hi (by omega)) hle
    | true =>
      have hle : leN L[i] ns = false := by unfold leN; rw [hlt]; rfl
      walk_at "rd"
      refine ⟨rfl, _, c, _, rfl, by omega, h1, fun j hj h5 h6 => ?_, h3', h4'⟩
      by_cases e : j = i
      · subst e; exact hle
      · exact h2 j hj h5 (by omega)
  · rintro σ' H1 ⟨rfl, m, c, v, rfl, hci, h1, h2, h3, h4⟩
    have hm := most_is hS hci h1 (fun j hj h => h2 j hj h hj) (fun j hj => h3 j hj hj) (h4.imp id fun ⟨j, hj, _, h⟩ => ⟨j, hj, h⟩)
    have a1 : ∀ n, ∀ z ∈ ns.take n, Asc z := fun n z hz => (name_asc hn (List.mem_of_mem_take hz)).2
    have lt : ∀ n, ((ns.take n).map V.str).length = min n ns.length := fun n => by rw [List.length_map, List.length_take]
    have gt : ∀ {H' : Hp}, Same H1 H' → ∀ k, k < L.length → ∃ b out, SqL K H' p out ∧ atI out (k : Int) = some (.ref b) ∧ SqT K H' b ((L.getD k []).map V.str) := fun {H'} e k hk => by
      obtain ⟨b, out, zs, g1, g2, g3, g4, _⟩ := (hL.ex e).get (i := (k : Int)) (by omega) (by omega)
      rw [Int.toNat_natCast] at g4
      have : L.getD k [] = zs := by rw [List.getD_eq_getElem?_getD, g4]; rfl
      rw [this]
      exact ⟨b, out, g1, g2, g3⟩
    walk_at "rd"
    intro t0 H2 n2 e2 ht0
    walk_at "rd"
    refine r_cut (fun σ' H' => Same H1 H' ∧ ∃ t, σ' = [some (.ref p), some (.ref b), some (.int m), some (.int c), v, some (.ref t), none] ∧ SqT K H' t ((ns.take (if 0 < c then tk (c - 1) ns L else 0)).map V.str)) ?_ ?_
    · walk_at "rd"
      walk_at "sp" <;> intro h0
      · walk_at "rd"
        obtain ⟨b1, o1, g1, g2, g3⟩ := gt e2 (c - 1) (by omega)
        have ei : ((c : Int) - 1) = ((c - 1 : Nat) : Int) := by omega
        rw [ei]
        refine r_ixL g1 g2 ?_
        walk_at "rd"
        refine ⟨b, b1, _, _, rfl, ex_t e2 hb, g3, fun q H3 e3 hq => ?_⟩
        walk_at "rd"
        refine ⟨e2.trans e3, q, rfl, ?_⟩
        rw [if_pos (by omega), tk_of (by omega)]
        rw [getD_at (by omega)] at hq
        exact hq
      · walk_at "rd"
        refine ⟨e2, t0, rfl, ?_⟩
        rw [if_neg (by omega), List.take_zero]
        exact SqT.of ht0
    rintro σ' H3 ⟨e3, t, rfl, ht⟩
    refine r_cut (fun σ' H' => Same H1 H' ∧ ∃ t w, σ' = [some (.ref p), some (.ref b), some (.int m), some (.int c), v, some (.ref t), w] ∧ SqT K H' t ((ns.take m).map V.str)) ?_ ?_
    · walk_at "rd"
      rw [ho]
      walk_at "sp" <;> intro h0
      · walk_at "rd"
        obtain ⟨b1, o1, g1, g2, g3⟩ := gt e3 c (by omega)
        refine r_ixL g1 g2 ?_
        walk_at "rd"
        refine ⟨b, b1, _, _, rfl, ex_t e3 hb, g3, fun q H4 e4 hq => ?_⟩
        have hcL : c < L.length := by omega
        rw [getD_at hcL, ← tk_of hcL] at hq
        have ht4 := ex_t e4 ht
        walk_at "rd"
        rw [lt, lt]
        have l1 := tk_le c ns L
        have l2 := tk_le (c - 1) ns L
        walk_at "sp" <;> intro h5
        · walk_at "rd"
          refine ⟨e3.trans e4, q, _, rfl, ?_⟩
          have e : m = tk c ns L := by rw [hm]; split <;> split at h5 <;> omega
          rw [e]
          exact hq
        · walk_at "rd"
          refine ⟨e3.trans e4, t, _, rfl, ?_⟩
          have e : m = (if 0 < c then tk (c - 1) ns L else 0) := by rw [hm]; split <;> split at h5 <;> omega
          rw [e]
          exact ht4
      · walk_at "rd"
        refine ⟨e3, t, _, rfl, ?_⟩
        have hz : tk c ns L = 0 := by unfold tk; rw [dif_neg (by omega)]
        rw [hz, Nat.max_zero] at hm
        rw [hm]
        exact ht
    rintro σ' H4 ⟨e4, t4, w, rfl, ht4⟩
    walk_at "rd"
    refine r_slA (ex_t e4 hb) fun q H5 e5 hq => ?_
    rw [cutV_to (by omega), Int.toNat_natCast, ← List.map_take] at hq
    walk_at "rd"
    refine r_same_strs (ex_t e5 ht4) hq (a1 _) (a1 _) (by simp; omega) (by simp; omega) ?_
    rw [decide_eq_true rfl]
    exact k _ (e4.trans e5)

def spLaw (K : PySem.W.Frag) : Sp := fun vs H Q _ => ∃ (a : Addr) (ns : List Int), vs = [.ref a] ∧ SqL K H a (ns.map V.int) ∧ ns.length ≤ 63 ∧ ∀ H', Q (.bl true) H'
theorem ok_law (T : Txt K mg) : Fn P w K mg base 6 "law" ["script"] (spLaw K) := by
  refine T.d_law.ok sc_law (by rintro vs H Q E ⟨_, _, rfl, _⟩; rfl) (fun f cdv A outer s H vs Q E hr h => ?_)
  obtain ⟨a, ns, rfl, hL, hlen, k⟩ := h
  refine ⟨_, (pss_cons (ps_set (i := 1) sc_law.nd rfl (.inl rfl) (pe_fn (ok__law_cell T) (hr.mono (by decide)) (by rfl) (pa_cons (pv 0) (pa_cons pe_int pa_nil))))
  (pss_cons (ps_set (i := 2) sc_law.nd rfl (.inl rfl) (pe_op op_add pe_int (pe_op op_mod (pe_callTy cInt (by rfl) T.m_int (by decide +kernel) (pa_cons (pv 1) pa_nil)) pe_int)))
  (pss_cut (ps_if (pt_cmpR op_eq (pe_op op_mod (pe_callTy cInt (by rfl) T.m_int (by decide +kernel) (pa_cons (pe_op op_fdiv (pv 1) pe_int) pa_nil)) pe_int) pe_int (nomark _))
  (pss_one (ps_set (i := 2) sc_law.nd rfl (.inl rfl) pe_int))
  pss_nil)
  (pss_cons (ps_set (i := 3) sc_law.nd rfl (.inl rfl) (pe_lst pa_nil))
  (pss_cons (ps_for PassesOwn.never rfl (pi_range1 rfl T.m_range (pa_cons (pv 2) pa_nil)) (pg_name (i := 4) sc_law.nd rfl (.inl rfl))
  (pss_cons (ps_set (i := 5) sc_law.nd rfl (.inl rfl) (pe_fn (ok__law_drawn T) hr (by rfl) (pa_cons (pv 3) (pa_cons (pe_fn (ok__law_source T) (hr.mono (by decide)) (by rfl) (pa_cons (pe_fn (ok__law_cell T) (hr.mono (by decide)) (by rfl) (pa_cons (pv 0) (pa_cons (pe_op op_add pe_int (pv 4)) pa_nil))) pa_nil)) pa_nil))))
  (pss_one (ps_if (pt_cmpR (op_notInD (units65 hr)) (pv 5) (pv 3) (by first | rfl | with_unfolding_all rfl))
  (pss_one (ps_expr (pe_bm PySem.F.plainAttrs_list PySem.F.slot_list_append PySem.F.type_list_append mt_append (pv 3) (pa_cons (pv 5) pa_nil))))
  pss_nil))))
  (pss_cons (ps_set (i := 6) sc_law.nd rfl (.inl rfl) (pe_fn (ok__law_drawn T) hr (by rfl) (pa_cons (pv 3) (pa_cons (pe_fn (ok__law_source T) (hr.mono (by decide)) (by rfl) (pa_cons (pe_fn (ok__law_cell T) (hr.mono (by decide)) (by rfl) (pa_cons (pv 0) (pa_cons pe_int pa_nil))) pa_nil)) pa_nil))))
  (pss_cons (ps_set (i := 7) sc_law.nd rfl (.inl rfl) (pe_callB (cr_sortedD hr.units) (by rfl) T.m_sorted (by decide +kernel) (pa_cons (pv 3) pa_nil)))
  (pss_one (ps_ret (pe_and (pe_fn (ok__law_blocks T) (hr.mono (by decide)) (by rfl) (pa_cons (pv 7) pa_nil)) (pe_and (pe_fn (ok__law_neighbours T) (hr.mono (by decide)) (by rfl) (pa_cons (pv 7) pa_nil)) (pe_one (pe_fn (ok__law_longest T) (hr.mono (by decide)) (by rfl) (pa_cons (pv 7) (pa_cons (pv 6) pa_nil))))))))))))))), ?_⟩
  walk_at "en"
  refine r_cell hL hlen (by omega) (by omega) fun size => ?_
  walk_at "rd"
  refine r_cut (fun σ' H' => H' = H ∧ ∃ count : Int, 1 ≤ count ∧ count ≤ 20 ∧ σ' = [some (.ref a), some (.int size), some (.int count), none, none, none, none, none]) ?_ ?_
  · have q1 := Int.emod_nonneg size (show (9 : Int) ≠ 0 by decide)
    have q2 := Int.emod_lt_of_pos size (show (0 : Int) < 9 by decide)
    walk_at "rd"
    walk_at "sp" <;> intro h0
    · walk_at "rd"
      exact ⟨rfl, _, by omega, by omega, rfl⟩
    · walk_at "rd"
      exact ⟨rfl, _, by omega, by omega, rfl⟩
  rintro σ' H0 ⟨rfl, count, hc1, hc2, rfl⟩
  walk_at "rd"
  intro p H1 n1 e1 hp
  walk_at "rd"
  refine loopR (fun i σ' H' => ∃ (v4 v5 : Option V) (out : List V) (L : List (List Str)), σ' = [some (.ref a), some (.int size), some (.int count), some (.ref p), v4, v5, none, none] ∧ Same H0 H' ∧ H' p = some (.lst out) ∧ TupsAt K H' out L ∧ AllN L ∧ L.length ≤ i)
    ⟨none, none, [], [], rfl, e1, hp, ⟨rfl, by intro i zs h; cases h⟩, (by intro zs hz; cases hz), Nat.le_refl _⟩ ?_ ?_
  · rintro i σ' H2 hi ⟨v4, v5, out, L, rfl, e2, hp2, hT, hN, hz⟩
    walk_at "rd"
    refine r_cell (ex_l e2 hL) hlen (by omega) (by omega) fun c' => ?_
    walk_at "rd"
    refine r_source fun H3 b e3 n3 s3 => ?_
    walk_at "rd"
    have hpb : p ≠ b := by
      rintro rfl
      rw [n3] at hp2; cases hp2
    refine ⟨p, b, out, L, rfl, SqL.of (e3 _ _ hp2), hpb, hT.ex e3, hN, by omega, s3, fun H4 v b4 s4 hv => ?_⟩
    obtain ⟨t, zs, rfl, ht, hzs⟩ := hv
    have e4 : Same H2 H4 := same_src e3 n3 b4
    walk_at "rd"
    refine r_notInTS ht (SqL.of (e4 _ _ hp2)) (hT.ex e4) (fun z hz => (name_asc hzs hz).2) hN.asc ?_
    walk_at "rd"
    walk_at "sp" <;> intro h5
    · walk_at "rd"
      refine r_append (e4 _ _ hp2) ?_
      walk_at "rd"
      have ho := hT.1
      refine r_append1 (e4 _ _ hp2) (by omega) fun H5 b5 h5 => ?_
      have hT4 := hT.ex e4
      refine ⟨_, _, out ++ [.ref t], L ++ [zs], rfl, same_but (e2.trans e4) b5 n1, h5, ⟨by simp [ho], fun j ys hj => ?_⟩, fun ys hy => ?_, by simp; omega⟩
      · by_cases ej : j < L.length
        · rw [List.getElem?_append_left ej] at hj
          obtain ⟨c, hc, hs⟩ := hT4.2 j ys hj
          exact ⟨c, by rw [List.getElem?_append_left (by omega)]; exact hc, but_t b5 (e4 _ _ hp2) hs⟩
        · have hj' := (List.getElem?_eq_some_iff.mp hj).1
          have ej : j = L.length := by rw [List.length_append, List.length_singleton] at hj'; omega
          subst ej
          have : ys = zs := by simpa using hj.symm
          subst this
          exact ⟨t, by rw [← ho]; simp, but_t b5 (e4 _ _ hp2) ht⟩
      · rcases List.mem_append.mp hy with h | h
        · exact hN _ h
        · rw [List.mem_singleton.mp h]; exact hzs
    · walk_at "rd"
      exact ⟨_, _, out, L, rfl, e2.trans e4, e4 _ _ hp2, hT.ex e4, hN, by omega⟩
  · rintro σ' H2 ⟨v4, v5, out, L, rfl, e2, hp2, hT, hN, hz⟩
    walk_at "rd"
    refine r_cell (ex_l e2 hL) hlen (by omega) (by omega) fun c' => ?_
    walk_at "rd"
    refine r_source fun H3 b e3 n3 s3 => ?_
    walk_at "rd"
    have hpb : p ≠ b := by
      rintro rfl
      rw [n3] at hp2; cases hp2
    refine ⟨p, b, out, L, rfl, SqL.of (e3 _ _ hp2), hpb, hT.ex e3, hN, by omega, s3, fun H4 v b4 s4 hv => ?_⟩
    obtain ⟨t, fs, rfl, ht, hfs⟩ := hv
    have e4 : Same H2 H4 := same_src e3 n3 b4
    walk_at "rd"
    refine r_sortN (SqL.of (e4 _ _ hp2)) (hT.ex e4) fun ys q H5 hy nq e5 hq => ?_
    walk_at "rd"
    have hM : NmsL K H5 q (sortN L) := ⟨ys, SqL.of hq, hy⟩
    have hMN : AllN (sortN L) := fun zs hz => hN zs ((sortN_perm L).mem_iff.mp hz)
    have hMl : (sortN L).length ≤ 1000 := by rw [(sortN_perm L).length_eq]; omega
    refine ⟨q, _, rfl, hM, hMN, fun H6 e6 => ?_⟩
    walk_at "rd"
    refine ⟨q, _, rfl, hM.ex e6, hMN, hMl, sortN_sorted L, fun H7 e7 => ?_⟩
    walk_at "rd"
    refine ⟨q, t, _, _, rfl, hM.ex (e6.trans e7), hMN, hMl, sortN_sorted L, ex_t ((e5.trans e6).trans e7) ht, hfs, fun H8 e8 => ?_⟩
    exact k _

end
end My
open PySem PySem.W PyProof.Rows
theorem My.law_fin {P : Program} {w : World} {K : PySem.W.Frag} {mg : Str → Option Value} {h : Heap} {fa : Addr} (KX : K.In h) (hmg : mg "law" = some (.ref fa)) (T : My.Txt K mg) :
    ∃ fd : FuncData, (∀ (s : Shared) (u : Value), BindsTo s fd ⟨[u], []⟩ [("script", u)]) ∧ ∀ base : Heap, K.In base → base.Ns mainGlobals mg → L2.FnOk P w K mg base L2.CX0 6 fa fd ["script"] (My.spLaw K) :=
  My.Fn.fin T.d_law hmg (fun _ _ _ _ _ _ _ => rfl) (fun base => My.ok_law T)
set_option maxRecDepth 100000 in
set_option maxHeartbeats 0 in
theorem PySem.Challenge.cw_provenames_k05_names_in_order_holds : PySem.Challenge.rw_provenames_k05_names_in_order.Holds := by
  w_on; o_law; k_head; (case hw => w_witness2)
  k_fill
  refine L2.walk_of (l := PySem.Challenge.rw_provenames_k05_names_in_order) (n := 63) (k := 6) (x := "script") (CX := fun _ => L2.CX0) (sp := fun w => My.spLaw _) rfl (by decide) rfl ⟨rfl, by decide, by decide⟩ (fun w h Y => PySem.W.kIn_of Y) ?F (fun _ _ a ns hl _ hS => ⟨a, ns, rfl, hS, hl, fun _ => rfl⟩) (fun _ _ _ _ _ h => h)
  case F =>
    intro w mg fa h KX G hmg
    refine My.law_fin KX hmg ?T
    case T =>
      refine' ⟨?m_bool, ?m_int, ?m_isinstance, ?m_len, ?m_list, ?m_max, ?m_min, ?m_range, ?m_sorted, ?m_str, ?m_tuple, ?m_zip, ?d_lies_in, ?d_lies_below, ?d_shared, ?d__law_cell, ?d__law_source, ?d__law_draw, ?d__law_label, ?d__law_name, ?d__law_longer, ?d__law_other, ?d__law_same, ?d__law_bool, ?d__law_common, ?d__law_drawn, ?d__law_blocks, ?d__law_neighbours, ?d__law_longest, ?d_law⟩
      (case m_bool => exact PySem.W.mg_none_of KX G (by k_is))
      (case m_int => exact PySem.W.mg_none_of KX G (by k_is))
      (case m_isinstance => exact PySem.W.mg_none_of KX G (by k_is))
      (case m_len => exact PySem.W.mg_none_of KX G (by k_is))
      (case m_list => exact PySem.W.mg_none_of KX G (by k_is))
      (case m_max => exact PySem.W.mg_none_of KX G (by k_is))
      (case m_min => exact PySem.W.mg_none_of KX G (by k_is))
      (case m_range => exact PySem.W.mg_none_of KX G (by k_is))
      (case m_sorted => exact PySem.W.mg_none_of KX G (by k_is))
      (case m_str => exact PySem.W.mg_none_of KX G (by k_is))
      (case m_tuple => exact PySem.W.mg_none_of KX G (by k_is))
      (case m_zip => exact PySem.W.mg_none_of KX G (by k_is))
      (case d_lies_in => (refine' My.def1_mk KX G (fun _ _ _ _ _ _ us hl => match us, hl with | [_, _], _ => rfl) ?a ?l ?c ?k; (case a => k_is); (case l => k_is); (case c => k_is); (case k => k_is)))
      (case d_lies_below => (refine' My.def1_mk KX G (fun _ _ _ _ _ _ us hl => match us, hl with | [_, _], _ => rfl) ?a ?l ?c ?k; (case a => k_is); (case l => k_is); (case c => k_is); (case k => k_is)))
      (case d_shared => (refine' My.def1_mk KX G (fun _ _ _ _ _ _ us hl => match us, hl with | [_, _], _ => rfl) ?a ?l ?c ?k; (case a => k_is); (case l => k_is); (case c => k_is); (case k => k_is)))
      (case d__law_cell => (refine' My.def1_mk KX G (fun _ _ _ _ _ _ us hl => match us, hl with | [_, _], _ => rfl) ?a ?l ?c ?k; (case a => k_is); (case l => k_is); (case c => k_is); (case k => k_is)))
      (case d__law_source => (refine' My.def1_mk KX G (fun _ _ _ _ _ _ us hl => match us, hl with | [_], _ => rfl) ?a ?l ?c ?k; (case a => k_is); (case l => k_is); (case c => k_is); (case k => k_is)))
      (case d__law_draw => (refine' My.def1_mk KX G (fun _ _ _ _ _ _ us hl => match us, hl with | [_, _], _ => rfl) ?a ?l ?c ?k; (case a => k_is); (case l => k_is); (case c => k_is); (case k => k_is)))
      (case d__law_label => (refine' My.def1_mk KX G (fun _ _ _ _ _ _ us hl => match us, hl with | [_], _ => rfl) ?a ?l ?c ?k; (case a => k_is); (case l => k_is); (case c => k_is); (case k => k_is)))
      (case d__law_name => (refine' My.def1_mk KX G (fun _ _ _ _ _ _ us hl => match us, hl with | [_], _ => rfl) ?a ?l ?c ?k; (case a => k_is); (case l => k_is); (case c => k_is); (case k => k_is)))
      (case d__law_longer => (refine' My.def1_mk KX G (fun _ _ _ _ _ _ us hl => match us, hl with | [_, _], _ => rfl) ?a ?l ?c ?k; (case a => k_is); (case l => k_is); (case c => k_is); (case k => k_is)))
      (case d__law_other => (refine' My.def1_mk KX G (fun _ _ _ _ _ _ us hl => match us, hl with | [_, _], _ => rfl) ?a ?l ?c ?k; (case a => k_is); (case l => k_is); (case c => k_is); (case k => k_is)))
      (case d__law_same => (refine' My.def1_mk KX G (fun _ _ _ _ _ _ us hl => match us, hl with | [_, _], _ => rfl) ?a ?l ?c ?k; (case a => k_is); (case l => k_is); (case c => k_is); (case k => k_is)))
      (case d__law_bool => (refine' My.def1_mk KX G (fun _ _ _ _ _ _ us hl => match us, hl with | [_, _], _ => rfl) ?a ?l ?c ?k; (case a => k_is); (case l => k_is); (case c => k_is); (case k => k_is)))
      (case d__law_common => (refine' My.def1_mk KX G (fun _ _ _ _ _ _ us hl => match us, hl with | [_, _], _ => rfl) ?a ?l ?c ?k; (case a => k_is); (case l => k_is); (case c => k_is); (case k => k_is)))
      (case d__law_drawn => (refine' My.def1_mk KX G (fun _ _ _ _ _ _ us hl => match us, hl with | [_, _], _ => rfl) ?a ?l ?c ?k; (case a => k_is); (case l => k_is); (case c => k_is); (case k => k_is)))
      (case d__law_blocks => (refine' My.def1_mk KX G (fun _ _ _ _ _ _ us hl => match us, hl with | [_], _ => rfl) ?a ?l ?c ?k; (case a => k_is); (case l => k_is); (case c => k_is); (case k => k_is)))
      (case d__law_neighbours => (refine' My.def1_mk KX G (fun _ _ _ _ _ _ us hl => match us, hl with | [_], _ => rfl) ?a ?l ?c ?k; (case a => k_is); (case l => k_is); (case c => k_is); (case k => k_is)))
      (case d__law_longest => (refine' My.def1_mk KX G (fun _ _ _ _ _ _ us hl => match us, hl with | [_, _], _ => rfl) ?a ?l ?c ?k; (case a => k_is); (case l => k_is); (case c => k_is); (case k => k_is)))
      (case d_law => (refine' My.def1_mk KX G (fun _ _ _ _ _ _ us hl => match us, hl with | [_], _ => rfl) ?a ?l ?c ?k; (case a => k_is); (case l => k_is); (case c => k_is); (case k => k_is)))
#print axioms PySem.Challenge.cw_provenames_k05_names_in_order_holds

