import PyProof.Rows.All
import Wide.All
import OpenK.AllK
import Wide.FinOn
import HandS.ForMost
import HandS.ForExc
import HandS.TupAny
import HandS.IsInst
import HandS.Codes
import HandS.Style
import HandS.StrMore
import HandS.Small
import HandS.ExcIs
import HandS.FStr
import HandS.RaiseMore
import HandS.GenBody
import HandS.Zip
import HandS.GenYield
import HandS.GenCall
import HandS.GenList
import PyProof.GenComp
import KE.SortData
import KE.DataCmp
import HandS.Deep
import HandS.Property
import HandS.Defaults
import HandS.More
import PySem.Challenge.RW_provenames_k09_signatures
set_option Elab.async false
set_option linter.all false
set_option maxRecDepth 100000
set_option maxHeartbeats 4000000
namespace My
open PySem PySem.Spec PyProof.Rows L2
open C8 (tCut pss_cut)
/-! ### defs by their names -/
/-- the def st stands at the module's name x -/
def Def1 (K : PySem.W.Frag) (mg : Str → Option Value) (x : Str) (ps : List Str) (st : Stmt) : Prop := ∃ f fd, mg x = some (.ref f) ∧ Fun K x x st f fd ∧ Binds K fd ps []
/-- the def at the module's name x keeps the promise sp -/
def Fn (P : Program) (w : World) (K : PySem.W.Frag) (mg : Str → Option Value) (base : Heap) (k : Nat) (x : Str) (ps : List Str) (sp : Sp) : Prop :=
  ∃ f fd, mg x = some (.ref f) ∧ PySem.W.keepIn K (.ref f) = true ∧ Binds K fd ps [] ∧ FnOk P w K mg base CX0 k f fd ps sp ∧ ∃ oc od osl, K.lookup f = some ⟨oc, od, .func fd, osl⟩
theorem def1_mk {K : PySem.W.Frag} {h : Heap} {mg : Str → Option Value} {x : Str} {ps : List Str} {st : Stmt} {f : Addr} {oc : Value} {od an : Option Addr} {osl : Array (Option Value)} {kV doc pm cdv ct : Value} (X : K.In h) (G : h.Ns mainGlobals mg)
    (hb : ∀ (kV doc pm : Value) (an : Option Addr) (cdv ct : Value) (us : List Value), us.length = ps.length → bindArgs (PySem.W.fnOf x x (defArgs st) (defBody st) (defScope st) .none kV doc pm an cdv ct) ⟨us, []⟩ = pure (ps.zip us))
    (a : PySem.W.nsIn K mainGlobals x = some (some (.ref f))) (l : K.lookup f = some ⟨oc, od, .func (PySem.W.fnOf x x (defArgs st) (defBody st) (defScope st) .none kV doc pm an cdv ct), osl⟩)
    (c : PySem.W.codeIn K cdv x = true) (k : PySem.W.keepIn K (.ref f) = true) : Def1 K mg x ps st :=
  have F := fun_mk (st := st) l c k
  ⟨f, _, PySem.W.mg_of X G a, F, F.binds hb⟩
section
variable {P : Program} {w : World} {K : PySem.W.Frag} {mg : Str → Option Value} {base : Heap}
theorem Def1.ok {x : Str} {ps N : List Str} {st : Stmt} {k : Nat} {sp : Sp} (d : Def1 K mg x ps st) (S : FnScope N ps (defScope st)) (len : ∀ vs H Q E, sp vs H Q E → vs.length = ps.length)
    (hbody : ∀ (f : Addr) (cdv : Value) (A : Around) (outer : List Env) (s : Shared) (H : Hp) (vs : List V) (Q : VK) (E : XK), Room k (A.deeper (envOfC x (defScope st) s.heap.objs.size f cdv)) → sp vs H Q E →
      ∃ t, PSs (cxOf CX0 P w K mg base N x (defScope st) f cdv A outer s H E).nox (defBody st) t ∧ t { nx := fun _ H' => Q .non H', rt := Q } (start N vs) H) : Fn P w K mg base (k + 1) x ps sp := by
  obtain ⟨f, fd, hm, F, b⟩ := d
  refine ⟨f, fd, hm, F.kp, b, F.ok S len (hbody f), ?_⟩
  obtain ⟨oc, od, kV, doc, pm, an, cdv, ct, osl, _, lk, _⟩ := F.ex
  exact ⟨oc, od, osl, lk⟩
/-- the law's def, at the end -/
theorem Fn.fin {x p : Str} {st : Stmt} {k : Nat} {sp : Sp} {fa : Addr} (d : Def1 K mg x [p] st) (hfa : mg x = some (.ref fa))
    (hb : ∀ (kV doc pm : Value) (an : Option Addr) (cdv ct u : Value), bindArgs (PySem.W.fnOf x x (defArgs st) (defBody st) (defScope st) .none kV doc pm an cdv ct) ⟨[u], []⟩ = pure [(p, u)])
    (h : ∀ base : Heap, Fn P w K mg base k x [p] sp) : ∃ fd : FuncData, (∀ (s : Shared) (u : Value), BindsTo s fd ⟨[u], []⟩ [(p, u)]) ∧ ∀ base : Heap, K.In base → base.Ns mainGlobals mg → FnOk P w K mg base CX0 k fa fd [p] sp := by
  obtain ⟨f, fd, hm, F, b⟩ := d
  obtain ⟨oc, od, kV, doc, pm, an, cdv, ct, osl, e, lk, _⟩ := F.ex
  have ef : f = fa := Value.ref.inj (Option.some.inj (hm.symm.trans hfa))
  subst ef
  refine ⟨fd, fun s u => ?_, fun base _ _ => ?_⟩
  · rw [e]
    exact .of_eq (hb _ _ _ _ _ _ _)
  · obtain ⟨f', fd', hm', _, _, ok, oc', od', osl', lk'⟩ := h base
    have ef : f' = f := Value.ref.inj (Option.some.inj (hm'.symm.trans hm))
    subst ef
    rw [lk] at lk'
    have e2 := Option.some.inj lk'
    have e3 : fd = fd' := by
      injection e2 with _ _ e4 _
      injection e4
    rw [e3]
    exact ok
end
section
variable {X : Cx} {k : Nat} {x : Str} {ps : List Str} {sp : Sp}
def tFn (sp : Sp) (t : TA) : TE := fun σ H Q => t σ H fun vs H1 => sp vs H1 Q E0
theorem pe_fn {e : Expr} {es : List Expr} {t : TA} {p pos : Pos} (G : Fn X.prog X.w X.K X.mg X.base k x ps sp) (hr : Room k X.A) (hg : Gl X x) (ha : PA X (e :: es) t) (hdb : (x == ("__debug__" : Str)) = false := by decide)
    (he : starEach (e :: es) X.env = (false, eval e X.env) :: starEach es X.env := by rfl) (hpl : (backTo pos (starEach es X.env)).any (·.1) = false := by rfl) : PE X (.Call (.Name x p) (e :: es) [] pos) (tFn sp t) := by
  obtain ⟨f, fd, hm, hk, hb, F, _⟩ := G
  have h := pe_call (p := p) F hr hg hm hk hb .nil (E := E0) pass0 ha hdb he hpl
  refine ⟨fun pins s σ H Q I q => h.run pins s σ H Q I ?_⟩
  unfold tCall
  simp only [List.append_nil]
  exact q
theorem pe_fn0 {p pos : Pos} (G : Fn X.prog X.w X.K X.mg X.base k x ps sp) (hr : Room k X.A) (hg : Gl X x) (hdb : (x == ("__debug__" : Str)) = false := by decide) : PE X (.Call (.Name x p) [] [] pos) (tFn sp tNil) := by
  obtain ⟨f, fd, hm, hk, hb, F, _⟩ := G
  have h := pe_call0 F hr hg hm hk hb .nil (E := E0) pass0 hdb (p := p) (pos := pos)
  refine ⟨fun pins s σ H Q I q => h.run pins s σ H Q I ?_⟩
  unfold tCall
  simp only [List.append_nil]
  exact q
/-- a constant of the module -/
def GC (mg : Str → Option Value) (x : Str) (v : V) : Prop := ∃ u, mg x = some u ∧ RelV v u
theorem pe_gc {x : Str} {v : V} {pos : Pos} (h : GC X.mg x v) (hg : Gl X x) (hd : (x == ("__debug__" : Str)) = false := by decide) : PE X (.Name x pos) (tC v) := by
  obtain ⟨u, hm, r⟩ := h
  exact pe_glob hg hm r hd
end

/-! ### a statement, then the rest, with a word between them -/
section
variable {X : Cx}
theorem r_cut {t u : TS} {a c d : L2.St → Hp → Prop} {b : VK} {σ : L2.St} {H : Hp} (Mid : L2.St → Hp → Prop) (h : t ⟨Mid, b, c, d⟩ σ H) (k : ∀ σ' H', Mid σ' H' → u ⟨a, b, c, d⟩ σ' H') : tCut t u ⟨a, b, c, d⟩ σ H := ⟨Mid, h, k⟩
end
section
variable {X : Cx}
/-- an expression's value, told by a word between it and what follows -/
def tCutE (t : TE) : TE := fun σ H Q => ∃ Mid : VK, t σ H Mid ∧ ∀ v H', Mid v H' → Q v H'
theorem pe_cut {e : Expr} {t : TE} (h : PE X e t) : PE X e (tCutE t) := by
  refine ⟨fun pins s σ H Q I q => ?_⟩
  obtain ⟨Mid, hm, hk⟩ := q
  refine thn (h.run pins s σ H Mid I hm) fun v s1 q1 => ?_
  obtain ⟨x, H', I', r, m⟩ := q1
  exact ⟨x, H', I', r, hk _ _ m⟩
theorem r_cutE {t : TE} {σ : L2.St} {H : Hp} {Q : VK} (Mid : VK) (h : t σ H Mid) (k : ∀ v H', Mid v H' → Q v H') : tCutE t σ H Q := ⟨Mid, h, k⟩
end
/-! ### the rules under names of their own -/
section
variable {X : Cx} {to te : TE}
def rLenS : List V → Hp → VK → Prop := fun xs H Q => ∃ z, xs = [.str z] ∧ z.length ≤ sizeLine ∧ Q (.int z.length) H
theorem cLenS : CallR X (.builtin "len") rLenS := call_len_str
def rLenQ (K : PySem.W.Frag) : List V → Hp → VK → Prop := fun xs H Q => ∃ p ys, xs = [.ref p] ∧ (SqL K H p ys ∨ SqT K H p ys) ∧ Q (.int ys.length) H
theorem cLenQ : CallR X (.builtin "len") (rLenQ X.K) := call_len_seq
def rInt : List V → Hp → VK → Prop := fun xs H Q => (∃ i, xs = [.int i] ∧ Q (.int i) H) ∨ ∃ k, xs = [.bl k] ∧ Q (.int (if k then 1 else 0)) H
theorem cInt : CallR X (.type "int") rInt := call_int1
def rAddS : R2 := fun x y H Q => ∃ i j, x = .str i ∧ y = .str j ∧ i.length + j.length ≤ sizeLine ∧ Q (.str (i ++ j)) H
theorem oAddS : OpR X (binaryOp .Add) rAddS := op_add_str
def rInS : R2 := fun x y H Q => ∃ (c : Nat) (z : Str), x = .str ⟨#[c]⟩ ∧ y = .str z ∧ Q (.bl (decide (c ∈ z.cps.toList))) H
def rNotInS : R2 := fun x y H Q => ∃ (c : Nat) (z : Str), x = .str ⟨#[c]⟩ ∧ y = .str z ∧ Q (.bl (!decide (c ∈ z.cps.toList))) H
theorem oInS : OpR X (compareOp .In) rInS := op_in_sign
theorem oNotInS : OpR X (compareOp .NotIn) rNotInS := op_notIn_sign
def rTupOf (K : PySem.W.Frag) : List V → Hp → VK → Prop := fun xs H Q => ∃ p ys, xs = [.ref p] ∧ ((SqL K H p ys ∧ ∀ l, H l = none → Q (.ref l) (upd H l (.tup ys))) ∨ (SqT K H p ys ∧ Q (.ref p) H))
theorem cTupOf : CallR X (.type "tuple") (rTupOf X.K) := call_tuple_of
def rListOf (K : PySem.W.Frag) : List V → Hp → VK → Prop := fun xs H Q => ∃ p ys, xs = [.ref p] ∧ (SqL K H p ys ∨ SqT K H p ys) ∧ ∀ l, H l = none → Q (.ref l) (upd H l (.lst ys))
theorem cListOf : CallR X (.type "list") (rListOf X.K) := call_list_of
def tUp (to : TE) : TE := tM0 (fun x xs H Q => ∃ a, x = .str a ∧ xs = [] ∧ a.length ≤ 5592405 ∧ Q (.str (Txt.upper a)) H) to
theorem pe_up {o : Expr} {apos pos : Pos} (ho : PE X o to) (hbase : attributeBase o "upper" X.env (eval o X.env) = eval o X.env := by rfl) (hline : (apos.endLine == pos.line) = true := by rfl) : PE X (.Call (.Attribute o "upper" apos) [] [] pos) (tUp to) := pe_upper ho hbase hline
def tLow (to : TE) : TE := tM0 (fun x xs H Q => ∃ a, x = .str a ∧ xs = [] ∧ a.length ≤ 5592405 ∧ Q (.str (Txt.lower a)) H) to
theorem pe_low {o : Expr} {apos pos : Pos} (ho : PE X o to) (hbase : attributeBase o "lower" X.env (eval o X.env) = eval o X.env := by rfl) (hline : (apos.endLine == pos.line) = true := by rfl) : PE X (.Call (.Attribute o "lower" apos) [] [] pos) (tLow to) := pe_lower ho hbase hline
end
theorem nox_K {CX : CXT} {P : Program} {w : World} {K : PySem.W.Frag} {mg : Str → Option Value} {base : Heap} {N : List Str} {q : Str} {sc : Scope} {f : Addr} {cdv : Value} {A : Around} {outer : List Env} {s : Shared} {H : Hp} {E : XK} :
    (cxOf CX P w K mg base N q sc f cdv A outer s H E).nox.K = K := rfl
/-! ### heaps -/
theorem ex_new {H : Hp} {p : Addr} {o : HO} (h : H p = none) : Same H (upd H p o) := fun a u e => by
  rw [upd_ne (ne_of_none e h)]
  exact e
/-- all but what stands at l is as it was -/
def But (l : Addr) (H H' : Hp) : Prop := ∀ b o, b ≠ l → H b = some o → H' b = some o
theorem But.refl (l : Addr) (H : Hp) : But l H H := fun _ _ _ h => h
theorem But.trans {l : Addr} {H H1 H2 : Hp} (a : But l H H1) (b : But l H1 H2) : But l H H2 := fun c o n h => b c o n (a c o n h)
theorem But.of {l : Addr} {H H' : Hp} (a : Same H H') : But l H H' := fun c o _ h => a c o h
theorem But.upd {l : Addr} {H : Hp} {o : HO} : But l H (upd H l o) := fun c u n h => by
  rw [upd_ne n]
  exact h
theorem But.same {l : Addr} {H H0 H' : Hp} (e : Same H0 H) (b : But l H H') (h : H0 l = none) : Same H0 H' := fun c o h0 => b c o (ne_of_none h0 h) (e c o h0)
theorem ex_l {K : PySem.W.Frag} {H H' : Hp} {a : Addr} {xs : List V} (e : Same H H') (h : SqL K H a xs) : SqL K H' a xs := e.seq h
theorem ex_t {K : PySem.W.Frag} {H H' : Hp} {a : Addr} {xs : List V} (e : Same H H') (h : SqT K H a xs) : SqT K H' a xs :=
  h.imp (fun h => h.imp (e a _) fun ⟨o, h⟩ => ⟨o, e a _ h⟩) id
theorem but_rd {l : Addr} {H H' : Hp} {a : Addr} {u : HO} (e : But l H H') (n : a ≠ l) (h : Rd H a u) : Rd H' a u := by
  rcases h with h | ⟨o, h⟩
  · exact Or.inl (e a _ n h)
  · exact Or.inr ⟨o, e a _ n h⟩
theorem but_t {K : PySem.W.Frag} {l : Addr} {H H' : Hp} {a : Addr} {xs ys : List V} (e : But l H H') (hl : H l = some (.lst ys)) (h : SqT K H a xs) : SqT K H' a xs := by
  rcases h with h | h
  · refine Or.inl (but_rd e ?_ h)
    rintro rfl
    rcases h with h | ⟨o, h⟩
    · rw [hl] at h; cases h
    · rw [hl] at h; cases h
  · exact Or.inr h
theorem but_l {K : PySem.W.Frag} {l : Addr} {H H' : Hp} {a : Addr} {xs : List V} (e : But l H H') (n : a ≠ l) (h : SqL K H a xs) : SqL K H' a xs := by
  rcases h with h | h
  · exact Or.inl (but_rd e n h)
  · exact Or.inr h
theorem fresh_back {H H' : Hp} {p : Addr} (e : Same H H') (h : H' p = none) : H p = none := by
  cases h1 : H p with
  | none => rfl
  | some o =>
    rw [e p o h1] at h
    cases h
theorem but_fresh {l : Addr} {H H' : Hp} {p : Addr} (e : But l H H') (n : p ≠ l) (h : H' p = none) : H p = none := by
  cases h1 : H p with
  | none => rfl
  | some o =>
    rw [e p o n h1] at h
    cases h
/-! ### the readings' steps -/
section
variable {σ : L2.St} {H : Hp} {Q : VK} {QT : Bool → Hp → Prop} {QA : List V → Hp → Prop} {QO : Option Int → Hp → Prop} {ta tb tc te : TE} {t u : TT} {v x y : V} {i j : Nat} {K : PySem.W.Frag}
theorem r_var (h : σ[i]? = some (some v)) (q : Q v H) : tVar i σ H Q := ⟨v, h, q⟩
theorem r_c (q : Q v H) : tC v σ H Q := q
theorem r_op {r : R2} (h : ta σ H fun x H1 => tb σ H1 fun y H2 => r x y H2 Q) : tOp r ta tb σ H Q := h
theorem r_un {r : V → Hp → VK → Prop} (h : ta σ H fun x H1 => r x H1 Q) : tUn r ta σ H Q := h
theorem r_if (h : t σ H fun c H1 => if c = true then ta σ H1 Q else tb σ H1 Q) : tIf t ta tb σ H Q := h
theorem r_fn {sp : Sp} {t : TA} (h : t σ H fun vs H1 => sp vs H1 Q E0) : tFn sp t σ H Q := h
theorem r_cb {r : List V → Hp → VK → Prop} {t : TA} (h : t σ H fun vs H1 => r vs H1 Q) : tCB r t σ H Q := h
theorem r_nil (q : QA [] H) : tNil σ H QA := q
theorem r_cons {tr : TA} (h : ta σ H fun x H1 => tr σ H1 fun xs H2 => QA (x :: xs) H2) : tCons ta tr σ H QA := h
/-- a new tuple, a new list, whatever the heap's form -/
def NewT (xs : List V) (H : Hp) (Q : VK) : Prop := xs.length ≤ sizeLine ∧ ∀ p, H p = none → Q (.ref p) (upd H p (.tup xs))
def NewL (xs : List V) (H : Hp) (Q : VK) : Prop := xs.length ≤ sizeLine ∧ ∀ p, H p = none → Q (.ref p) (upd H p (.lst xs))
theorem r_tup {t : TA} (h : t σ H fun xs H1 => NewT xs H1 Q) : tTup t σ H Q := h
theorem r_lst {t : TA} (h : t σ H fun xs H1 => NewL xs H1 Q) : tLst t σ H Q := h
theorem r_newT {xs : List V} (hl : xs.length ≤ 100000) (h : ∀ p H2, H p = none → Same H H2 → H2 p = some (.tup xs) → Q (.ref p) H2) : NewT xs H Q :=
  ⟨Nat.le_trans hl (by decide), fun p hp => h p _ hp (ex_new hp) upd_same⟩
theorem r_newL {xs : List V} (hl : xs.length ≤ 100000) (h : ∀ p H2, H p = none → Same H H2 → H2 p = some (.lst xs) → Q (.ref p) H2) : NewL xs H Q :=
  ⟨Nat.le_trans hl (by decide), fun p hp => h p _ hp (ex_new hp) upd_same⟩
theorem r_sl {r : V → Option Int → Option Int → Hp → VK → Prop} {tl th : TO} (h : te σ H fun x H1 => tl σ H1 fun l H2 => th σ H2 fun u H3 => r x l u H3 Q) : tSl r te tl th σ H Q := h
theorem r_noPart (q : QO none H) : tNoPart σ H QO := q
theorem r_part (h : te σ H fun x H1 => ∃ i, x = .int i ∧ QO (some i) H1) : tPart te σ H QO := h
theorem r_andV (h : ta σ H fun x H1 => ∃ c, x = .bl c ∧ if c = true then tb σ H1 Q else Q (.bl false) H1) : tAndV ta tb σ H Q := h
theorem r_orV (h : ta σ H fun x H1 => ∃ c, x = .bl c ∧ if c = true then Q (.bl true) H1 else tb σ H1 Q) : tOrV ta tb σ H Q := h
theorem r_notV (h : ta σ H fun x H1 => ∃ c, x = .bl c ∧ Q (.bl (!c)) H1) : tNotV ta σ H Q := h
theorem r_test (h : te σ H fun x H' => ∃ k, x = .bl k ∧ QT k H') : tTest te σ H QT := h
theorem r_tB (h : te σ H fun x H' => ∃ k, x = .bl k ∧ QT k H') : tB te σ H QT := h
theorem r_and (h : t σ H fun c H1 => if c = true then u σ H1 QT else QT false H1) : tAnd t u σ H QT := h
theorem r_or (h : t σ H fun c H1 => if c = true then QT true H1 else u σ H1 QT) : tOr t u σ H QT := h
theorem r_not (h : t σ H fun c H1 => QT (!c) H1) : tNot t σ H QT := h
theorem r_chain {r r' : R2} (h : ta σ H fun x H1 => tb σ H1 fun y H2 => r x y H2 fun z H3 => ∃ k, z = .bl k ∧ if k = true then tc σ H3 fun z' H4 => r' y z' H4 Q else Q (.bl false) H3) : tChain r r' ta tb tc σ H Q := h
theorem r_bl {b : Bool} {QB : Bool → Prop} (q : QB b) : ∃ k, V.bl b = .bl k ∧ QB k := ⟨b, rfl, q⟩
theorem r_I0 {g : Int → Int → V} {a b : Int} (q : Q (g a b) H) : rI0 g (.int a) (.int b) H Q := ⟨a, b, rfl, rfl, q⟩
theorem r_I {C : Int → Int → Prop} {g : Int → Int → V} {a b : Int} (c : C a b) (q : Q (g a b) H) : rI C g (.int a) (.int b) H Q := ⟨a, b, rfl, rfl, c, q⟩
theorem r_U {g : Int → V} {a : Int} (q : Q (g a) H) : rU g (.int a) H Q := ⟨a, rfl, q⟩
theorem r_eqI {a b : Int} (q : Q (.bl (decide (a = b))) H) : rEq (.int a) (.int b) H Q := ⟨rfl, by
  have e : decide (V.int a = V.int b) = decide (a = b) := decide_eq_decide.mpr ⟨fun z => V.int.inj z, fun z => by rw [z]⟩
  rw [e]; exact q⟩
theorem r_neI {a b : Int} (q : Q (.bl (!decide (a = b))) H) : rNe (.int a) (.int b) H Q := ⟨rfl, by
  have e : decide (V.int a = V.int b) = decide (a = b) := decide_eq_decide.mpr ⟨fun z => V.int.inj z, fun z => by rw [z]⟩
  rw [e]; exact q⟩
theorem r_eqS {a b : Str} (q : Q (.bl (decide (a = b))) H) : rEq (.str a) (.str b) H Q := ⟨rfl, by
  have e : decide (V.str a = V.str b) = decide (a = b) := decide_eq_decide.mpr ⟨fun z => V.str.inj z, fun z => by rw [z]⟩
  rw [e]; exact q⟩
theorem r_neS {a b : Str} (q : Q (.bl (!decide (a = b))) H) : rNe (.str a) (.str b) H Q := ⟨rfl, by
  have e : decide (V.str a = V.str b) = decide (a = b) := decide_eq_decide.mpr ⟨fun z => V.str.inj z, fun z => by rw [z]⟩
  rw [e]; exact q⟩
theorem r_eqB {a b : Bool} (q : Q (.bl (decide (a = b))) H) : rEq (.bl a) (.bl b) H Q := ⟨rfl, by
  have e : decide (V.bl a = V.bl b) = decide (a = b) := decide_eq_decide.mpr ⟨fun z => V.bl.inj z, fun z => by rw [z]⟩
  rw [e]; exact q⟩
theorem r_neB {a b : Bool} (q : Q (.bl (!decide (a = b))) H) : rNe (.bl a) (.bl b) H Q := ⟨rfl, by
  have e : decide (V.bl a = V.bl b) = decide (a = b) := decide_eq_decide.mpr ⟨fun z => V.bl.inj z, fun z => by rw [z]⟩
  rw [e]; exact q⟩
theorem r_lenS {z : Str} (hz : z.length ≤ 100000) (q : Q (.int (z.length : Int)) H) : rLenS [.str z] H Q := ⟨z, rfl, Nat.le_trans hz (by decide), q⟩
theorem r_lenT {p : Addr} {ys : List V} (h : SqT K H p ys) (q : Q (.int (ys.length : Int)) H) : rLenQ K [.ref p] H Q := ⟨p, ys, rfl, .inr h, q⟩
theorem r_lenL {p : Addr} {ys : List V} (h : SqL K H p ys) (q : Q (.int (ys.length : Int)) H) : rLenQ K [.ref p] H Q := ⟨p, ys, rfl, .inl h, q⟩
theorem r_int {n : Int} (q : Q (.int n) H) : rInt [.int n] H Q := .inl ⟨n, rfl, q⟩
theorem r_addS {x y : Str} (hz : x.length + y.length ≤ 100000) (q : Q (.str (x ++ y)) H) : rAddS (.str x) (.str y) H Q := ⟨x, y, rfl, rfl, Nat.le_trans hz (by decide), q⟩
theorem r_inS {c : Nat} {z : Str} (q : Q (.bl (decide (c ∈ z.cps.toList))) H) : rInS (.str ⟨#[c]⟩) (.str z) H Q := ⟨c, z, rfl, rfl, q⟩
theorem r_notInS {c : Nat} {z : Str} (q : Q (.bl (!decide (c ∈ z.cps.toList))) H) : rNotInS (.str ⟨#[c]⟩) (.str z) H Q := ⟨c, z, rfl, rfl, q⟩
theorem r_tupOf {p : Addr} {ys : List V} (h : SqL K H p ys) (q : ∀ l H2, H l = none → Same H H2 → H2 l = some (.tup ys) → Q (.ref l) H2) : rTupOf K [.ref p] H Q := ⟨p, ys, rfl, .inl ⟨h, fun l hl => q l _ hl (ex_new hl) upd_same⟩⟩
theorem r_tupOfT {p : Addr} {ys : List V} (h : SqT K H p ys) (q : Q (.ref p) H) : rTupOf K [.ref p] H Q := ⟨p, ys, rfl, .inr ⟨h, q⟩⟩
theorem r_listOf {p : Addr} {ys : List V} (h : SqL K H p ys ∨ SqT K H p ys) (q : ∀ l H2, H l = none → Same H H2 → H2 l = some (.lst ys) → Q (.ref l) H2) : rListOf K [.ref p] H Q := ⟨p, ys, rfl, h, fun l hl => q l _ hl (ex_new hl) upd_same⟩
theorem r_ixL {p : Addr} {xs : List V} {i : Int} (h : SqL K H p xs) (ha : atI xs i = some v) (q : Q v H) : rIxL K (.ref p) (.int i) H Q := ⟨p, xs, i, v, rfl, rfl, h, ha, q⟩
theorem r_ixT {p : Addr} {xs : List V} {i : Int} (h : SqT K H p xs) (ha : atI xs i = some v) (q : Q v H) : rIxT K (.ref p) (.int i) H Q := ⟨p, xs, i, v, rfl, rfl, h, ha, q⟩
theorem r_ixS {z : Str} {i : Int} {c : Nat} (hz : z.length ≤ 100000) (ha : atI z.cps.toList i = some c) (q : Q (.str ⟨#[c]⟩) H) : rIxS (.str z) (.int i) H Q := ⟨z, i, c, rfl, rfl, Nat.le_trans hz (by decide), ha, q⟩
theorem r_bm {T : String} {r : V → List V → Hp → VK → Prop} {to : TE} {t : TA} (h : to σ H fun x H1 => tyV K T x H1 ∧ t σ H1 fun xs H2 => r x xs H2 Q) : tBM K T r to t σ H Q := h
/-- xs.append(y) -/
theorem r_append {l : Addr} {xs : List V} {t : TA} (h : H l = some (.lst xs)) (h2 : t σ H fun vs H2 => rAppend (.ref l) vs H2 Q) : tyV K "list" (.ref l) H ∧ t σ H fun vs H2 => rAppend (.ref l) vs H2 Q := ⟨.inl ⟨rfl, _, SqL.of h⟩, h2⟩
theorem r_append1 {l : Addr} {xs : List V} {y : V} (h : H l = some (.lst xs)) (hz : xs.length < 100000) (q : ∀ H2, But l H H2 → H2 l = some (.lst (xs ++ [y])) → Q .non H2) : rAppend (.ref l) [y] H Q := ⟨l, xs, y, rfl, rfl, h, Nat.lt_of_lt_of_le hz (by decide), q _ But.upd upd_same⟩
theorem r_sub {to ti : TE} {r : TSet} {Q : L2.St → Hp → Prop} (h : to σ H fun o H1 => ti σ H1 fun i H2 => r o i v H2 fun H3 => Q σ H3) : gSub to ti r v σ H Q := h
theorem r_setL {p : Addr} {xs : List V} {k : Int} {j : Nat} {Q : Hp → Prop} (h : H p = some (.lst xs)) (hj : ixN xs.length k = some j) (q : ∀ H2, But p H H2 → H2 p = some (.lst (xs.set j v)) → Q H2) : rSetL (.ref p) (.int k) v H Q := ⟨p, xs, k, j, rfl, rfl, h, hj, q _ But.upd upd_same⟩
def UpR (x : V) (H : Hp) (Q : VK) : Prop := (∃ a, x = .str a) ∧ ∃ a, x = .str a ∧ ([] : List V) = [] ∧ a.length ≤ 5592405 ∧ Q (.str (Txt.upper a)) H
theorem r_up {to : TE} (h : to σ H fun x H1 => UpR x H1 Q) : tUp to σ H Q := h
theorem r_up1 {z : Str} (hz : z.length ≤ 100000) (q : Q (.str (Txt.upper z)) H) : UpR (.str z) H Q := ⟨⟨z, rfl⟩, z, rfl, rfl, Nat.le_trans hz (by decide), q⟩
def LowR (x : V) (H : Hp) (Q : VK) : Prop := (∃ a, x = .str a) ∧ ∃ a, x = .str a ∧ ([] : List V) = [] ∧ a.length ≤ 5592405 ∧ Q (.str (Txt.lower a)) H
theorem r_low {to : TE} (h : to σ H fun x H1 => LowR x H1 Q) : tLow to σ H Q := h
theorem r_low1 {z : Str} (hz : z.length ≤ 100000) (q : Q (.str (Txt.lower z)) H) : LowR (.str z) H Q := ⟨⟨z, rfl⟩, z, rfl, rfl, Nat.le_trans hz (by decide), q⟩
theorem r_slS {z : Str} {lo hi : Option Int} (hz : z.length ≤ 100000) (q : Q (.str (cutS z lo hi)) H) : rSlS (.str z) lo hi H Q := ⟨z, rfl, Nat.le_trans hz (by decide), q⟩
/-! statements -/
variable {a b' c d : L2.St → Hp → Prop} {b : VK} {t1 t2 : TS}
theorem r_seq (h : t1 ⟨t2 ⟨a, b, c, d⟩, b, c, d⟩ σ H) : tSeq t1 t2 ⟨a, b, c, d⟩ σ H := h
theorem r_next (h : a σ H) : tNext ⟨a, b, c, d⟩ σ H := h
theorem r_brk (h : c σ H) : tBreak ⟨a, b, c, d⟩ σ H := h
theorem r_cont (h : d σ H) : tCont ⟨a, b, c, d⟩ σ H := h
theorem r_asgN (h : te σ H fun x H1 => a (σ.set i (some x)) H1) : tAsg te (gName i) ⟨a, b, c, d⟩ σ H := h
theorem r_asg {g : TG} (h : te σ H fun x H1 => g x σ H1 a) : tAsg te g ⟨a, b, c, d⟩ σ H := h
theorem r_gName {Q : L2.St → Hp → Prop} (h : Q (σ.set i (some v)) H) : gName i v σ H Q := h
theorem r_ret (h : te σ H b) : tRet te ⟨a, b, c, d⟩ σ H := h
theorem r_retN (h : b .non H) : tRetN ⟨a, b, c, d⟩ σ H := h
theorem r_drop (h : te σ H fun _ H1 => a σ H1) : tDrop te ⟨a, b, c, d⟩ σ H := h
theorem r_ifS (h : t σ H fun k H1 => if k = true then t1 ⟨a, b, c, d⟩ σ H1 else t2 ⟨a, b, c, d⟩ σ H1) : tIfS t t1 t2 ⟨a, b, c, d⟩ σ H := h
end
/-! ### loops -/
section
variable {σ : L2.St} {H : Hp} {te : TE} {ta : TA} {a c d : L2.St → Hp → Prop} {b : VK} {tb : TS} {j : Nat} {K : PySem.W.Frag} {g : TG}
theorem for_str {x : Str} {g : TG} {D : Ends} (Pv : Nat → L2.St → Hp → Prop) (h0 : Pv 0 σ H)
    (hs : ∀ i k σ H, x.cps[i]? = some k → Pv i σ H → g (.str ⟨#[k]⟩) σ H fun σ2 H2 => tb { D with nx := Pv (i + 1), ct := Pv (i + 1), bk := D.nx } σ2 H2) (hd : ∀ σ H, Pv x.cps.size σ H → D.nx σ H) :
    ∃ W : Nat → Nat → L2.St → Hp → Prop, (∃ m, W 0 m σ H) ∧ ∀ i m σ H, W i m σ H →
      ((Its x).stop i H ∧ D.nx σ H) ∨ ((Its x).go i H ∧ ∃ N : L2.St → Hp → Prop, (∀ σ' H', N σ' H' → ∃ m', m' < m ∧ W (i + 1) m' σ' H') ∧ ∀ y H', (Its x).yld i H y H' → g y σ H' fun σ2 H2 => tb { D with nx := N, ct := N, bk := D.nx } σ2 H2) := by
  refine ⟨fun i m σ H => m = x.cps.size - i ∧ i ≤ x.cps.size ∧ Pv i σ H, ⟨x.cps.size, by simp, Nat.zero_le _, h0⟩, ?_⟩
  rintro i m σ H ⟨rfl, hi, p⟩
  by_cases hlt : i < x.cps.size
  · refine .inr ⟨hlt, Pv (i + 1), fun σ' H' p' => ⟨x.cps.size - (i + 1), by omega, rfl, hlt, p'⟩, fun y H' q => ?_⟩
    obtain ⟨rfl, k, hk, rfl⟩ := q
    exact hs i k σ _ hk p
  · have e : i = x.cps.size := by omega
    subst e
    exact .inl ⟨Nat.le_refl _, hd σ H p⟩
def ForR (J : It) (g : TG) (tb : TS) (D : Ends) (σ : L2.St) (H : Hp) : Prop := ∃ W : Nat → Nat → L2.St → Hp → Prop, (∃ m, W 0 m σ H) ∧ ∀ i m σ H, W i m σ H →
  (J.stop i H ∧ D.nx σ H) ∨ (J.go i H ∧ ∃ N : L2.St → Hp → Prop, (∀ σ' H', N σ' H' → ∃ m', m' < m ∧ W (i + 1) m' σ' H') ∧ ∀ x H', J.yld i H x H' → g x σ H' fun σ2 H2 => tb { D with nx := N, ct := N, bk := D.nx } σ2 H2)
theorem r_for {wi : TI} (h : wi σ H fun J H1 => ForR J g tb ⟨a, b, c, d⟩ σ H1) : tFor wi g tb ⟨a, b, c, d⟩ σ H := h
variable {R : It → Hp → Prop}
theorem r_iStr (h : te σ H fun v H1 => ∃ x, v = .str x ∧ R (Its x) H1) : iStr te σ H R := h
theorem r_exI {n : Int} {QS : Int → Prop} (h : QS n) : ∃ y, V.int n = .int y ∧ QS y := ⟨n, rfl, h⟩
theorem r_iStr1 {x : Str} {QS : Str → Prop} (h : QS x) : ∃ y, V.str x = .str y ∧ QS y := ⟨x, rfl, h⟩
theorem r_iList (h : te σ H fun x H1 => ∃ a, x = .ref a ∧ (∃ xs, SqL K H1 a xs) ∧ R (Itl K a) H1) : iList K te σ H R := h
theorem r_iList1 {a : Addr} {QS : Addr → Prop} (xs : List V) (hx : SqL K H a xs) (h : QS a) : ∃ b, V.ref a = .ref b ∧ (∃ xs, SqL K H b xs) ∧ QS b := ⟨a, rfl, ⟨xs, hx⟩, h⟩
theorem r_iTup (h : te σ H fun x H1 => ∃ a, x = .ref a ∧ (∃ xs, SqT K H1 a xs) ∧ R (Itt K a) H1) : iTup K te σ H R := h
theorem r_iTup1 {a : Addr} {QS : Addr → Prop} (xs : List V) (hx : SqT K H a xs) (h : QS a) : ∃ b, V.ref a = .ref b ∧ (∃ xs, SqT K H b xs) ∧ QS b := ⟨a, rfl, ⟨xs, hx⟩, h⟩
theorem r_iRng1 (h : ta σ H fun vs H1 => ∃ j : Int, vs = [.int j] ∧ -(2 ^ 62) ≤ j ∧ j < 2 ^ 62 ∧ R (Itr 0 j.toNat) H1) : iRng1 ta σ H R := h
theorem r_iRng11 {n : Int} {QS : Int → Prop} (h1 : -1000000 ≤ n ∧ n ≤ 1000000) (h : QS n) : ∃ j : Int, [V.int n] = [.int j] ∧ -(2 ^ 62) ≤ j ∧ j < 2 ^ 62 ∧ QS j := ⟨n, rfl, by omega, by omega, h⟩
theorem r_iRng2 (h : ta σ H fun vs H1 => ∃ i j : Int, vs = [.int i, .int j] ∧ (-(2 ^ 62) ≤ i ∧ i < 2 ^ 62 ∧ -(2 ^ 62) ≤ j ∧ j < 2 ^ 62) ∧ R (Itr i (j - i).toNat) H1) : iRng2 ta σ H R := h
theorem r_iRng21 {i n : Int} (h1 : -1000000 ≤ i ∧ i ≤ 1000000 ∧ -1000000 ≤ n ∧ n ≤ 1000000) {QS : Int → Int → Prop} (h : QS i n) : ∃ i' j : Int, [V.int i, V.int n] = [.int i', .int j] ∧ (-(2 ^ 62) ≤ i' ∧ i' < 2 ^ 62 ∧ -(2 ^ 62) ≤ j ∧ j < 2 ^ 62) ∧ QS i' j := ⟨i, n, rfl, by omega, h⟩
/-- the loops, by a word Pv by the turn -/
theorem loopS {x : Str} (Pv : Nat → L2.St → Hp → Prop) (h0 : Pv 0 σ H) (hs : ∀ i k σ' H', x.cps.toList[i]? = some k → Pv i σ' H' → tb ⟨Pv (i + 1), b, a, Pv (i + 1)⟩ (σ'.set j (some (.str ⟨#[k]⟩))) H') (hd : ∀ σ' H', Pv x.cps.toList.length σ' H' → a σ' H') :
    ForR (Its x) (gName j) tb ⟨a, b, c, d⟩ σ H := by
  refine ⟨fun i m σ H => m = x.cps.size - i ∧ i ≤ x.cps.size ∧ Pv i σ H, ⟨x.cps.size, by simp, Nat.zero_le _, h0⟩, ?_⟩
  rintro i m σ H ⟨rfl, hi, p⟩
  by_cases hlt : i < x.cps.size
  · refine .inr ⟨hlt, Pv (i + 1), fun σ' H' p' => ⟨x.cps.size - (i + 1), by omega, rfl, hlt, p'⟩, fun y H' q => ?_⟩
    obtain ⟨rfl, k, hk, rfl⟩ := q
    exact hs i k σ _ (by rw [← hk]; simp) p
  · have e : i = x.cps.size := by omega
    subst e
    exact .inl ⟨Nat.le_refl _, hd σ H (by simpa using p)⟩
theorem loopL {p : Addr} {xs : List V} (Pv : Nat → L2.St → Hp → Prop) (h0 : Pv 0 σ H) (hl : ∀ i σ' H', i ≤ xs.length → Pv i σ' H' → SqL K H' p xs)
    (hs : ∀ i x σ' H', xs[i]? = some x → Pv i σ' H' → g x σ' H' fun σ2 H2 => tb ⟨Pv (i + 1), b, a, Pv (i + 1)⟩ σ2 H2) (hd : ∀ σ' H', Pv xs.length σ' H' → a σ' H') : ForR (Itl K p) g tb ⟨a, b, c, d⟩ σ H :=
  for_list (xs := xs) (D := ⟨a, b, c, d⟩) Pv h0 hl hs hd
theorem loopT {p : Addr} {xs : List V} (Pv : Nat → L2.St → Hp → Prop) (h0 : Pv 0 σ H) (hl : ∀ i σ' H', i ≤ xs.length → Pv i σ' H' → SqT K H' p xs)
    (hs : ∀ i x σ' H', xs[i]? = some x → Pv i σ' H' → g x σ' H' fun σ2 H2 => tb ⟨Pv (i + 1), b, a, Pv (i + 1)⟩ σ2 H2) (hd : ∀ σ' H', Pv xs.length σ' H' → a σ' H') : ForR (Itt K p) g tb ⟨a, b, c, d⟩ σ H :=
  for_tup (xs := xs) (D := ⟨a, b, c, d⟩) Pv h0 hl hs hd
theorem loopR {lo : Int} {n : Nat} (Pv : Nat → L2.St → Hp → Prop) (h0 : Pv 0 σ H)
    (hs : ∀ i σ' H', i < n → Pv i σ' H' → g (.int (lo + i)) σ' H' fun σ2 H2 => tb ⟨Pv (i + 1), b, a, Pv (i + 1)⟩ σ2 H2) (hd : ∀ σ' H', Pv n σ' H' → a σ' H') : ForR (Itr lo n) g tb ⟨a, b, c, d⟩ σ H :=
  for_range (D := ⟨a, b, c, d⟩) Pv h0 hs hd
end
theorem r_ite {b : Bool} {A B : Prop} (h1 : b = true → A) (h2 : b = false → B) : if b = true then A else B := by
  cases b with
  | true => exact h1 rfl
  | false => exact h2 rfl
theorem r_iteD {p : Prop} {_ : Decidable p} {A B : Prop} (h1 : p → A) (h2 : ¬ p → B) : if decide p = true then A else B := by
  by_cases h : p
  · rw [decide_eq_true h]; exact h1 h
  · rw [decide_eq_false h]; exact h2 h
theorem r_iteN {p : Prop} {_ : Decidable p} {A B : Prop} (h1 : ¬ p → A) (h2 : p → B) : if (!decide p) = true then A else B := by
  by_cases h : p
  · rw [decide_eq_true h]; exact h2 h
  · rw [decide_eq_false h]; exact h1 h
theorem r_iteF {A B : Prop} (h : B) : if false = true then A else B := iteF h
theorem r_iteT {A B : Prop} (h : A) : if true = true then A else B := iteT h
/-! ### slices, tuples of texts -/
theorem cutV_whole {xs : List V} {lo hi : Option Int} (h : HT.sIx xs.length 0 lo = 0 ∧ HT.sIx xs.length xs.length hi = xs.length) : cutV xs lo hi = xs := by
  unfold cutV
  rw [h.1, h.2]
  simp
theorem r_slA {K : PySem.W.Frag} {H : Hp} {Q : VK} {a : Addr} {xs : List V} {lo hi : Option Int} (h : SqT K H a xs) (q : ∀ p H2, Same H H2 → SqT K H2 p (cutV xs lo hi) → Q (.ref p) H2) : rSlA K (.ref a) lo hi H Q :=
  ⟨a, xs, rfl, h, fun w => q a H (Same.refl H) (by rw [cutV_whole w]; exact h), fun _ p hp => q p _ (ex_new hp) (SqT.of upd_same)⟩
theorem r_slL {K : PySem.W.Frag} {H : Hp} {Q : VK} {a : Addr} {xs : List V} {lo hi : Option Int} (h : SqL K H a xs) (q : ∀ p H2, H p = none → Same H H2 → H2 p = some (.lst (cutV xs lo hi)) → Q (.ref p) H2) : rSlL K (.ref a) lo hi H Q :=
  ⟨a, xs, rfl, h, fun p hp => q p _ hp (ex_new hp) upd_same⟩
def Asc (z : Str) : Prop := ∀ c ∈ z.cps.toList, c < 128
theorem Asc.ok {z : Str} (h : Asc z) : PyData.strOk z = true := by
  unfold PyData.strOk
  rw [← Array.all_toList, List.all_eq_true]
  intro c hc
  exact decide_eq_true (Nat.lt_of_lt_of_le (h c hc) (by decide))
instance {z : Str} : Decidable (Asc z) := inferInstanceAs (Decidable (∀ c ∈ z.cps.toList, c < 128))
theorem len_app (x y : Str) : (x ++ y).length = x.length + y.length := Str.length_append x y
theorem len_one (c : Nat) : (⟨#[c]⟩ : Str).length = 1 := rfl
theorem cps_app (x y : Str) : (x ++ y).cps.toList = x.cps.toList ++ y.cps.toList := by
  show (x.cps ++ y.cps).toList = _
  simp
theorem len_list (x : Str) : x.cps.toList.length = x.length := by simp [Str.length]
theorem Asc.app {x y : Str} (h : Asc x) (g : Asc y) : Asc (x ++ y) := by
  intro c hc
  rw [cps_app] at hc
  exact (List.mem_append.mp hc).elim (h c) (g c)
theorem Asc.one {c : Nat} (h : c < 128) : Asc ⟨#[c]⟩ := by
  intro d hd
  have : d = c := by simpa using hd
  omega
theorem Asc.mem {z : Str} {c : Nat} (h : Asc z) (hc : c ∈ z.cps.toList) : Asc ⟨#[c]⟩ := .one (h c hc)
theorem Asc.cut {z : Str} (h : Asc z) (lo hi : Option Int) : Asc (cutS z lo hi) := fun c hc => h c (List.mem_of_mem_drop (List.mem_of_mem_take (by simpa [cutS] using hc)))
theorem dpAll_str {K : PySem.W.Frag} {H : Hp} : ∀ xs : List Str, DpAll K H (xs.map V.str) (xs.map PyData.str)
  | [] => .nil
  | x :: xs => .cons (.str x) (dpAll_str xs)
theorem dp_strs {K : PySem.W.Frag} {H : Hp} {a : Addr} {xs : List Str} (h : SqT K H a (xs.map V.str)) : Dp K H (.ref a) (.tuple (xs.map PyData.str)) := .tup h (dpAll_str xs)
theorem canLay_strs : ∀ {xs : List Str}, (∀ x ∈ xs, Asc x) → PyData.canLayAll0 (xs.map PyData.str) = true
  | [], _ => by simp [PyData.canLayAll0]
  | x :: xs, h => by
    have h1 := (h x (List.mem_cons_self)).ok
    have h2 := canLay_strs (xs := xs) fun y hy => h y (List.mem_cons_of_mem _ hy)
    simp [PyData.canLayAll0, PyData.canLay0, h1, h2]
theorem depth_strs : ∀ xs : List Str, PyData.depthAll (xs.map PyData.str) = 0
  | [] => by simp [PyData.depthAll]
  | x :: xs => by simp [PyData.depthAll, PyData.depth, depth_strs xs]
theorem shaped_strs {xs : List Str} (h : ∀ x ∈ xs, Asc x) : SeqAt.shaped (.tuple (xs.map PyData.str)) = true := by
  unfold SeqAt.shaped
  rw [Bool.and_eq_true]
  refine ⟨by simp only [PyData.canLay0]; exact canLay_strs h, decide_eq_true ?_⟩
  simp [PyData.depth, depth_strs xs]
theorem eqvAll_strs : ∀ xs ys : List Str, PyData.eqvAll (xs.map PyData.str) (ys.map PyData.str) = decide (xs = ys)
  | [], [] => by simp [PyData.eqvAll]
  | [], _ :: _ => by simp [PyData.eqvAll]
  | _ :: _, [] => by simp [PyData.eqvAll]
  | x :: xs, y :: ys => by
    simp only [List.map_cons, PyData.eqvAll, PyData.eqv, eqvAll_strs xs ys]
    by_cases h : x = y <;> by_cases h' : xs = ys <;> simp [h, h']
theorem r_eqD {K : PySem.W.Frag} {H : Hp} {Q : VK} {x y : V} {d e : PyData} (hd : Dp K H x d) (he : Dp K H y e) (sd : SeqAt.shaped d = true) (se : SeqAt.shaped e = true) (q : Q (.bl (PyData.eqv d e)) H) : rEqD K x y H Q := ⟨d, e, hd, he, sd, se, q⟩
theorem r_eqTS {K : PySem.W.Frag} {H : Hp} {Q : VK} {a b : Addr} {xs ys : List Str} (h1 : SqT K H a (xs.map V.str)) (h2 : SqT K H b (ys.map V.str)) (o1 : ∀ x ∈ xs, Asc x) (o2 : ∀ x ∈ ys, Asc x) (q : Q (.bl (decide (xs = ys))) H) : rEqD K (.ref a) (.ref b) H Q := by
  refine r_eqD (dp_strs h1) (dp_strs h2) (shaped_strs o1) (shaped_strs o2) ?_
  have e : PyData.eqv (.tuple (xs.map PyData.str)) (.tuple (ys.map PyData.str)) = decide (xs = ys) := by
    simp only [PyData.eqv]
    exact eqvAll_strs xs ys
  rw [e]
  exact q
theorem cutV_strs (xs : List Str) (lo hi : Option Int) : cutV (xs.map V.str) lo hi = ((xs.drop (HT.sIx xs.length 0 lo)).take (HT.sIx xs.length xs.length hi - HT.sIx xs.length 0 lo)).map V.str := by
  unfold cutV
  rw [List.length_map, List.map_take, List.map_drop]
theorem But.step {l p : Addr} {H H1 H2 : Hp} (a : But l H H1) (b : But p H1 H2) (h : H p = none) : But l H H2 := fun c o n hc => b c o (ne_of_none hc h) (a c o n hc)
theorem But.same' {l : Addr} {H H1 H2 : Hp} (a : But l H H1) (b : Same H1 H2) : But l H H2 := fun c o n hc => b c o (a c o n hc)
theorem But.pre {l : Addr} {H H1 H2 : Hp} (a : Same H H1) (b : But l H1 H2) : But l H H2 := fun c o n hc => b c o n (a c o hc)
theorem But.drop {l : Addr} {H H1 : Hp} (b : But l H H1) (h : H l = none) : Same H H1 := fun c o hc => b c o (ne_of_none hc h) hc
/-- an item at a place in bounds -/
theorem atI_in {α : Type} {xs : List α} {i : Int} (h0 : 0 ≤ i) (h1 : i < (xs.length : Int)) : ∃ v, v ∈ xs ∧ atI xs i = some v ∧ xs[i.toNat]? = some v := by
  obtain ⟨n, rfl⟩ := Int.eq_ofNat_of_zero_le h0
  have hk : n < xs.length := by omega
  exact ⟨xs[n], List.getElem_mem hk, atI_nat (List.getElem?_eq_getElem hk), List.getElem?_eq_getElem hk⟩
theorem ixN_in {n : Nat} {i : Int} (h0 : 0 ≤ i) (h1 : i < (n : Int)) : ixN n i = some i.toNat := by
  unfold ixN
  rw [if_pos h0, if_pos (by omega)]
theorem map_get {α : Type} {f : α → V} {xs : List α} {i : Nat} {x : V} (h : (xs.map f)[i]? = some x) : ∃ y, xs[i]? = some y ∧ x = f y := by
  rw [List.getElem?_map] at h
  cases e : xs[i]? with
  | none => rw [e] at h; cases h
  | some y => rw [e] at h; exact ⟨y, rfl, (Option.some.inj h).symm⟩
/-! ### a law's source of draws -/
def Src (H : Hp) (a : Addr) : Prop := ∃ x y z : Int, H a = some (.lst [.int x, .int y, .int z]) ∧ (y = 0 ∨ (0 ≤ x ∧ x < 2147483648 ∧ 0 ≤ z ∧ z < 2147483648))
theorem Src.lst {H : Hp} {a : Addr} (h : Src H a) : ∃ xs, H a = some (.lst xs) := by
  obtain ⟨_, _, _, h, _⟩ := h
  exact ⟨_, h⟩
theorem Src.ex {H H' : Hp} {a : Addr} (h : Src H a) (e : Same H H') : Src H' a := by
  obtain ⟨x, y, z, h, r⟩ := h
  exact ⟨x, y, z, e _ _ h, r⟩
theorem Src.but {H H' : Hp} {a l : Addr} (h : Src H a) (e : But l H H') (n : a ≠ l) : Src H' a := by
  obtain ⟨x, y, z, h, r⟩ := h
  exact ⟨x, y, z, e _ _ n h, r⟩
def spDraw : Sp := fun vs H Q _ => ∃ (a : Addr) (m : Int), vs = [.ref a, .int m] ∧ Src H a ∧ 0 < m ∧ m ≤ 1000000 ∧ ∀ H' d, But a H H' → Src H' a → 0 ≤ d → d < m → Q (.int d) H'
def spSource : Sp := fun vs H Q _ => ∃ n : Int, vs = [.int n] ∧ ∀ H' a, Same H H' → H a = none → Src H' a → Q (.ref a) H'
def spCell (K : PySem.W.Frag) : Sp := fun vs H Q _ => ∃ (l : Addr) (ns : List Int) (k : Int), vs = [.ref l, .int k] ∧ SqL K H l (ns.map V.int) ∧ ns.length ≤ 63 ∧ 0 ≤ k ∧ k ≤ 1000000 ∧ ∀ c : Int, Q (.int c) H
theorem r_draw {H : Hp} {Q : VK} {a : Addr} {m : Int} (hs : Src H a) (h0 : 0 < m) (h1 : m ≤ 1000000) (q : ∀ H' d, But a H H' → Src H' a → 0 ≤ d → d < m → Q (.int d) H') : spDraw [.ref a, .int m] H Q E0 := ⟨a, m, rfl, hs, h0, h1, q⟩
/-- a def that draws: what it hands back is as post says -/
def spDrawn (post : Hp → V → Prop) : Sp := fun vs H Q _ => ∃ a : Addr, vs = [.ref a] ∧ Src H a ∧ ∀ H' v, But a H H' → Src H' a → post H' v → Q v H'
theorem r_drawn {post : Hp → V → Prop} {H : Hp} {Q : VK} {a : Addr} (hs : Src H a) (q : ∀ H' v, But a H H' → Src H' a → post H' v → Q v H') : spDrawn post [.ref a] H Q E0 := ⟨a, rfl, hs, q⟩
/-- a text of ASCII signs, of so many signs -/
def SV (lo hi : Nat) (v : V) : Prop := ∃ z : Str, v = .str z ∧ lo ≤ z.length ∧ z.length ≤ hi ∧ Asc z
theorem r_cell {K : PySem.W.Frag} {H : Hp} {Q : VK} {l : Addr} {ns : List Int} {k : Int} (hL : SqL K H l (ns.map V.int)) (hn : ns.length ≤ 63) (h0 : 0 ≤ k) (h1 : k ≤ 1000000) (q : ∀ c : Int, Q (.int c) H) : spCell K [.ref l, .int k] H Q E0 := ⟨l, ns, k, rfl, hL, hn, h0, h1, q⟩
theorem r_source {H : Hp} {Q : VK} {n : Int} (q : ∀ H' a, Same H H' → H a = none → Src H' a → Q (.ref a) H') : spSource [.int n] H Q E0 := ⟨n, rfl, q⟩
theorem r_cat {H : Hp} {Q : VK} {l b : Addr} {xs ys : List V} (h1 : H l = some (.lst xs)) (h2 : H b = some (.lst ys)) (hz : xs.length + ys.length ≤ 100000) (q : ∀ p H2, H p = none → Same H H2 → H2 p = some (.lst (xs ++ ys)) → Q (.ref p) H2) : rCat (.ref l) (.ref b) H Q :=
  ⟨l, b, xs, ys, rfl, rfl, h1, h2, Nat.le_trans hz (by decide), fun p hp => q p _ hp (ex_new hp) upd_same⟩
theorem r_isiB {K : PySem.W.Frag} {H : Hp} {Q : VK} {b r : Bool} {T : String} (h : kitB "bool" T = some r) (q : Q (.bl r) H) : rIsi K [.bl b, .ty T] H Q := ⟨_, _, _, _, r, rfl, .ty T, .base (.bl b), kit_ty h, q⟩
theorem r_isiI {K : PySem.W.Frag} {H : Hp} {Q : VK} {b : Int} {r : Bool} {T : String} (h : kitB "int" T = some r) (q : Q (.bl r) H) : rIsi K [.int b, .ty T] H Q := ⟨_, _, _, _, r, rfl, .ty T, .base (.int b), kit_ty h, q⟩
theorem r_isiS {K : PySem.W.Frag} {H : Hp} {Q : VK} {b : Str} {r : Bool} {T : String} (h : kitB "str" T = some r) (q : Q (.bl r) H) : rIsi K [.str b, .ty T] H Q := ⟨_, _, _, _, r, rfl, .ty T, .base (.str b), kit_ty h, q⟩
theorem r_iteNF {A B : Prop} (h : A) : if (!false) = true then A else B := iteT h
theorem r_iteNT {A B : Prop} (h : B) : if (!true) = true then A else B := iteF h
theorem r_iteDp {p : Prop} {_ : Decidable p} {A B : Prop} (h : p) (a : A) : if decide p = true then A else B := by rw [decide_eq_true h]; exact a
theorem r_iteDn {p : Prop} {_ : Decidable p} {A B : Prop} (h : ¬ p) (b : B) : if decide p = true then A else B := by rw [decide_eq_false h]; exact b
theorem r_iteNp {p : Prop} {_ : Decidable p} {A B : Prop} (h : p) (b : B) : if (!decide p) = true then A else B := by rw [decide_eq_true h]; exact b
theorem r_iteNn {p : Prop} {_ : Decidable p} {A B : Prop} (h : ¬ p) (a : A) : if (!decide p) = true then A else B := by rw [decide_eq_false h]; exact a
end My

set_option Elab.async false
set_option linter.all false
set_option maxRecDepth 100000
set_option maxHeartbeats 4000000
namespace My
open PySem PySem.Spec PyProof.Rows L2
open C8 (tCut pss_cut)
/-! ### t[::-1] of a tuple -/
section
variable {prog : Program} {w : World} {A : Around} {E : Value → Shared → Prop} {s : Shared}
theorem sliceBack {sl : Addr} {vs : Value} {n : Nat} {Q : Int × Int × Nat → Shared → Prop} (hs : s.heap.IsSliceOf sl .none .none vs) (ps : IsPart vs (some (-1))) (h : Q ((n : Int) - 1, -1, n) s) :
    wpAny (model prog w) A (Builtin.Slice.sliceApplied (.ref sl) (pure (n : Int))) Q E s := by
  obtain ⟨o, ho, _, hd⟩ := id hs
  unfold Builtin.Slice.sliceApplied Builtin.Slice.sliceFields
  refine wpAny_bind (wpAny_bind (wpAny_field ho hd (x := .none) rfl (wpAny_bind (wpAny_field ho hd (x := .none) rfl (wpAny_bind (wpAny_field ho hd (x := vs) rfl (wpAny_pure ?_)))))))
  refine wpAny_bind (HT.slicePart_ ps ?_)
  show wpAny _ _ (if ((-1 : Int) == 0) = true then _ else _) _ _ s
  rw [if_neg (by decide)]
  refine wpAny_bind (slicePart_none (wpAny_bind (slicePart_none (wpAny_bind (wpAny_pure ?_)))))
  have e : Builtin.Slice.slicePlaces ((n : Int) - 1) (-1) (-1) = n := by
    unfold Builtin.Slice.slicePlaces
    rw [if_neg (by decide)]
    by_cases hn : (n : Int) - 1 > -1
    · rw [if_pos hn]
      have : -(-1 : Int) = 1 := by decide
      rw [this, Int.ediv_one]
      omega
    · rw [if_neg hn]
      omega
  show wpAny _ _ (pure ((n : Int) - 1, (-1 : Int), Builtin.Slice.slicePlaces ((n : Int) - 1) (-1) (-1))) _ _ s
  rw [e]
  exact wpAny_pure h
theorem fm_congr {α β : Type} {f g : α → Option β} : ∀ {l : List α}, (∀ x ∈ l, f x = g x) → l.filterMap f = l.filterMap g
  | [], _ => rfl
  | x :: l, h => by
    rw [List.filterMap_cons, List.filterMap_cons, h x List.mem_cons_self, fm_congr fun y hy => h y (List.mem_cons_of_mem _ hy)]
theorem backPick (xs : Array Value) : ((List.range xs.size).filterMap fun (m : Nat) => xs[(((xs.size : Nat) : Int) - 1 + (m : Int) * (-1)).toNat]?).toArray = xs.toList.reverse.toArray := by
  have e : (List.range xs.size).filterMap (fun (m : Nat) => xs[(((xs.size : Nat) : Int) - 1 + (m : Int) * (-1)).toNat]?) = (((List.range xs.size).map fun k => xs.size - 1 - k)).filterMap (xs[·]?) := by
    rw [List.filterMap_map]
    refine fm_congr fun m hm => ?_
    have hm := List.mem_range.mp hm
    show _ = xs[xs.size - 1 - m]?
    congr 1
    omega
  rw [e, PySem.W.krv_range, List.filterMap_reverse, PySem.W.krv_all]
theorem getItem_back {t sl : Addr} {items : Array Value} {vs : Value} {Q : Value → Shared → Prop} (ht : IsTup s.heap t items) (hs : s.heap.IsSliceOf sl .none .none vs) (ps : IsPart vs (some (-1)))
    (h : Q (.ref s.heap.objs.size) { s with heap := s.heap.push { cls := .type "tuple", data := .seq items.toList.reverse.toArray } }) (hsz : items.size ≤ sizeLine) : wpAny (model prog w) A (getItem (.ref t) (.ref sl)) Q E s := by
  have htake : sizeOk (.seq items.toList.reverse.toArray) := by
    show items.toList.reverse.toArray.size ≤ sizeLine
    rw [List.size_toArray, List.length_reverse, Array.length_toList]
    exact hsz
  obtain ⟨o, ho, hc, _⟩ := id hs
  have hT : s.TypeIs (.ref sl) "slice" := ⟨o, ho, hc⟩
  unfold getItem
  try with_reducible refine wpAny_holding ?_
  first | refine wpAny_bind (wpAny_pure ?_) | skip
  refine wpAny_bind (wpAny_sequenceKey ht.typeIs (by decide) ?_)
  refine wpAny_bind (wpAny_callSpecial?_slot (name := Str.ofString "__getitem__") ht.typeIs PyProof.Rows.slot_tuple_getitem
    (wpAny_call_entry PyProof.Rows.slot_tuple_getitem ht.typeIs entry_tuple_getitem ?_ (args_tuple_getitem _ _)))
  show wpAny _ _ (Builtin.Tuple.tupleItemsOf (.ref t) >>= _) _ _ s
  refine wpAny_bind (tupleItemsOf_ ht ?_)
  refine wpAny_bind (wpAny_typeOf hT ?_)
  rw [if_pos (by decide)]
  refine wpAny_bind (sliceBack hs ps ?_)
  have hno : ¬ ((((items.size : Nat) : Int) - 1 == 0 && (-1 : Int) == 1 && items.size == items.size) = true) := by
    rw [show ((-1 : Int) == 1) = false from by decide, Bool.and_false, Bool.false_and]
    exact Bool.false_ne_true
  show wpAny _ _ (if (((items.size : Nat) : Int) - 1 == 0 && (-1 : Int) == 1 && items.size == items.size) = true then _ else _) _ _ s
  rw [if_neg hno, backPick]
  first
    | exact wpAny_bind (m := Builtin.Tuple.tupleExact _) (wpAny_newObj_type (wpAny_pure ⟨_, rfl, wpAny_pure h⟩) htake)
    | exact wpAny_bind (m := Builtin.Tuple.tupleExact _) (wpAny_newObj_type (wpAny_bind (wpAny_pure (wpAny_pure ⟨_, rfl, wpAny_pure h⟩))) htake)
    | exact wpAny_bind (wpAny_bind (m := Builtin.Tuple.tupleExact _) (wpAny_newObj_type (wpAny_pure (wpAny_pure ⟨_, rfl, wpAny_pure h⟩)) htake))
    | exact wpAny_bind (wpAny_bind (m := Builtin.Tuple.tupleExact _) (wpAny_newObj_type (wpAny_pure ⟨_, rfl, wpAny_pure h⟩) htake))
end
section
variable {X : Cx}
def rBackT (K : PySem.W.Frag) : V → Hp → VK → Prop := fun x H Q => ∃ a xs, x = .ref a ∧ SqT K H a xs ∧ ∀ p, H p = none → Q (.ref p) (upd H p (.tup xs.reverse))
theorem pe_backT {e : Expr} {te : TE} {k : Nat} {p1 p2 p3 pos : Pos} (he : PE X e te) : PE X (.Subscript e (.Slice none none (some (.UnaryOp .USub (.Constant (.int 1) k p1) p2)) p3) pos) (tUn (rBackT X.K) te) := by
  refine ⟨fun pins s σ H Q I h => Subscript_ (thn (he.run pins s σ H _ I h) fun v s1 ⟨x, H1, I1, r1, q1⟩ => ?_)⟩
  obtain ⟨a, xs, rfl, hx, q⟩ := q1
  cases r1
  have hst : PO X (some (.UnaryOp .USub (.Constant (.int 1) k p1) p2)) (tPart (tUn (rU fun i => .int (-i)) (tC (.int 1)))) := po_some (pe_un un_neg pe_int)
  refine wpAny_Slice (thn (po_none.run pins s1 σ H1 (fun o H2 => o = none ∧ H2 = H1) I1 ⟨rfl, rfl⟩) fun vl s2 ⟨l, H2, I2, pl, el, e2⟩ => ?_)
  subst el e2
  refine thn (po_none.run pins s2 σ H2 (fun o H3 => o = none ∧ H3 = H2) I2 ⟨rfl, rfl⟩) fun vu s3 ⟨u, H3, I3, pu, eu, e3⟩ => ?_
  subst eu e3
  refine thn (hst.run pins s3 σ H3 (fun o H4 => o = some (-1) ∧ H4 = H3) I3 ⟨1, rfl, -1, rfl, rfl, rfl⟩) fun vs s4 ⟨o, H4, I4, ps, eo, e4⟩ => ?_
  subst eo e4
  have I5 : Inv X pins σ H4 { s4 with heap := s4.heap.push { cls := .type "slice", data := .fields #[vl, vu, vs] } } := I4.kept (t' := s4.toks) fun b ob q => Heap.get?_push_of_some _ q
  obtain ⟨its, r, ht, hz⟩ := I5.tuple hx
  cases pl
  cases pu
  show wpAny (model X.prog X.w) X.A (subscriptTail e (.Slice none none (some (.UnaryOp .USub (.Constant (.int 1) k p1) p2)) p3) (.ref a) (.ref s4.heap.objs.size)) (EP X pins σ Q) X.xe { s4 with heap := s4.heap.push { cls := .type "slice", data := .fields #[.none, .none, vs] } }
  refine tail_any (ops := [.ref a, .ref s4.heap.objs.size]) ht.typeIs (PyProof.Rows.slot_tuple_getitem.lookup) ?_ (by with_unfolding_all rfl)
  refine getItem_back ht (Heap.IsSliceOf.new _ .none .none vs) ps ?_ (by have := r.length; rw [List.size_toArray]; omega)
  refine ⟨.ref _, _, I5.laid (t' := s4.toks) (o := .tup xs.reverse) (fun b ob q => Heap.get?_push_of_some _ q) (Nat.le_refl _) ?_, rfl, q _ (I5.hok.fresh (Nat.le_refl _))⟩
  exact ⟨by rw [List.length_reverse]; have := r.length; omega, _, r.reverse, IsTup.new _ _⟩
/-! ### text * int -/
theorem rep_cps (c : Array Nat) : ∀ (k : Nat) (acc : Array Nat), (∀ x ∈ ((List.replicate k c).foldl (· ++ ·) acc).toList, x ∈ acc.toList ∨ x ∈ c.toList)
  | 0, acc => fun x hx => .inl hx
  | k + 1, acc => fun x hx => by
    rw [List.replicate_succ, List.foldl_cons] at hx
    rcases rep_cps c k _ x hx with h | h
    · rw [Array.toList_append] at h
      exact List.mem_append.mp h
    · exact .inr h
def rMulS : R2 := fun x y H Q => ∃ (z : Str) (n : Int), x = .str z ∧ y = .int n ∧ z.length ≤ 100 ∧ 0 ≤ n ∧ n ≤ 1000 ∧ ∀ y : Str, y.length = z.length * n.toNat → (∀ c ∈ y.cps.toList, c ∈ z.cps.toList) → Q (.str y) H
theorem oMulS : OpR X (binaryOp .Mult) rMulS := by
  intro pins s σ H x y v u Q I rx ry h
  obtain ⟨z, n, rfl, rfl, hz, h0, h1, q⟩ := h
  obtain ⟨t, rfl⟩ := rx
  obtain ⟨t', rfl⟩ := ry
  have hm : z.length * n.toNat ≤ 100 * 1000 := Nat.mul_le_mul hz (by omega)
  refine P.mul_str (by rw [decide_eq_false (by omega), decide_eq_false (by omega)]; rfl) (fun a b => ?_) (fun a b => ?_) ?_
  · have hn : (2 ^ 63 - 1) / n ≥ (2 ^ 63 - 1) / 1000 := by
      refine Int.le_ediv_of_mul_le (by omega) ?_
      have : (2 ^ 63 - 1) / 1000 * n ≤ (2 ^ 63 - 1) / 1000 * 1000 := Int.mul_le_mul_of_nonneg_left h1 (by decide)
      exact Int.le_trans this (by decide)
    have hb : (2 ^ 63 - 1) / 1000 ≥ (100 : Int) := by decide
    omega
  · unfold Builtin.Str.tooLong
    refine decide_eq_false ?_
    have : 100 * 1000 ≤ sizeLine := by decide
    omega
  · by_cases c1 : n < 1
    · rw [if_pos c1]
      refine ⟨Nat.zero_le _, .str Str.empty, H, I.tok _, ⟨_, rfl⟩, q _ ?_ ?_⟩
      · have : n.toNat = 0 := by omega
        rw [this]; rfl
      · intro c hc; cases hc
    · rw [if_neg c1]
      by_cases c2 : (n == 1 || z.length == 0) = true
      · rw [if_pos c2]
        refine ⟨.str z, H, I, ⟨_, rfl⟩, q _ ?_ (fun c hc => hc)⟩
        rw [Bool.or_eq_true, beq_iff_eq, beq_iff_eq] at c2
        rcases c2 with c2 | c2
        · rw [c2]; simp
        · rw [c2]; simp
      · rw [if_neg c2]
        refine ⟨?_, .str _, H, I.tok _, ⟨_, rfl⟩, q _ ?_ ?_⟩
        · show ((List.replicate n.toNat z.cps).foldl (· ++ ·) #[]).size ≤ sizeLine
          rw [size_reps, Nat.mul_comm]
          show 0 + z.length * n.toNat ≤ sizeLine
          have : 100 * 1000 ≤ sizeLine := by decide
          omega
        · show ((List.replicate n.toNat z.cps).foldl (· ++ ·) #[]).size = _
          rw [size_reps]
          show 0 + n.toNat * z.length = _
          rw [Nat.zero_add, Nat.mul_comm]
        · intro c hc
          exact (rep_cps z.cps n.toNat #[] c hc).resolve_left (by simp)
end
section
variable {σ : L2.St} {H : Hp} {Q : VK} {K : PySem.W.Frag}
theorem r_mulS {z : Str} {n : Int} (hz : z.length ≤ 100) (h0 : 0 ≤ n ∧ n ≤ 1000) (q : ∀ y : Str, y.length = z.length * n.toNat → (∀ c ∈ y.cps.toList, c ∈ z.cps.toList) → Q (.str y) H) : rMulS (.str z) (.int n) H Q := ⟨z, n, rfl, rfl, hz, h0.1, h0.2, q⟩
theorem r_backT {a : Addr} {xs : List V} (h : SqT K H a xs) (q : ∀ p H2, H p = none → Same H H2 → H2 p = some (.tup xs.reverse) → Q (.ref p) H2) : rBackT K (.ref a) H Q := ⟨a, xs, rfl, h, fun p hp => q p _ hp (ex_new hp) upd_same⟩
/-! ### data as a whole -/
theorem isiT_of {a : Addr} {xs : List V} (h : SqT K H a xs) : TyX K H (.ref a) (.type "tuple") := by
  rcases h with (h | ⟨o, h⟩) | h
  · exact .base (.tup h)
  · exact .fTuple h
  · obtain ⟨o, _, _, hk, hc, _⟩ := h
    exact .kTuple hk hc
theorem r_isiT {a : Addr} {xs : List V} {r : Bool} {T : String} (hx : SqT K H a xs) (h : kitB "tuple" T = some r) (q : Q (.bl r) H) : rIsi K [.ref a, .ty T] H Q := ⟨_, _, _, _, r, rfl, .ty T, isiT_of hx, kit_ty h, q⟩
mutual
/-- whole numbers, texts, tuples of such -/
def pureD : PyData → Bool
  | .int _ => true
  | .str x => PyData.strOk x
  | .tuple xs => decide (xs.length ≤ 10000) && pureAll xs
  | .none => false
  | .bool _ => false
  | .list _ => false
  | .dict _ => false
def pureAll : List PyData → Bool
  | [] => true
  | x :: xs => pureD x && pureAll xs
end
theorem pureAll_iff : ∀ xs : List PyData, pureAll xs = true ↔ ∀ x ∈ xs, pureD x = true
  | [] => by simp [pureAll]
  | x :: xs => by simp [pureAll, pureAll_iff xs]
mutual
theorem canLay_pure : ∀ d : PyData, pureD d = true → d.canLay0 = true
  | .int _, _ => by simp [PyData.canLay0]
  | .str x, h => by simpa [PyData.canLay0, pureD] using h
  | .tuple xs, h => by
    simp only [PyData.canLay0]
    exact canLay_pureAll xs (by simp [pureD] at h; exact h.2)
  | .none, h => by simp [pureD] at h
  | .bool _, h => by simp [pureD] at h
  | .list _, h => by simp [pureD] at h
  | .dict _, h => by simp [pureD] at h
theorem canLay_pureAll : ∀ xs : List PyData, pureAll xs = true → PyData.canLayAll0 xs = true
  | [], _ => by simp [PyData.canLayAll0]
  | x :: xs, h => by
    have h' : pureD x = true ∧ pureAll xs = true := by simpa [pureAll] using h
    simp [PyData.canLayAll0, canLay_pure x h'.1, canLay_pureAll xs h'.2]
end
theorem shaped_pure {d : PyData} (h : pureD d = true) (hd : d.depth ≤ 64) : SeqAt.shaped d = true := by
  unfold SeqAt.shaped
  rw [canLay_pure d h, decide_eq_true hd]
  rfl
theorem depth_mem : ∀ {xs : List PyData} {x : PyData}, x ∈ xs → x.depth ≤ PyData.depthAll xs
  | y :: xs, x, h => by
    simp only [PyData.depthAll]
    rcases List.mem_cons.mp h with rfl | h
    · omega
    · have := depth_mem h; omega
theorem dpAll_len {xs : List V} : ∀ {ds : List PyData}, DpAll K H xs ds → xs.length = ds.length := by
  induction xs with
  | nil => intro ds h; cases h; rfl
  | cons x xs ih =>
    intro ds h
    cases h with
    | cons _ t => simp [ih t]
theorem dpAll_get {xs : List V} : ∀ {ds : List PyData} {i : Nat} {d : PyData}, DpAll K H xs ds → ds[i]? = some d → ∃ v, xs[i]? = some v ∧ Dp K H v d := by
  induction xs with
  | nil => intro ds i d h e; cases h; simp at e
  | cons x xs ih =>
    intro ds i d h e
    cases h with
    | cons a t =>
      cases i with
      | zero => simp at e; subst e; exact ⟨x, rfl, a⟩
      | succ i => simpa using ih t (by simpa using e)
theorem eqvAll_no : ∀ {ds es : List PyData} {i : Nat} {d e : PyData}, ds[i]? = some d → es[i]? = some e → PyData.eqv d e = false → PyData.eqvAll ds es = false
  | x :: ds, y :: es, 0, d, e, h1, h2, h3 => by
    simp at h1 h2
    subst h1 h2
    simp [PyData.eqvAll, h3]
  | x :: ds, y :: es, i + 1, d, e, h1, h2, h3 => by
    simp only [PyData.eqvAll, eqvAll_no (i := i) (by simpa using h1) (by simpa using h2) h3, Bool.and_false]
theorem eqvAll_yes : ∀ {ds es : List PyData}, ds.length = es.length → (∀ (i : Nat) (d e : PyData), ds[i]? = some d → es[i]? = some e → PyData.eqv d e = true) → PyData.eqvAll ds es = true
  | [], [], _, _ => by simp [PyData.eqvAll]
  | x :: ds, y :: es, hl, h => by
    simp only [PyData.eqvAll, h 0 x y rfl rfl, Bool.true_and]
    exact eqvAll_yes (by simpa using hl) fun i d e h1 h2 => h (i + 1) d e (by simpa using h1) (by simpa using h2)
  | [], _ :: _, hl, _ => by simp at hl
  | _ :: _, [], hl, _ => by simp at hl
def spSame (K : PySem.W.Frag) : Nat → Sp
  | 0 => fun _ _ _ _ => False
  | n + 1 => fun vs H Q _ => ∃ v u d e, vs = [v, u] ∧ Dp K H v d ∧ Dp K H u e ∧ pureD d = true ∧ pureD e = true ∧ e.depth ≤ n ∧ Q (.bl (PyData.eqv d e)) H
theorem fn_false {P : Program} {w : World} {mg : Str → Option Value} {base : Heap} {x : Str} {ps : List Str} {st : Stmt} {k : Nat} (d : Def1 K mg x ps st) : Fn P w K mg base k x ps (fun _ _ _ _ => False) := by
  obtain ⟨f, fd, hm, F, b⟩ := d
  obtain ⟨oc, od, kV, doc, pm, an, cdv, ct, osl, _, lk, _⟩ := F.ex
  exact ⟨f, fd, hm, F.kp, b, ⟨fun _ _ _ _ h => h.elim, fun _ _ _ _ _ _ _ _ _ _ _ _ _ h => h.elim⟩, oc, od, osl, lk⟩
end
/-! ### comprehensions -/
section
variable {σ : L2.St} {H : Hp} {Q : VK} {K : PySem.W.Frag} {g : TG} {tt : TT} {te : TE} {vs : List Nat}
def Yield (D : Addr) (Nx : Hp → Prop) (y : V) (H : Hp) : Prop := ∃ acc, H D = some (.lst acc) ∧ acc.length < sizeLine ∧ Nx (upd H D (.lst (acc ++ [y])))
theorem r_yield {D : Addr} {Nx : Hp → Prop} {y : V} {acc : List V} (h : H D = some (.lst acc)) (hz : acc.length < 100000) (k : ∀ H2, But D H H2 → H2 D = some (.lst (acc ++ [y])) → Nx H2) : Yield D Nx y H :=
  ⟨acc, h, Nat.lt_of_lt_of_le hz (by decide), k _ But.upd upd_same⟩
def LcR (J : It) (g : TG) (tt : TT) (te : TE) (vs : List Nat) (Q : VK) (σ : L2.St) (H1 : Hp) : Prop := ∀ D, H1 D = none → ∃ W : Nat → Nat → Hp → Prop, (∃ m, W 0 m (upd H1 D (.lst []))) ∧ ∀ i m H, W i m H →
  (J.stop i H ∧ Q (.ref D) H) ∨ (J.go i H ∧ ∃ Nx : Hp → Prop, (∀ H', Nx H' → ∃ m', m' < m ∧ W (i + 1) m' H') ∧ ∀ x H', J.yld i H x H' → g x (wipe σ vs) H' fun σ2 H2 => wipe σ2 vs = wipe σ vs ∧ tt σ2 H2 fun b H3 =>
    if b = true then te σ2 H3 fun y H4 => Yield D Nx y H4 else Nx H3)
theorem r_lc {wi : TI} (h : wi σ H fun J H1 => LcR J g tt te vs Q σ H1) : tLc wi g tt te vs σ H Q := h
theorem lcT {a : Addr} {xs : List V} (Pv : Addr → Nat → Hp → Prop) (h0 : ∀ D H2, H D = none → Same H H2 → H2 D = some (.lst []) → Pv D 0 H2) (hl : ∀ D i H', i ≤ xs.length → Pv D i H' → SqT K H' a xs)
    (hs : ∀ D i x H', xs[i]? = some x → Pv D i H' → g x (wipe σ vs) H' fun σ2 H2 => wipe σ2 vs = wipe σ vs ∧ tt σ2 H2 fun b H3 => if b = true then te σ2 H3 fun y H4 => Yield D (Pv D (i + 1)) y H4 else Pv D (i + 1) H3)
    (hd : ∀ D H', Pv D xs.length H' → Q (.ref D) H') : LcR (Itt K a) g tt te vs Q σ H := fun D hD =>
  lc_tup (xs := xs) (Pv D) (h0 D _ hD (ex_new hD) upd_same) (hl D) (hs D) (hd D)
theorem lcL {a : Addr} {xs : List V} (Pv : Addr → Nat → Hp → Prop) (h0 : ∀ D H2, H D = none → Same H H2 → H2 D = some (.lst []) → Pv D 0 H2) (hl : ∀ D i H', i ≤ xs.length → Pv D i H' → SqL K H' a xs)
    (hs : ∀ D i x H', xs[i]? = some x → Pv D i H' → g x (wipe σ vs) H' fun σ2 H2 => wipe σ2 vs = wipe σ vs ∧ tt σ2 H2 fun b H3 => if b = true then te σ2 H3 fun y H4 => Yield D (Pv D (i + 1)) y H4 else Pv D (i + 1) H3)
    (hd : ∀ D H', Pv D xs.length H' → Q (.ref D) H') : LcR (Itl K a) g tt te vs Q σ H := fun D hD =>
  lc_list (xs := xs) (Pv D) (h0 D _ hD (ex_new hD) upd_same) (hl D) (hs D) (hd D)
theorem lcRg {lo : Int} {n : Nat} (Pv : Addr → Nat → Hp → Prop) (h0 : ∀ D H2, H D = none → Same H H2 → H2 D = some (.lst []) → Pv D 0 H2)
    (hs : ∀ D i H', i < n → Pv D i H' → g (.int (lo + i)) (wipe σ vs) H' fun σ2 H2 => wipe σ2 vs = wipe σ vs ∧ tt σ2 H2 fun b H3 => if b = true then te σ2 H3 fun y H4 => Yield D (Pv D (i + 1)) y H4 else Pv D (i + 1) H3)
    (hd : ∀ D H', Pv D n H' → Q (.ref D) H') : LcR (Itr lo n) g tt te vs Q σ H := fun D hD =>
  lc_range (Pv D) (h0 D _ hD (ex_new hD) upd_same) (hs D) (hd D)
theorem r_yes {QT : Bool → Hp → Prop} (q : QT true H) : tYes σ H QT := q
end
/-! ### texts -/
section
variable {X : Cx} {to te : TE}
def tEndsW (to te : TE) : TE := tM1 (fun x xs H Q => ∃ a b, x = .str a ∧ xs = [.str b] ∧ Q (.bl (Txt.endswith a b)) H) to te
theorem pe_endsW {o e : Expr} {apos pos : Pos} (ho : PE X o to) (he : PE X e te) (hs : starEach [e] X.env = [(false, eval e X.env)] := by rfl) (hbase : attributeBase o "endswith" X.env (eval o X.env) = eval o X.env := by rfl) (hline : (apos.endLine == pos.line) = true := by rfl) :
    PE X (.Call (.Attribute o "endswith" apos) [e] [] pos) (tEndsW to te) := pe_m1 PySem.F.slot_str_endswith PySem.F.type_str_endswith mt_endswith ho he hs hbase hline
theorem r_endsW {σ : L2.St} {H : Hp} {Q : VK} (h : to σ H fun x H1 => (∃ a, x = .str a) ∧ te σ H1 fun y H2 => ∃ a b, x = .str a ∧ [y] = [V.str b] ∧ Q (.bl (Txt.endswith a b)) H2) : tEndsW to te σ H Q := h
def tSplit (to te : TE) : TE := tM1 (fun x xs H Q => ∃ a b, x = .str a ∧ xs = [.str b] ∧ (b.length == 0) = false ∧ a.length + 2 ≤ sizeLine ∧ rNewStrs (Txt.split a b) H Q) to te
theorem pe_spl {o e : Expr} {apos pos : Pos} (ho : PE X o to) (he : PE X e te) (hs : starEach [e] X.env = [(false, eval e X.env)] := by rfl) (hbase : attributeBase o "split" X.env (eval o X.env) = eval o X.env := by rfl) (hline : (apos.endLine == pos.line) = true := by rfl) :
    PE X (.Call (.Attribute o "split" apos) [e] [] pos) (tSplit to te) := pe_split ho he hs hbase hline
theorem r_split {σ : L2.St} {H : Hp} {Q : VK} (h : to σ H fun x H1 => (∃ a, x = .str a) ∧ te σ H1 fun y H2 => ∃ a b, x = .str a ∧ [y] = [V.str b] ∧ (b.length == 0) = false ∧ a.length + 2 ≤ sizeLine ∧ rNewStrs (Txt.split a b) H2 Q) : tSplit to te σ H Q := h
theorem r_newStrs {ys : List Str} {H : Hp} {Q : VK} (q : ∀ p H2, H p = none → Same H H2 → H2 p = some (.lst (ys.map V.str)) → Q (.ref p) H2) : rNewStrs ys H Q := fun p hp => q p _ hp (ex_new hp) upd_same
def tJoin (K : PySem.W.Frag) (to te : TE) : TE := tM1 (fun x xs H Q => ∃ a p, ∃ ys : List Str, x = .str a ∧ xs = [.ref p] ∧ (SqL K H p (ys.map V.str) ∨ SqT K H p (ys.map V.str)) ∧ (ys.map (·.length)).sum + ys.length * a.length ≤ 16777216 ∧ Q (.str (Txt.join a ys)) H) to te
theorem pe_joi {o e : Expr} {apos pos : Pos} (ho : PE X o to) (he : PE X e te) (hs : starEach [e] X.env = [(false, eval e X.env)] := by rfl) (hbase : attributeBase o "join" X.env (eval o X.env) = eval o X.env := by rfl) (hline : (apos.endLine == pos.line) = true := by rfl) :
    PE X (.Call (.Attribute o "join" apos) [e] [] pos) (tJoin X.K to te) := pe_join ho he hs hbase hline
theorem r_join {K : PySem.W.Frag} {σ : L2.St} {H : Hp} {Q : VK} (h : to σ H fun x H1 => (∃ a, x = .str a) ∧ te σ H1 fun y H2 => ∃ a p, ∃ ys : List Str, x = .str a ∧ [y] = [V.ref p] ∧ (SqL K H2 p (ys.map V.str) ∨ SqT K H2 p (ys.map V.str)) ∧ (ys.map (·.length)).sum + ys.length * a.length ≤ 16777216 ∧ Q (.str (Txt.join a ys)) H2) : tJoin K to te σ H Q := h
def tAscii (K : PySem.W.Frag) (to : TE) : TE := tBM0 K "str" (fun x xs H Q => ∃ a, x = .str a ∧ xs = [] ∧ True ∧ Q (.bl (Txt.isascii a)) H) to
theorem pe_ascii {o : Expr} {apos pos : Pos} (ho : PE X o to) (hbase : attributeBase o "isascii" X.env (eval o X.env) = eval o X.env := by rfl) (hline : (apos.endLine == pos.line) = true := by rfl) :
    PE X (.Call (.Attribute o "isascii" apos) [] [] pos) (tAscii X.K to) := pe_bm0 PySem.F.plainAttrs_str PySem.F.slot_str_isascii PySem.F.type_str_isascii mt_isascii ho hbase hline
def AscR (K : PySem.W.Frag) (x : V) (H : Hp) (Q : VK) : Prop := tyV K "str" x H ∧ ∃ a, x = .str a ∧ ([] : List V) = [] ∧ True ∧ Q (.bl (Txt.isascii a)) H
theorem r_asc {K : PySem.W.Frag} {σ : L2.St} {H : Hp} {Q : VK} (h : to σ H fun x H1 => AscR K x H1 Q) : tAscii K to σ H Q := h
theorem r_asc1 {K : PySem.W.Frag} {H : Hp} {Q : VK} {z : Str} (q : Q (.bl (Txt.isascii z)) H) : AscR K (.str z) H Q := ⟨rfl, z, rfl, rfl, trivial, q⟩
def RevR (K : PySem.W.Frag) (x : V) (H : Hp) (Q : VK) : Prop := ∃ a xs, x = .ref a ∧ SqL K H a xs ∧ ∀ p, H p = none → Q (.ref p) (upd H p (.lst xs.reverse))
theorem r_revL {K : PySem.W.Frag} {σ : L2.St} {H : Hp} {Q : VK} (h : te σ H fun x H1 => RevR K x H1 Q) : tRevL K te σ H Q := h
theorem r_revL1 {K : PySem.W.Frag} {H : Hp} {Q : VK} {a : Addr} {xs : List V} (hx : SqL K H a xs) (q : ∀ p H2, H p = none → Same H H2 → H2 p = some (.lst xs.reverse) → Q (.ref p) H2) : RevR K (.ref a) H Q := ⟨a, xs, rfl, hx, fun p hp => q p _ hp (ex_new hp) upd_same⟩
end
theorem r_isiBt {K : PySem.W.Frag} {H : Hp} {Q : VK} {b : Bool} {T : String} (h : kitB "bool" T = some true) (q : Q (.bl true) H) : rIsi K [.bl b, .ty T] H Q := r_isiB h q
theorem r_isiBf {K : PySem.W.Frag} {H : Hp} {Q : VK} {b : Bool} {T : String} (h : kitB "bool" T = some false) (q : Q (.bl false) H) : rIsi K [.bl b, .ty T] H Q := r_isiB h q
theorem r_isiIt {K : PySem.W.Frag} {H : Hp} {Q : VK} {b : Int} {T : String} (h : kitB "int" T = some true) (q : Q (.bl true) H) : rIsi K [.int b, .ty T] H Q := r_isiI h q
theorem r_isiIf {K : PySem.W.Frag} {H : Hp} {Q : VK} {b : Int} {T : String} (h : kitB "int" T = some false) (q : Q (.bl false) H) : rIsi K [.int b, .ty T] H Q := r_isiI h q
theorem r_isiSt {K : PySem.W.Frag} {H : Hp} {Q : VK} {b : Str} {T : String} (h : kitB "str" T = some true) (q : Q (.bl true) H) : rIsi K [.str b, .ty T] H Q := r_isiS h q
theorem r_isiSf {K : PySem.W.Frag} {H : Hp} {Q : VK} {b : Str} {T : String} (h : kitB "str" T = some false) (q : Q (.bl false) H) : rIsi K [.str b, .ty T] H Q := r_isiS h q
theorem r_isiTt {K : PySem.W.Frag} {H : Hp} {Q : VK} {a : Addr} {xs : List V} {T : String} (hx : SqT K H a xs) (h : kitB "tuple" T = some true) (q : Q (.bl true) H) : rIsi K [.ref a, .ty T] H Q := r_isiT hx h q
theorem r_isiTf {K : PySem.W.Frag} {H : Hp} {Q : VK} {a : Addr} {xs : List V} {T : String} (hx : SqT K H a xs) (h : kitB "tuple" T = some false) (q : Q (.bl false) H) : rIsi K [.ref a, .ty T] H Q := r_isiT hx h q
theorem r_strAnd {z : Str} {A : Prop} (h : A) : (∃ a, V.str z = .str a) ∧ A := ⟨⟨z, rfl⟩, h⟩
theorem dp_tup {K : PySem.W.Frag} {H : Hp} {a : Addr} {zs : List Str} (h : SqT K H a (zs.map V.str)) : Dp K H (.ref a) (.tuple (zs.map PyData.str)) := dp_strs h
theorem pure_strs {zs : List Str} (hl : zs.length ≤ 10000) (h : ∀ z ∈ zs, Asc z) : pureD (.tuple (zs.map PyData.str)) = true := by
  simp only [pureD, List.length_map, decide_eq_true hl, Bool.true_and]
  refine (pureAll_iff _).mpr fun x hx => ?_
  obtain ⟨z, hz, rfl⟩ := List.mem_map.mp hx
  simp only [pureD]
  exact (h z hz).ok
theorem pure_str {z : Str} (h : Asc z) : pureD (.str z) = true := by
  simp only [pureD]
  exact h.ok
theorem eqv_strs (xs ys : List Str) : PyData.eqv (.tuple (xs.map PyData.str)) (.tuple (ys.map PyData.str)) = decide (xs = ys) := by
  simp only [PyData.eqv]
  exact eqvAll_strs xs ys
theorem depth_tup (zs : List Str) : (PyData.tuple (zs.map PyData.str)).depth = 1 := by simp [PyData.depth, depth_strs zs]
/-- _law_same of two names, of two texts -/
theorem r_same_strs {K : PySem.W.Frag} {H : Hp} {Q : VK} {a b : Addr} {xs ys : List Str} {n : Nat} (h1 : SqT K H a (xs.map V.str)) (h2 : SqT K H b (ys.map V.str)) (o1 : ∀ z ∈ xs, Asc z) (o2 : ∀ z ∈ ys, Asc z) (l1 : xs.length ≤ 10000) (l2 : ys.length ≤ 10000)
    (q : Q (.bl (decide (xs = ys))) H) : spSame K (n + 2) [.ref a, .ref b] H Q E0 :=
  ⟨_, _, _, _, rfl, dp_tup h1, dp_tup h2, pure_strs l1 o1, pure_strs l2 o2, by rw [depth_tup]; omega, by rw [eqv_strs]; exact q⟩
theorem r_same_str {K : PySem.W.Frag} {H : Hp} {Q : VK} {x y : Str} {n : Nat} (o1 : Asc x) (o2 : Asc y) (q : Q (.bl (decide (x = y))) H) : spSame K (n + 1) [.str x, .str y] H Q E0 :=
  ⟨_, _, _, _, rfl, .str x, .str y, pure_str o1, pure_str o2, by simp [PyData.depth], by
    have e : PyData.eqv (.str x) (.str y) = decide (x = y) := by
      simp only [PyData.eqv]
      by_cases h : x = y <;> simp [h]
    rw [e]; exact q⟩
theorem r_two {x y : Str} {P : Str → Str → Prop} (h : P x y) : ∃ a b, V.str x = .str a ∧ [V.str y] = [V.str b] ∧ P a b := ⟨x, y, rfl, rfl, h⟩
theorem same_but {H H1 H2 : Hp} {p : Addr} (e : Same H H1) (b : But p H1 H2) (n : H p = none) : Same H H2 := fun c o hc => b c o (ne_of_none hc n) (e c o hc)
theorem same_src {H H1 H2 : Hp} {b : Addr} (e : Same H H1) (n : H b = none) (d : But b H1 H2) : Same H H2 := fun c o hc => d c o (ne_of_none hc n) (e c o hc)
theorem get_last {α : Type} (xs : List α) (x : α) : (xs ++ [x])[xs.length]? = some x := by simp
end My

set_option Elab.async false
set_option linter.all false
set_option maxRecDepth 100000
set_option maxHeartbeats 4000000
namespace My
open PySem PySem.Spec PyProof.Rows L2
open C8 (tCut pss_cut)
theorem take_mem {α : Type} {xs : List α} {P : α → Prop} {i : Nat} {c : α} (hi : xs[i]? = some c) (h : ∀ x ∈ xs.take i, P x) (hc : P c) : ∀ x ∈ xs.take (i + 1), P x := by
  intro x hx
  rw [List.take_add_one, hi] at hx
  rcases List.mem_append.mp hx with hx | hx
  · exact h x hx
  · have : x = c := by simpa using hx
    rw [this]; exact hc
def CH : Str := "abcdefghijklmnopqrstuvwxyz0123456789-"
def plainB (z : Str) : Bool := decide (1 ≤ z.length ∧ z.length ≤ 20) && z.cps.toList.all (fun c => decide (c ∈ CH.cps.toList))
def wildB (xs : List Str) : Bool := decide (xs.drop (xs.length - 1) = [("*" : Str)])
def nameB (xs : List Str) : Bool := decide (xs.length ≤ 12) && (if wildB xs then xs.dropLast else xs).all plainB
theorem wild_iff (xs : List Str) : wildB xs = true ↔ 1 ≤ xs.length ∧ xs[xs.length - 1]? = some "*" := by
  unfold wildB
  rw [decide_eq_true_iff]
  by_cases h : 1 ≤ xs.length
  · have hl : xs.length - 1 < xs.length := by omega
    rw [List.drop_eq_getElem_cons hl, List.drop_of_length_le (by omega), List.getElem?_eq_getElem hl]
    constructor
    · intro e; exact ⟨h, congrArg some (List.cons.inj e).1⟩
    · intro e; rw [Option.some.inj e.2]
  · have : xs = [] := List.eq_nil_of_length_eq_zero (by omega)
    subst this
    constructor
    · intro e; cases e
    · intro e; exact absurd e.1 h
theorem name_no {xs : List Str} {i : Nat} {y : Str} (hy : xs[i]? = some y) (hp : plainB y = false) (hn : ¬ (i = xs.length - 1 ∧ y = "*")) : nameB xs = false := by
  unfold nameB
  rw [Bool.and_eq_false_iff]
  refine .inr (List.all_eq_false.mpr ⟨y, ?_, by rw [hp]; decide⟩)
  split
  · rename_i hw
    have hw := (wild_iff xs).mp hw
    have hi := (List.getElem?_eq_some_iff.mp hy).1
    have hne : i ≠ xs.length - 1 := by
      rintro rfl
      rw [hw.2] at hy
      exact hn ⟨rfl, (Option.some.inj hy).symm⟩
    refine List.mem_of_getElem? (i := i) ?_
    rw [List.getElem?_dropLast, if_pos (by omega)]
    exact hy
  · exact List.mem_of_getElem? hy
theorem name_yes {xs : List Str} (hl : xs.length ≤ 12) (h : ∀ (i : Nat) (y : Str), xs[i]? = some y → plainB y = true ∨ (i = xs.length - 1 ∧ y = "*")) : nameB xs = true := by
  unfold nameB
  rw [Bool.and_eq_true]
  refine ⟨decide_eq_true hl, List.all_eq_true.mpr fun y hy => ?_⟩
  split at hy
  · obtain ⟨i, hi⟩ := List.mem_iff_getElem?.mp hy
    rw [List.getElem?_dropLast] at hi
    split at hi
    · rename_i hlt
      exact (h i y hi).resolve_right (by omega)
    · cases hi
  · rename_i hw
    obtain ⟨i, hi⟩ := List.mem_iff_getElem?.mp hy
    rcases h i y hi with h | ⟨rfl, rfl⟩
    · exact h
    · exact absurd ((wild_iff xs).mpr ⟨by have := (List.getElem?_eq_some_iff.mp hi).1; omega, hi⟩) hw

theorem plain_iff {z : Str} : plainB z = true ↔ (1 ≤ z.length ∧ z.length ≤ 20) ∧ ∀ c ∈ z.cps.toList, c ∈ CH.cps.toList := by
  unfold plainB
  rw [Bool.and_eq_true, decide_eq_true_iff, List.all_eq_true]
  simp
theorem CH_fact : ∀ c ∈ CH.cps.toList, c < 128 ∧ c ≠ 46 ∧ c ≠ 42 ∧ lo1 c = c := by decide +kernel
theorem plain_asc {z : Str} (h : plainB z = true) : Asc z := fun c hc => (CH_fact c ((plain_iff.mp h).2 c hc)).1
theorem name_len {zs : List Str} (h : nameB zs = true) : zs.length ≤ 12 := by
  unfold nameB at h
  rw [Bool.and_eq_true, decide_eq_true_iff] at h
  exact h.1
theorem name_mem {zs : List Str} (h : nameB zs = true) {z : Str} (hz : z ∈ zs) : plainB z = true ∨ z = "*" := by
  cases hp : plainB z with
  | true => exact .inl rfl
  | false =>
    obtain ⟨i, hi⟩ := List.mem_iff_getElem?.mp hz
    by_cases e : i = zs.length - 1 ∧ z = "*"
    · exact .inr e.2
    · rw [name_no hi hp e] at h
      cases h
theorem lab_fact {z : Str} (h : plainB z = true ∨ z = "*") : (1 ≤ z.length ∧ z.length ≤ 20) ∧ ∀ c ∈ z.cps.toList, c < 128 ∧ c ≠ 46 ∧ lo1 c = c := by
  rcases h with h | rfl
  · exact ⟨(plain_iff.mp h).1, fun c hc => by have := CH_fact c ((plain_iff.mp h).2 c hc); exact ⟨this.1, this.2.1, this.2.2.2⟩⟩
  · decide +kernel
theorem name_asc {zs : List Str} (h : nameB zs = true) {z : Str} (hz : z ∈ zs) : z.length ≤ 20 ∧ Asc z :=
  ⟨(lab_fact (name_mem h hz)).1.2, fun c hc => ((lab_fact (name_mem h hz)).2 c hc).1⟩
/-! ### the written form -/
def dotted (zs : List Str) : List Nat := (zs.reverse.map fun z => z.cps.toList ++ [46]).flatten
def written (zs : List Str) : Str := if zs = [] then "." else ⟨(dotted zs).toArray⟩
theorem dotted_snoc (zs : List Str) (z : Str) : dotted (zs ++ [z]) = z.cps.toList ++ [46] ++ dotted zs := by
  unfold dotted
  rw [List.reverse_append, List.reverse_singleton, List.singleton_append, List.map_cons, List.flatten_cons]
theorem join_dots : ∀ ps : List (List Nat), ps ≠ [] → (ps.map fun p => p ++ [46]).flatten = TL.joinL [46] ps ++ [46]
  | [], h => absurd rfl h
  | [p], _ => by simp [TL.joinL]
  | p :: q :: r, _ => by
    have ih := join_dots (q :: r) (by simp)
    rw [List.map_cons, List.flatten_cons, ih]
    show p ++ [46] ++ (TL.joinL [46] (q :: r) ++ [46]) = p ++ ([46] ++ TL.joinL [46] (q :: r)) ++ [46]
    simp
theorem dotted_join {zs : List Str} (h : zs ≠ []) : dotted zs = TL.joinL [46] (zs.reverse.map TL.tl) ++ [46] := by
  unfold dotted
  rw [← join_dots _ (by simpa using h), List.map_map]
  rfl
def lowS (t : Str) : Str := ⟨t.cps.map lo1⟩
theorem low_eq {t : Str} (h : Asc t) : Txt.lower t = lowS t := lower_ascii h
theorem split_dots {zs : List Str} (h : zs ≠ []) (hd : ∀ z ∈ zs, 46 ∉ z.cps.toList) {x : Str} (hx : x.cps.toList = TL.joinL [46] (zs.reverse.map TL.tl)) : Txt.split x "." = zs.reverse := by
  have e : x = Txt.join "." zs.reverse := by
    rw [TL.join_eq]
    exact TL.ext_tl (by rw [TL.tl_join]; exact hx)
  rw [e]
  exact TL.split_join (s := 46) (S := []) (by decide +kernel) (by decide +kernel) (by simpa using h) fun p hp => hd p (by simpa using hp)
theorem joinL_nil : ∀ ps : List (List Nat), TL.joinL [] ps = ps.flatten
  | [] => rfl
  | [p] => by simp [TL.joinL]
  | p :: q :: r => by
    have ih := joinL_nil (q :: r)
    show p ++ ([] ++ TL.joinL [] (q :: r)) = _
    rw [ih]
    simp
theorem dotted_mem {zs : List Str} {c : Nat} (h : c ∈ dotted zs) : c = 46 ∨ ∃ z ∈ zs, c ∈ z.cps.toList := by
  unfold dotted at h
  obtain ⟨l, hl, hc⟩ := List.mem_flatten.mp h
  obtain ⟨z, hz, rfl⟩ := List.mem_map.mp hl
  rcases List.mem_append.mp hc with hc | hc
  · exact .inr ⟨z, by simpa using hz, hc⟩
  · exact .inl (by simpa using hc)
theorem dotted_len (n : Nat) : ∀ zs : List Str, (∀ z ∈ zs, z.length ≤ n) → (dotted zs).length ≤ zs.length * (n + 1) := by
  intro zs h
  unfold dotted
  have key : ∀ l : List Str, (∀ z ∈ l, z.length ≤ n) → ((l.map fun z => z.cps.toList ++ [46]).flatten).length ≤ l.length * (n + 1) := by
    intro l
    induction l with
    | nil => simp
    | cons z l ih =>
      intro h
      have h1 := h z List.mem_cons_self
      have h2 := ih fun y hy => h y (List.mem_cons_of_mem _ hy)
      have e := len_list z
      have e2 : (l.length + 1) * (n + 1) = l.length * (n + 1) + (n + 1) := Nat.succ_mul _ _
      rw [List.map_cons, List.flatten_cons, List.length_append, List.length_append]
      simp only [List.length_cons, List.length_nil]
      rw [e2]
      omega
  have := key zs.reverse (by simpa using h)
  simpa using this
theorem written_cps {zs : List Str} (h : zs ≠ []) : (written zs).cps.toList = dotted zs := by
  unfold written
  rw [if_neg h]
theorem written_mem {zs : List Str} (hn : nameB zs = true) {c : Nat} (h : c ∈ (written zs).cps.toList) : c < 128 ∧ lo1 c = c := by
  by_cases e : zs = []
  · subst e
    have key : ∀ c ∈ (written []).cps.toList, c < 128 ∧ lo1 c = c := by decide +kernel
    exact key c h
  · rw [written_cps e] at h
    rcases dotted_mem h with rfl | ⟨z, hz, hc⟩
    · decide
    · have := (lab_fact (name_mem hn hz)).2 c hc
      exact ⟨this.1, this.2.2⟩
theorem written_asc {zs : List Str} (hn : nameB zs = true) : Asc (written zs) := fun c h => (written_mem hn h).1
theorem low_written {zs : List Str} (hn : nameB zs = true) : lowS (written zs) = written zs := by
  refine TL.ext_tl ?_
  show ((written zs).cps.map lo1).toList = (written zs).cps.toList
  rw [Array.toList_map]
  conv => rhs; rw [← List.map_id (written zs).cps.toList]
  exact List.map_congr_left fun c hc => (written_mem hn hc).2
theorem written_len {zs : List Str} (hn : nameB zs = true) : (written zs).length ≤ 300 := by
  by_cases e : zs = []
  · subst e; decide +kernel
  · rw [← len_list, written_cps e]
    have h1 := dotted_len 20 zs fun z hz => (name_asc hn hz).1
    have h2 := name_len hn
    omega
theorem dotted_pos {zs : List Str} (hn : nameB zs = true) (e : zs ≠ []) : 2 ≤ (dotted zs).length := by
  obtain ⟨z, r, rfl⟩ := List.exists_cons_of_ne_nil e
  rcases List.eq_nil_or_concat (z :: r) with h | ⟨l, y, h⟩
  · cases h
  · rw [h, List.concat_eq_append, dotted_snoc]
    have hy := (lab_fact (name_mem hn (z := y) (by rw [h]; simp))).1.1
    have := len_list y
    rw [List.length_append, List.length_append]
    simp only [List.length_singleton]
    omega
theorem low_len {t : Str} : (lowS t).length = t.length := by simp [lowS, Str.length]
theorem low_cps (t : Str) : (lowS t).cps.toList = t.cps.toList.map lo1 := by
  show (t.cps.map lo1).toList = _
  rw [Array.toList_map]
theorem lo1_dot {c : Nat} (h : lo1 c = 46) : c = 46 := by
  unfold lo1 at h
  split at h <;> omega
/-- a text whose small form is the written form of a name is that name's, in capitals here and there -/
theorem low_root {t : Str} {zs : List Str} (hn : nameB zs = true) (h : lowS t = written zs) : t = "." ↔ zs = [] := by
  constructor
  · rintro rfl
    by_cases e : zs = []
    · exact e
    · have h2 := dotted_pos hn e
      rw [← written_cps e, ← h] at h2
      exact absurd h2 (by decide +kernel)
  · rintro rfl
    have h1 : t.cps.toList.map lo1 = [46] := by
      rw [← low_cps, h]; decide +kernel
    have h2 : t.cps.toList = [46] := by
      cases hc : t.cps.toList with
      | nil => rw [hc] at h1; cases h1
      | cons c r =>
        rw [hc] at h1
        cases r with
        | nil =>
          have : lo1 c = 46 := by simpa using h1
          rw [lo1_dot this]
        | cons d r => simp at h1
    exact TL.ext_tl (by show t.cps.toList = _; rw [h2]; decide +kernel)
theorem low_last {t : Str} {zs : List Str} (h : lowS t = written zs) (e : zs ≠ []) : ∃ l, t.cps.toList = l ++ [46] ∧ l.map lo1 = TL.joinL [46] (zs.reverse.map TL.tl) := by
  have h1 : t.cps.toList.map lo1 = TL.joinL [46] (zs.reverse.map TL.tl) ++ [46] := by
    rw [← low_cps, h, written_cps e, dotted_join e]
  rcases List.eq_nil_or_concat t.cps.toList with h2 | ⟨l, c, h2⟩
  · rw [h2] at h1; simp at h1
  · rw [List.concat_eq_append] at h2
    rw [h2, List.map_append] at h1
    have h3 := List.append_inj' h1 rfl
    have h4 : lo1 c = 46 := by simpa using h3.2
    rw [lo1_dot h4] at h2
    exact ⟨l, h2, h3.1⟩
theorem written_nil : written [] = "." := by decide +kernel
theorem isascii_of {t : Str} (h : Asc t) : Txt.isascii t = true := by
  unfold Txt.isascii
  rw [← Array.all_toList, List.all_eq_true]
  exact fun c hc => decide_eq_true (h c hc)
theorem ends_dot {t : Str} : Txt.endswith t "." = true ↔ ∃ l, t.cps.toList = l ++ [46] := by
  have e : ("." : Str) = ⟨#[46]⟩ := by decide +kernel
  have el := len_list t
  have h := StrLaws.subAt_one t 46 (t.length - 1)
  unfold Txt.endswith
  rw [e, Bool.and_eq_true, decide_eq_true_iff]
  show 0 + 1 ≤ t.length ∧ Builtin.Str.subAt t ⟨#[46]⟩ (t.length - 1) = true ↔ _
  constructor
  · rintro ⟨h1, h2⟩
    have h3 := h.mp ⟨by show t.length - 1 + 1 ≤ t.length; omega, h2⟩
    refine ⟨t.cps.toList.dropLast, ?_⟩
    rcases List.eq_nil_or_concat t.cps.toList with h4 | ⟨l, c, h4⟩
    · rw [h4] at h3; simp at h3
    · rw [List.concat_eq_append] at h4
      rw [h4] at h3 el ⊢
      rw [List.length_append, List.length_singleton] at el
      rw [← el, Nat.add_sub_cancel, List.getElem?_append_right (Nat.le_refl _), Nat.sub_self] at h3
      have : c = 46 := by simpa using h3
      rw [this, List.dropLast_concat]
  · rintro ⟨l, hl⟩
    rw [hl, List.length_append, List.length_singleton] at el
    refine ⟨by omega, (h.mpr ?_).2⟩
    rw [hl, ← el, Nat.add_sub_cancel, List.getElem?_append_right (Nat.le_refl _), Nat.sub_self]
    rfl
theorem sIx_last (n d : Nat) : HT.sIx n d (some (-1)) = n - 1 := by
  show (if (-1 : Int) < 0 then ((-1 : Int) + (n : Int)).toNat else min (-1 : Int).toNat n) = _
  rw [if_pos (by decide)]; omega
theorem cut_last {t : Str} {l : List Nat} {c : Nat} (h : t.cps.toList = l ++ [c]) : (cutS t none (some (-1))).cps.toList = l := by
  have el := len_list t
  rw [h, List.length_append, List.length_singleton] at el
  unfold cutS
  rw [sIx_last]
  show (t.cps.toList.drop 0).take (t.length - 1 - 0) = l
  rw [h, List.drop_zero, ← el]
  simp
theorem sum_len (n : Nat) : ∀ ys : List Str, (∀ y ∈ ys, y.length ≤ n) → (ys.map (·.length)).sum ≤ ys.length * n
  | [], _ => by simp
  | y :: ys, h => by
    have h1 := h y List.mem_cons_self
    have h2 := sum_len n ys fun z hz => h z (List.mem_cons_of_mem _ hz)
    have e : (ys.length + 1) * n = ys.length * n + n := Nat.succ_mul _ _
    rw [List.map_cons, List.sum_cons, List.length_cons, e]
    omega
end My

set_option Elab.async false
set_option linter.all false
set_option maxRecDepth 100000
set_option maxHeartbeats 4000000
namespace My
open PySem PySem.Spec PyProof.Rows L2
open C8 (tCut pss_cut)
/-! ### the rules with K told -/
section
variable {X : Cx} {K : PySem.W.Frag} {a b : Expr} {ta tb te : TE} {pos : Pos}
theorem pe_kix {r : PySem.W.Frag → R2} (hK : X.K = K) (h : IxR X (r X.K)) (ha : PE X a ta) (hb : PE X b tb) (hs : PlainIx b) : PE X (.Subscript a b pos) (tOp (r K) ta tb) := hK ▸ pe_ix h ha hb hs
end
/-! ### defs that may raise -/
def FnX (P : Program) (w : World) (K : PySem.W.Frag) (mg : Str → Option Value) (base : Heap) (k : Nat) (x : Str) (ps : List Str) (sp : Sp) : Prop :=
  ∃ f fd, mg x = some (.ref f) ∧ PySem.W.keepIn K (.ref f) = true ∧ Binds K fd ps [] ∧ FnOk P w K mg base (L2.CX P w) k f fd ps sp
section
variable {P : Program} {w : World} {K : PySem.W.Frag} {mg : Str → Option Value} {base : Heap}
theorem Def1.okX {x : Str} {ps N : List Str} {st : Stmt} {k : Nat} {sp : Sp} (d : Def1 K mg x ps st) (S : FnScope N ps (defScope st)) (len : ∀ vs H Q E, sp vs H Q E → vs.length = ps.length)
    (hbody : ∀ (f : Addr) (cdv : Value) (A : Around) (outer : List Env) (s : Shared) (H : Hp) (vs : List V) (Q : VK) (E : XK), Room k (A.deeper (envOfC x (defScope st) s.heap.objs.size f cdv)) → sp vs H Q E →
      ∃ t, PSs (cxOf (L2.CX P w) P w K mg base N x (defScope st) f cdv A outer s H E) (defBody st) t ∧ t { nx := fun _ H' => Q .non H', rt := Q } (start N vs) H) : FnX P w K mg base (k + 1) x ps sp := by
  obtain ⟨f, fd, hm, F, b⟩ := d
  exact ⟨f, fd, hm, F.kp, b, F.okX S len (hbody f)⟩
theorem cx_K {CX : CXT} {N : List Str} {q : Str} {sc : Scope} {f : Addr} {cdv : Value} {A : Around} {outer : List Env} {s : Shared} {H : Hp} {E : XK} : (cxOf CX P w K mg base N q sc f cdv A outer s H E).K = K := rfl
end
section
variable {X : Cx} {k : Nat} {x : Str} {ps : List Str} {sp : Sp}
/-- a call of such a def: W is what is wished of an error at the slots -/
def tFnS (sp : Sp) (W : WX) (t : TA) : TE := fun σ H Q => t σ H fun vs H1 => sp vs H1 Q (WE W σ)
theorem pe_fnS {e : Expr} {es : List Expr} {t : TA} {p pos : Pos} {W : WX} (G : FnX X.prog X.w X.K X.mg X.base k x ps sp) (hr : Room k X.A) (hg : Gl X x) (tk : Takes X W) (ha : PA X (e :: es) t) (hdb : (x == ("__debug__" : Str)) = false := by decide)
    (he : starEach (e :: es) X.env = (false, eval e X.env) :: starEach es X.env := by rfl) (hpl : (backTo pos (starEach es X.env)).any (·.1) = false := by rfl) : PE X (.Call (.Name x p) (e :: es) [] pos) (tFnS sp W t) := by
  obtain ⟨f, fd, hm, hk, hb, F⟩ := G
  exact pe_callS (p := p) F hr hg hm hk hb (fun σ => passAt tk σ) ha hdb he hpl
theorem passE0 : Passes (L2.CX X.prog X.w) X E0 := fun _ _ _ _ _ _ _ c => by
  obtain ⟨_, _, _, _, _, _, _, _, _, _, _, _, z⟩ := c
  exact z.elim
/-- a call where nothing is raised -/
theorem pe_fnX {e : Expr} {es : List Expr} {t : TA} {p pos : Pos} (G : FnX X.prog X.w X.K X.mg X.base k x ps sp) (hr : Room k X.A) (hg : Gl X x) (ha : PA X (e :: es) t) (hdb : (x == ("__debug__" : Str)) = false := by decide)
    (he : starEach (e :: es) X.env = (false, eval e X.env) :: starEach es X.env := by rfl) (hpl : (backTo pos (starEach es X.env)).any (·.1) = false := by rfl) : PE X (.Call (.Name x p) (e :: es) [] pos) (tFn sp t) := by
  obtain ⟨f, fd, hm, hk, hb, F⟩ := G
  have h := pe_call (p := p) F hr hg hm hk hb .nil (E := E0) passE0 ha hdb he hpl
  refine ⟨fun pins s σ H Q I q => h.run pins s σ H Q I ?_⟩
  unfold tCall
  simp only [List.append_nil]
  exact q
def tRaise (C : Addr) (W : WX) (t : TA) : TS := fun _ σ H => t σ H fun vs H1 => vs.length ≤ sizeLine ∧ W (.ref C) none σ H1
theorem ps_rai {C : Addr} {W : WX} {e : Expr} {es : List Expr} {t : TA} {x : Str} {p pos pos' : Pos} (hc : X.calm = true) (tk : Takes X W) (q : PySem.W.excIn X.K C [.type "ValueError", .type "Exception", .type "BaseException", .type "object"] "ValueError.__new__" = true) (gC : X.mg x = some (.ref C))
    (kC : PySem.W.keepIn X.K (.ref C) = true) (b : PySem.W.subIn X.K (.ref C) (.type "BaseException") = some true) (ty : PySem.W.typeIn X.K (.ref C) = some (.type "type")) (hg : Gl X x) (ha : PA X (e :: es) t) (hdb : (x == ("__debug__" : Str)) = false := by decide)
    (he : starEach (e :: es) X.env = (false, eval e X.env) :: starEach es X.env := by rfl) (hpl : (backTo pos (starEach es X.env)).any (·.1) = false := by rfl) : PS X (.Raise (some (.Call (.Name x p) (e :: es) [] pos)) none pos') (tRaise C W t) :=
  ps_raise hc tk (pmk_ownA PySem.F.excBase_ValueError q gC kC (raises_own b ty) hg ha hdb he hpl)
/-- isinstance of the error that a suite holds -/
def rIsX (K : PySem.W.Frag) (a : Addr) (cls : Value) (d : Option Addr) : List V → Hp → VK → Prop := fun xs H Q => ∃ D, cls = .ref D ∧ d = none ∧ ExcC K D ∧ rIsE K D a xs H Q
theorem call_isX {a : Addr} {oe : Obj} {pn : List (Addr × Obj)} {cls : Value} {d : Option Addr} {K : PySem.W.Frag} (hK : X.K = K) (hz : Zc cls d oe) (hf : ∃ vs, oe.data = .fields vs) : CallR (X.suite a ((a, oe) :: pn)) (.builtin "isinstance") (rIsX K a cls d) := by
  subst hK
  intro pins s σ H xs us Q I r h
  obtain ⟨D, rfl, rfl, C, h⟩ := h
  exact call_isE C hz hf pins s σ H xs us Q I r h
end
section
variable {σ : L2.St} {H : Hp} {Q : VK} {K : PySem.W.Frag} {a c d : L2.St → Hp → Prop} {b : VK}
theorem r_fnS {sp : Sp} {W : WX} {t : TA} (h : t σ H fun vs H1 => sp vs H1 Q (WE W σ)) : tFnS sp W t σ H Q := h
theorem r_raise {C : Addr} {W : WX} {t : TA} {D : Ends} (h : t σ H fun vs H1 => vs.length ≤ sizeLine ∧ W (.ref C) none σ H1) : tRaise C W t D σ H := h
theorem r_lenAnd {xs : List V} {A : Prop} (hl : xs.length ≤ 1000) (h : A) : xs.length ≤ sizeLine ∧ A := ⟨Nat.le_trans hl (by decide), h⟩
theorem r_isX {ad D C : Addr} {r : Bool} (hC : ExcC K D) (h : PySem.W.kitOne K (.ref D) (.ref C) = some r) (q : Q (.bl r) H) : rIsX K ad (.ref D) none [.ref ad, .ref C] H Q := ⟨D, rfl, rfl, hC, .ref C, .ref C, r, rfl, fun _ h => h, h, q⟩
theorem r_isXb {ad D : Addr} {T : String} {r : Bool} (hC : ExcC K D) (h : PySem.W.kitOne K (.ref D) (.type T) = some r) (q : Q (.bl r) H) : rIsX K ad (.ref D) none [.ref ad, .ty T] H Q := ⟨D, rfl, rfl, hC, .ty T, .type T, r, rfl, fun _ h => h, h, q⟩
theorem r_fmt {te : TE} (h : te σ H fun x H1 => (∃ y : Str, x = .str y ∧ y.length ≤ sizeLine ∧ Q (.str y) H1) ∨ ∃ i : Int, x = .int i ∧ i.natAbs.log2 < 1920 ∧ Q (.str (toString i)) H1) : tFmt te σ H Q := h
/-- an f-string's text, left open -/
def tJoined (ts : List TE) : TE := fun σ H Q => tJs ts Str.empty σ H fun out H1 => Q (.str out) H1
theorem pe_joi2 {X : Cx} {v1 v2 : Expr} {rest : List Expr} {ts : List TE} {pos : Pos} (h : PJ X (v1 :: v2 :: rest) ts) : PE X (.JoinedStr (v1 :: v2 :: rest) pos) (tJoined ts) := pe_joined h
theorem r_jcons {t : TE} {ts : List TE} {acc : Str} {QJ : Str → Hp → Prop} (h : t σ H fun x H1 => ∃ y : Str, x = .str y ∧ (acc ++ y).length ≤ sizeLine ∧ tJs ts (acc ++ y) σ H1 QJ) : tJs (t :: ts) acc σ H QJ := h
theorem r_jnil {acc : Str} {QJ : Str → Hp → Prop} (h : QJ acc H) : tJs [] acc σ H QJ := h
theorem r_joined {ts : List TE} (h : tJs ts Str.empty σ H fun out H1 => Q (.str out) H1) : tJoined ts σ H Q := h
theorem r_fmtS {y : Str} {A B : Prop} (hz : y.length ≤ 100000) (h : A) : (∃ z : Str, V.str y = .str z ∧ z.length ≤ sizeLine ∧ (z = y → A)) ∨ B := .inl ⟨y, rfl, Nat.le_trans hz (by decide), fun _ => h⟩
/-- try .. except x as n -/
def tTryAs (K : PySem.W.Frag) (c : Value) (i : Nat) (tb : WX → TS) (ts : Addr → Value → Option Addr → TS) : TS := fun D σ H => tb (wAs K c i ts (fun _ _ _ _ => False) D) D σ H
theorem r_tryAs {cv : Value} {i : Nat} {tb : WX → TS} {ts : Addr → Value → Option Addr → TS} {D : Ends} (h : tb (wAs K cv i ts (fun _ _ _ _ => False) D) D σ H) : tTryAs K cv i tb ts D σ H := h
theorem w_as {cls cv : Value} {dd : Option Addr} {i : Nat} {ts : Addr → Value → Option Addr → TS} (h : PySem.W.exmOne K cls cv = some true) (k : ∀ x, H x = none → ts x cls dd ⟨fun σ' H' => a (σ'.set i none) H', b, fun σ' H' => c (σ'.set i none) H', fun σ' H' => d (σ'.set i none) H'⟩ (σ.set i (some (.ref x))) H) :
    wAs K cv i ts (fun _ _ _ _ => False) ⟨a, b, c, d⟩ cls dd σ H := ⟨true, h, fun _ => k, fun z => nomatch z⟩
end
theorem ps_tryAs {X : Cx} {K : PySem.W.Frag} {x n : Str} {c : Value} {i : Nat} {body suite : List Stmt} {b₀ : Stmt} {np pos pos' : Pos} {tb : WX → TS} {ts : Addr → Value → Option Addr → TS} (hK : X.K = K) (hs : X.stack = X.env :: X.outer) (hf : X.env.frame = some X.env.locals) (hN : X.N.Nodup) (hi : X.N[i]? = some n) (hln : X.env.kindOf n = some .local) (hc : Names X x c)
    (hb : ∀ (W : WX) (pn : List (Addr × Obj)) (xe : Value → Shared → Prop), Takes (X.tr pn xe) W → PSs (X.tr pn xe) body (tb W))
    (hsu : ∀ (a : Addr) (oe : Obj) (cls : Value) (d : Option Addr) (pn : List (Addr × Obj)), Zc cls d oe → (∃ vs, oe.data = .fields vs) → PSs (X.suite a ((a, oe) :: pn)) (b₀ :: suite) (ts a cls d)) :
    PS X (.Try body [.ExceptHandler (some (.Name x np)) (some n) (b₀ :: suite) pos'] [] [] pos) (tTryAs K c i tb ts) := by
  subst hK
  exact ps_try_as hs hf hN hi hln hc takes0 (fun W pn xe tk _ => hb W pn xe tk) hsu
section
variable {X : Cx}
def rIsNo : R2 := fun x y H Q => y = .non ∧ Q (.bl (decide (x = .non))) H
def rNotNo : R2 := fun x y H Q => y = .non ∧ Q (.bl (!decide (x = .non))) H
theorem oIsN : OpR X (compareOp .Is) rIsNo := op_isN
theorem oNotN : OpR X (compareOp .IsNot) rNotNo := op_notN
theorem r_isN {x : V} {H : Hp} {Q : VK} (q : Q (.bl (decide (x = .non))) H) : rIsNo x .non H Q := ⟨rfl, q⟩
theorem r_notN {x : V} {H : Hp} {Q : VK} (q : Q (.bl (!decide (x = .non))) H) : rNotNo x .non H Q := ⟨rfl, q⟩
theorem r_msgV {σ : L2.St} {H : Hp} {Q : VK} {s z : Str} {i : Nat} (hv : σ[i]? = some (some (.str z))) (h1 : s.length ≤ 1000) (h2 : z.length ≤ 100000) (q : ∀ out, Q (.str out) H) : tJoined [tC (.str s), tFmt (tVar i)] σ H Q := by
  refine ⟨s, rfl, ?_, .str z, hv, .inl ⟨z, rfl, Nat.le_trans h2 (by decide), z, rfl, ?_, q _⟩⟩
  · rw [len_app]
    show 0 + s.length ≤ sizeLine
    have : 1000 ≤ sizeLine := by decide
    omega
  · rw [len_app, len_app]
    show 0 + s.length + z.length ≤ sizeLine
    have : 101000 ≤ sizeLine := by decide
    omega
end
section
variable {X : Cx} {to te : TE}
def tFind (to te : TE) : TE := tM1 (fun x xs H Q => ∃ a b, x = .str a ∧ xs = [.str b] ∧ Q (.int (Txt.find a b)) H) to te
theorem pe_find {o e : Expr} {apos pos : Pos} (ho : PE X o to) (he : PE X e te) (hs : starEach [e] X.env = [(false, eval e X.env)] := by rfl) (hbase : attributeBase o "find" X.env (eval o X.env) = eval o X.env := by rfl) (hline : (apos.endLine == pos.line) = true := by rfl) :
    PE X (.Call (.Attribute o "find" apos) [e] [] pos) (tFind to te) := pe_m1 PySem.F.slot_str_find PySem.F.type_str_find mt_find ho he hs hbase hline
theorem r_find {σ : L2.St} {H : Hp} {Q : VK} (h : to σ H fun x H1 => (∃ a, x = .str a) ∧ te σ H1 fun y H2 => ∃ a b, x = .str a ∧ [y] = [V.str b] ∧ Q (.int (Txt.find a b)) H2) : tFind to te σ H Q := h
end
end My

set_option Elab.async false
set_option linter.all false
set_option maxRecDepth 100000
set_option maxHeartbeats 4000000
namespace My
open PySem PySem.Spec PyProof.Rows L2 GenW
/-! ### for in a generator's body -/
section
variable {M : Model} {A : Around} {R : GenEnd} {Y : Protocol} {n : Nat} {s₀ : Shared} {c : Code} {fs : List PySem.Frame} {s : Shared} {env : PySem.Env}
  {K : Flow → Sem PySem.Fin} {J : Value → Sem PySem.Fin} {gd : Bool → Bool} {lv : List Value → List Value}
theorem seg_For {target iter : Expr} {body orelse : List Stmt} {pos : Pos}
    (h : wpAny M (A.over c fs) (eval iter env) (fun x s1 => wpAny M (A.over c fs) (pyIter x) (fun it s2 => ∀ p, Seg M A R Y n s₀ (.forLoop target it body orelse env) (M.den (.forLoop target it body orelse env))
      (.ret (fun r => ((match r with | .ok f => (.pure f : Sem Flow) | .error e => .raise e).onRaise (cameBack env)).wrap K J gd lv) none (gd false) (lv []) c p [] :: fs) s2)
      (fun x s' => Seg M A R Y n s₀ c (J x) fs s') s1) (fun x s' => Seg M A R Y n s₀ c (J x) fs s') s)
    (hs : ∀ x, foldedSetIterable iter env x = pure x) :
    Seg M A R Y n s₀ c ((exec (.For target iter body orelse pos) env).wrap K J gd lv) fs s := by
  rw [exec_For]
  refine seg_bind_wrap (wpAny_standAt (seg_bind_wrap (wpAny_mono h (fun x s1 h1 => ?_) fun _ _ e => e)))
  refine seg_bind_wrap (wpAny_of_eq (hs x) (seg_bind_wrap (wpAny_standAt (seg_bind_wrap (wpAny_holding (wpAny_mono h1 (fun it s2 h2 => ?_) fun _ _ e => e))))))
  exact seg_call h2
end
section
variable {prog : Program} {w : World} {A : Around} {R : GenEnd} {Y : Protocol} {n : Nat} {s₀ : Shared} {fs : List PySem.Frame} {s : Shared} {env : PySem.Env}
theorem seg_forLoop {target : Expr} {it : Value} {body orelse : List Stmt} {C : Code} (hC : C = .forLoop target it body orelse env)
    (h : wpAny (model prog w) (A.over C fs) (pyNext it) (fun r s' => match r with
      | none => Seg (model prog w) A R Y n s₀ C (.pure (.again (.block orelse env))) fs s'
      | some v => wpAny (model prog w) (A.over C fs) (letOwnedTupleGo target it v) (fun _ s1 => wpAny (model prog w) (A.over C fs) (assign target env v) (fun _ s2 =>
          Seg (model prog w) A R Y n s₀ C ((execs body env).wrap (fun f => match f with
            | .next | .cont => .pure (.again C)
            | .brk => .pure (.done .next)
            | .ret v => .pure (.done (.ret v))) (fun e => (do noteFrame e env; theTreesLotGoes e : Sem Unit).wrap (fun _ => .raise e) .raise id id) id id) fs s2)
          (fun x s' => Seg (model prog w) A R Y n s₀ C ((do noteFrame x env; theTreesLotGoes x : Sem Unit).wrap (fun _ => .raise x) .raise id id) fs s') s1)
          (fun x s' => Seg (model prog w) A R Y n s₀ C ((do noteFrame x env; theTreesLotGoes x : Sem Unit).wrap (fun _ => .raise x) .raise id id) fs s') s')
      (fun x s' => Seg (model prog w) A R Y n s₀ C ((do noteFrame x env; theTreesLotGoes x : Sem Unit).wrap (fun _ => .raise x) .raise id id) fs s') s) :
    Seg (model prog w) A R Y n s₀ C ((model prog w).den C) fs s := by
  subst hC
  show Seg _ A R Y n s₀ _ ((forTurn target it body orelse env).onRaise (fun x => do noteFrame x env; theTreesLotGoes x)) fs s
  have eJ : (fun e => ((do noteFrame e env; theTreesLotGoes e : Sem Unit).bind fun _ => (.raise e : Sem PySem.Fin))) = fun e => (do noteFrame e env; theTreesLotGoes e : Sem Unit).wrap (fun _ => .raise e) .raise id id := by
    funext e; rw [Sem.bind_eq_wrap]
  unfold forTurn
  rw [Sem.onRaise_eq_wrap, eJ]
  refine seg_bind_wrap (wpAny_standAt (seg_bind_wrap (wpAny_onRaise (wpAny_mono h (fun r s' h' => ?_) fun _ _ h' => wpAny_standAt h'))))
  cases r with
  | none => exact h'
  | some v =>
    refine seg_bind_wrap (wpAny_mono h' (fun _ s1 h1 => ?_) fun _ _ e => e)
    refine seg_bind_wrap (wpAny_mono h1 (fun _ s2 h2 => ?_) fun _ _ e => e)
    rw [Sem.bind_eq_wrap', Sem.wrap_wrap]
    have ew : ∀ t, t = ((execs body env).wrap (fun f => match f with
            | .next | .cont => .pure (.again (.forLoop target it body orelse env))
            | .brk => .pure (.done .next)
            | .ret v => .pure (.done (.ret v))) (fun e => (do noteFrame e env; theTreesLotGoes e : Sem Unit).wrap (fun _ => .raise e) .raise id id) id id) → Seg (model prog w) A R Y n s₀ (.forLoop target it body orelse env) t fs s2 := fun t e => by rw [e]; exact h2
    exact ew _ (Sem.wrap_congr _ _ _ (fun f => by cases f <;> rfl) (fun e => rfl))
theorem seg_block_nil (h : Seg (model prog w) A R Y n s₀ (.block [] env) (.pure (.done .next)) fs s) {C : Code} : Seg (model prog w) A R Y n s₀ C (.pure (.again (.block [] env))) fs s := seg_again rfl h
end
def tGFor (wi : TI) (g : TG) (tb : TGn) : TGn := fun D ys σ H => wi σ H fun J H1 => ∃ W : Nat → Nat → List V → L2.St → Hp → Prop, (∃ m, W 0 m ys σ H1) ∧ ∀ i m ys σ H, W i m ys σ H →
  (J.stop i H ∧ D.nx ys σ H) ∨ (J.go i H ∧ ∃ N : List V → L2.St → Hp → Prop, (∀ ys' σ' H', N ys' σ' H' → ∃ m', m' < m ∧ W (i + 1) m' ys' σ' H') ∧ ∀ x H', J.yld i H x H' → g x σ H' fun σ2 H2 => tb { D with nx := N, ct := N, bk := D.nx } ys σ2 H2)
theorem gs_for {X : Cx} {tg iter : Expr} {body : List Stmt} {wi : TI} {tt : TG} {tb : TGn} {pos : Pos} (hp : PassesOwn (model X.prog X.w) X.A X.env X.xe) (hc : X.calm = true) (hi : PI X tg iter wi) (hg : PG X tg tt) (hb : GSs X body tb)
    (hs : ∀ x, foldedSetIterable iter X.env x = pure x := by intro _; rfl) : GS X (.For tg iter body [] pos) (tGFor wi tt tb) := by
  refine ⟨fun A S ip R n ys s₀ c fs K J gd lv s σ H D g hn k hI ht => ?_⟩
  obtain ⟨acc0, cc0, r0, I⟩ := hI
  refine seg_For ?_ hs
  rw [g.over]
  refine wpAny_mono (hi.run _ s σ H _ I ht) (fun v s1 h1 => ?_) fun x s' hx => k.exc n s₀ x s' hx
  refine wpAny_mono h1 (fun itv s2 h2 p => ?_) fun x s' hx => k.exc n s₀ x s' hx
  obtain ⟨it, fp, tn, JJ, H2, e, I2, T, st2, f2, W, ⟨m0, w0⟩, turn⟩ := h2
  subst e
  have gl := fun (kk : Result → Sem PySem.Fin) => gc_loop (k := kk) (c' := .forLoop tg (.ref it) body [] X.env) (l := lv []) (kp := []) (p := p) g rfl rfl
  have bS : ∀ b ∈ fp, b ≠ S := fun b hb z => (f2 b hb).2.2.2.2.2 (S, lstObj acc0 cc0) (List.mem_append_right _ List.mem_cons_self) z.symm
  have stat : ∀ {acc : Array Value} {cc : Nat} {H' : Hp}, (∀ b ∈ fp, H' b = none) → ∀ b ∈ fp, FpOk X ((S, lstObj acc cc) :: ip) H' b := fun {acc cc H'} hn b hb => by
    obtain ⟨_, q1, q2, q3, q4, q5⟩ := f2 b hb
    refine ⟨hn b hb, q1, q2, q3, q4, fun p hp => ?_⟩
    rcases List.mem_append.mp hp with hp | hp
    · exact q5 p (List.mem_append_left _ hp)
    · rcases List.mem_cons.mp hp with hp | hp
      · rw [hp]; exact Ne.symm (bS b hb)
      · exact q5 p (List.mem_append_right _ (List.mem_cons_of_mem _ hp))
  have loop : ∀ (m i n : Nat) (ys : List V) (s₀ s : Shared) (σ : L2.St) (H : Hp), n + ys.length = sizeLine → W i m ys σ H → GI X S ip ys σ H s → tn i s.heap → (∀ b ∈ fp, H b = none) →
      Seg (model X.prog X.w) A R (GY X S) n s₀ (.forLoop tg (.ref it) body [] X.env) ((model X.prog X.w).den (.forLoop tg (.ref it) body [] X.env))
        (.ret (fun r => ((match r with | .ok f => (.pure f : Sem Flow) | .error e => .raise e).onRaise (cameBack X.env)).wrap K J gd lv) none (gd false) (lv []) c p [] :: fs) s := by
    intro m
    induction m using Nat.strongRecOn with
    | ind m ih =>
      intro i n ys s₀ s σ H hn w hI st3 fr3
      have ee : ∀ (n : Nat) (s₀ : Shared) (x : Value) (s' : Shared), X.xe x s' → Seg (model X.prog X.w) A R (GY X S) n s₀ (.forLoop tg (.ref it) body [] X.env)
          ((do noteFrame x X.env; theTreesLotGoes x : Sem Unit).wrap (fun _ => .raise x) .raise id id)
          (.ret (fun r => ((match r with | .ok f => (.pure f : Sem Flow) | .error e => .raise e).onRaise (cameBack X.env)).wrap K J gd lv) none (gd false) (lv []) c p [] :: fs) s' := fun n s₀ x s' hx => by
        refine seg_wrap ?_
        rw [(gl _).over]
        refine wpAny_bind (wpAny_mono (hp x s' hx) (fun _ s'' hcb => wpAny_theTreesLotGoes ?_) fun y s'' hcb => ?_)
        · exact seg_leaf (.error x) (seg_cameBack g k hcb)
        · exact seg_leaf (.error y) (seg_cameBack g k hcb)
      refine seg_forLoop rfl ?_
      rw [(gl _).over]
      obtain ⟨acc, cc, r, I3⟩ := hI
      rcases turn i m ys σ H w with ⟨stop, qn⟩ | ⟨go, N, hN, step⟩
      · refine wpAny_mono (T.done X rfl rfl rfl hc i _ s σ H X.xe I3 (stat fr3) st3 stop) (fun rr s4 h4 => ?_) fun x s' hx => ee n s₀ x s' hx
        obtain ⟨hr, I4⟩ := h4
        subst hr
        exact seg_block_nil (seg_leaf (.ok .next) (k.ok n ys s₀ s4 .next hn ⟨σ, H, ⟨acc, cc, r, I4⟩, qn⟩))
      · refine wpAny_mono (T.item X rfl rfl rfl hc i _ s σ H X.xe I3 (stat fr3) st3 go) (fun rr s4 h4 => ?_) fun x s' hx => ee n s₀ x s' hx
        obtain ⟨u, hr, h4⟩ := h4
        subst hr
        refine wpAny_mono h4 (fun _ s5 h5 => ?_) fun x s' hx => ee n s₀ x s' hx
        obtain ⟨x, H5, I5, r5, y5, st5, fr5⟩ := h5
        have I5' := I5.pinned (stat fr5) (T.obj _ _ st5)
        refine wpAny_mono (hg.run _ s5 σ H5 x u _ I5' r5 (step x H5 y5)) (fun _ s6 h6 => ?_) fun x s' hx => ee n s₀ x s' hx
        obtain ⟨σ6, H6, I6, q6⟩ := h6
        have ipS : ∀ q ∈ ip ++ pinsAt fp s5.heap, q.1 ≠ S := fun q hq => (List.mem_append.mp hq).elim (fun z => g.ip q z) fun z => bS _ (of_pinsAt z).1
        have G := fun (kk : Result → Sem PySem.Fin) => ({ gl kk with ip := ipS } : L2.GC X S (ip ++ pinsAt fp s5.heap) A _ _ id)
        have again : ∀ {n' : Nat} {ys' : List V} {s₀' s7 : Shared} {σ7 : L2.St} {H7 : Hp}, n' + ys'.length = sizeLine → GI X S (ip ++ pinsAt fp s5.heap) ys' σ7 H7 s7 → N ys' σ7 H7 →
            Seg (model X.prog X.w) A R (GY X S) n' s₀' (.forLoop tg (.ref it) body [] X.env) (.pure (.again (.forLoop tg (.ref it) body [] X.env)))
              (.ret (fun r => ((match r with | .ok f => (.pure f : Sem Flow) | .error e => .raise e).onRaise (cameBack X.env)).wrap K J gd lv) none (gd false) (lv []) c p [] :: fs) s7 := fun {n' ys' s₀' s7 σ7 H7} hn' I7 n7 => by
          obtain ⟨m', hm, w7⟩ := hN ys' σ7 H7 n7
          obtain ⟨acc7, cc7, r7, I7⟩ := I7
          have I7u : Inv X ((S, lstObj acc7 cc7) :: ip) σ7 H7 s7 := Inv.unpinned (pl := pinsAt fp s5.heap) I7
          refine seg_again rfl (ih m' hm (i + 1) n' ys' s₀' s7 σ7 H7 hn' w7 ⟨acc7, cc7, r7, I7u⟩ (T.keep _ _ _ st5 fun b hb o e => ?_) fun b hb => ?_)
          · exact (I7.pin (b, o) (List.mem_append_right _ (List.mem_cons_of_mem _ (List.mem_append_right _ (mem_pinsAt hb e))))).1
          · obtain ⟨o, e, d⟩ := T.obj _ _ st5 b hb
            exact (I7.pin (b, o) (List.mem_append_right _ (List.mem_cons_of_mem _ (List.mem_append_right _ (mem_pinsAt hb e))))).2.1
        have less : ∀ {ys' : List V} {σ7 : L2.St} {H7 : Hp} {s7 : Shared}, GI X S (ip ++ pinsAt fp s5.heap) ys' σ7 H7 s7 → GI X S ip ys' σ7 H7 s7 := fun {ys' σ7 H7 s7} h7 => by
          obtain ⟨acc7, cc7, r7, I7⟩ := h7
          exact ⟨acc7, cc7, r7, Inv.unpinned (pl := pinsAt fp s5.heap) I7⟩
        refine hb.run A S (ip ++ pinsAt fp s5.heap) R n ys s₀ _ _ _ _ id id s6 σ6 H6 { D with nx := N, ct := N, bk := D.nx } (G _) hn ⟨fun n' ys' s₀' s7 f hn' hs => ?_, fun n' s₀' x s7 hx => ee n' s₀' x s7 hx⟩ ⟨acc, cc, r, I6⟩ q6
        cases f with
        | next => obtain ⟨σ7, H7, I7, n7⟩ := hs; exact again hn' I7 n7
        | cont => obtain ⟨σ7, H7, I7, n7⟩ := hs; exact again hn' I7 n7
        | brk =>
          obtain ⟨σ7, H7, I7, n7⟩ := hs
          exact seg_leaf (.ok .next) (k.ok n' ys' s₀' s7 .next hn' ⟨σ7, H7, less I7, n7⟩)
        | ret v =>
          obtain ⟨v7, σ7, H7, I7, r7, n7⟩ := hs
          exact seg_leaf (.ok (.ret v)) (k.ok n' ys' s₀' s7 (.ret v) hn' ⟨v7, σ7, H7, less I7, r7, n7⟩)
  exact loop m0 0 n ys s₀ s2 σ H2 hn w0 ⟨acc0, cc0, r0, I2⟩ st2 fun b hb => (f2 b hb).1
/-! ### generator defs -/
def FnG (P : Program) (w : World) (K : PySem.W.Frag) (mg : Str → Option Value) (base : Heap) (k : Nat) (x : Str) (ps : List Str) (sp : SpG) : Prop :=
  ∃ f fd, mg x = some (.ref f) ∧ PySem.W.keepIn K (.ref f) = true ∧ Binds K fd ps [] ∧ GFn P w K mg base k f fd ps sp
section
variable {P : Program} {w : World} {K : PySem.W.Frag} {mg : Str → Option Value} {base : Heap}
theorem Def1.okG {x : Str} {ps N : List Str} {st : Stmt} {k : Nat} {sp : SpG} (d : Def1 K mg x ps st) (S : GScope N ps (defScope st)) (len : ∀ vs H Q E, sp vs H Q E → vs.length = ps.length)
    (hbody : ∀ (f : Addr) (cdv : Value) (A : Around) (outer : List PySem.Env) (s : Shared) (H : Hp) (vs : List V) (Q : List V → Hp → Prop) (E : XK) (pn : List (Addr × Obj)), Room k (A.deeper (envOfC x (defScope st) s.heap.objs.size f cdv)) → sp vs H Q E →
      ∃ t, GSs (gcxOf P w K mg base N x (defScope st) f cdv A outer s H E pn) (defBody st) t ∧ t { nx := fun ys _ H' => Q ys H', rt := fun ys v H' => v = .non ∧ Q ys H' } [] (start N vs) H) : FnG P w K mg base (k + 1) x ps sp := by
  obtain ⟨f, fd, hm, F, b⟩ := d
  refine ⟨f, fd, hm, F.kp, b, ?_⟩
  obtain ⟨oc, od, kV, doc, pm, an, cdv, ct, osl, e, lk, hcd⟩ := F.ex
  subst e
  exact gfn_of lk (by first | exact hcd | exact hcd.1) S len fun A outer s H vs Q E pn hr h => hbody f cdv A outer s H vs Q E pn hr h
theorem gcx_K {N : List Str} {q : Str} {sc : Scope} {f : Addr} {cdv : Value} {A : Around} {outer : List PySem.Env} {s : Shared} {H : Hp} {E : XK} {pn : List (Addr × Obj)} : (gcxOf P w K mg base N q sc f cdv A outer s H E pn).K = K := rfl
end
section
variable {X : Cx} {k : Nat} {x : Str} {ps : List Str} {sp : SpG}
/-- list(f(e, ..)) of a generator def that raises nothing -/
def tListGen (sp : SpG) (t : TA) : TE := fun σ H Q => t σ H fun vs H1 => sp vs H1 (fun out H2 => ∀ p, H2 p = none → Q (.ref p) (upd H2 p (.lst out))) E0
theorem noStop0 {K : PySem.W.Frag} : NoStop K E0 := fun _ _ _ h => h.elim
theorem pe_listGen {e : Expr} {es : List Expr} {t : TA} {p pos p' pos' : Pos} (G : FnG X.prog X.w X.K X.mg X.base k x ps sp) (hr : Room (k + 3) X.A) (hg : Gl X x) (hl : Gl X "list") (hml : X.mg "list" = none) (ha : PA X (e :: es) t) (hdb : (x == ("__debug__" : Str)) = false := by decide)
    (he : starEach (e :: es) X.env = (false, eval e X.env) :: starEach es X.env := by rfl) (hpl : (backTo pos' (starEach es X.env)).any (·.1) = false := by rfl)
    (he2 : starEach [Expr.Call (.Name x p') (e :: es) [] pos'] X.env = (false, eval (Expr.Call (.Name x p') (e :: es) [] pos') X.env) :: starEach [] X.env := by rfl) :
    PE X (.Call (.Name "list" p) [.Call (.Name x p') (e :: es) [] pos'] [] pos) (tListGen sp t) := by
  obtain ⟨f, fd, hm, hk, hb, F⟩ := G
  have hr0 : Room k X.A := hr.mono (by omega)
  have h := pgen_call (p := p') (E := E0) F hr0 hg hm hk hb .nil ha hdb he hpl
  have h2 := pe_listG (p := p) (pos := pos) (nm := "list") h passE0 noStop0 hr hl hml (by decide +kernel) (by decide) (by decide) he2
  refine ⟨fun pins s σ H Q I q => h2.run pins s σ H Q I ?_⟩
  unfold tListG tCallG
  simp only [List.append_nil]
  exact q
end
section
variable {σ : L2.St} {H : Hp} {Q : VK} {D : GEnds} {ys : List V} {te ta : TE} {t : TA} {g : TG} {tb : TGn}
theorem r_listGen {sp : SpG} {t : TA} (h : t σ H fun vs H1 => sp vs H1 (fun out H2 => ∀ p, H2 p = none → Q (.ref p) (upd H2 p (.lst out))) E0) : tListGen sp t σ H Q := h
def ForG (J : It) (g : TG) (tb : TGn) (D : GEnds) (ys : List V) (σ : L2.St) (H1 : Hp) : Prop := ∃ W : Nat → Nat → List V → L2.St → Hp → Prop, (∃ m, W 0 m ys σ H1) ∧ ∀ i m ys σ H, W i m ys σ H →
  (J.stop i H ∧ D.nx ys σ H) ∨ (J.go i H ∧ ∃ N : List V → L2.St → Hp → Prop, (∀ ys' σ' H', N ys' σ' H' → ∃ m', m' < m ∧ W (i + 1) m' ys' σ' H') ∧ ∀ x H', J.yld i H x H' → g x σ H' fun σ2 H2 => tb { D with nx := N, ct := N, bk := D.nx } ys σ2 H2)
theorem r_gFor {wi : TI} (h : wi σ H fun J H1 => ForG J g tb D ys σ H1) : tGFor wi g tb D ys σ H := h
theorem r_gYield (hy : ys.length < 100000) (h : te σ H fun x H1 => D.nx (ys ++ [x]) σ H1) : tGYield te D ys σ H := ⟨Nat.lt_of_lt_of_le hy (by decide), h⟩
theorem r_gNil (h : D.nx ys σ H) : tG0 D ys σ H := h
theorem r_gSeq {t u : TGn} (h : t { D with nx := fun ys' σ' H' => u D ys' σ' H' } ys σ H) : tGThen t u D ys σ H := h
theorem r_gPlain {t : TS} (h : t ⟨D.nx ys, D.rt ys, D.bk ys, D.ct ys⟩ σ H) : tPlain t D ys σ H := h
theorem loopG {lo : Int} {n : Nat} (Pv : Nat → List V → L2.St → Hp → Prop) (h0 : Pv 0 ys σ H)
    (hs : ∀ i ys' σ' H', i < n → Pv i ys' σ' H' → g (.int (lo + i)) σ' H' fun σ2 H2 => tb { D with nx := Pv (i + 1), ct := Pv (i + 1), bk := D.nx } ys' σ2 H2) (hd : ∀ ys' σ' H', Pv n ys' σ' H' → D.nx ys' σ' H') : ForG (Itr lo n) g tb D ys σ H := by
  refine ⟨fun i m ys σ H => m = n - i ∧ i ≤ n ∧ Pv i ys σ H, ⟨n, by simp, Nat.zero_le _, h0⟩, ?_⟩
  rintro i m ys σ H ⟨rfl, hi, p⟩
  by_cases hlt : i < n
  · refine .inr ⟨hlt, Pv (i + 1), fun ys' σ' H' p' => ⟨n - (i + 1), by omega, rfl, hlt, p'⟩, fun x H' y => ?_⟩
    obtain ⟨rfl, rfl⟩ := y
    exact hs i ys σ _ hlt p
  · have e : i = n := by omega
    subst e
    refine .inl ⟨?_, hd ys σ H p⟩
    first | exact Nat.le_refl _ | (show ¬ _; omega)
end
section
variable {σ : L2.St} {H : Hp} {K : PySem.W.Frag} {a c d : L2.St → Hp → Prop} {b : VK} {g : TG} {tb : TS}
/-- zip of two tuples -/
theorem r_iZip {ta : TA} {R : It → Hp → Prop} (h : ta σ H fun vs H1 => ∃ a b xs ys, vs = [.ref a, .ref b] ∧ ((SqL K H1 a xs ∧ SqL K H1 b ys ∧ R (Itz K a b) H1) ∨ (SqT K H1 a xs ∧ SqT K H1 b ys ∧ R (RZ.ItzT K a b) H1))) : RZ.iZipA K ta σ H R := h
theorem r_zipT {p q : Addr} {xs ys : List V} {D : Ends} (h1 : SqT K H p xs) (h2 : SqT K H q ys) (h : ForR (RZ.ItzT K p q) g tb D σ H) :
    ∃ a b xs ys, [V.ref p, V.ref q] = [.ref a, .ref b] ∧ ((SqL K H a xs ∧ SqL K H b ys ∧ ForR (Itz K a b) g tb D σ H) ∨ (SqT K H a xs ∧ SqT K H b ys ∧ ForR (RZ.ItzT K a b) g tb D σ H)) := ⟨p, q, xs, ys, rfl, .inr ⟨h1, h2, h⟩⟩
theorem loopZ {p q : Addr} {xs ys : List V} (Pv : Nat → L2.St → Hp → Prop) (h0 : Pv 0 σ H) (hq : ∀ i σ H, Pv i σ H → SqT K H p xs ∧ SqT K H q ys)
    (hs : ∀ (i : Nat) (x y : V) (T : Addr) (σ : L2.St) (H H2 : Hp), xs[i]? = some x → ys[i]? = some y → Pv i σ H → Same H H2 → SqT K H2 T [x, y] → g (.ref T) σ H2 fun σ2 H3 => tb ⟨Pv (i + 1), b, a, Pv (i + 1)⟩ σ2 H3)
    (hd : ∀ σ H, Pv (min xs.length ys.length) σ H → a σ H) : ForR (RZ.ItzT K p q) g tb ⟨a, b, c, d⟩ σ H := by
  refine ⟨fun i m σ H => m = xs.length - i ∧ i ≤ xs.length ∧ i ≤ ys.length ∧ Pv i σ H, ⟨xs.length, rfl, Nat.zero_le _, Nat.zero_le _, h0⟩, ?_⟩
  rintro i m σ H ⟨rfl, hi, hj, p⟩
  obtain ⟨qx, qy⟩ := hq i σ H p
  by_cases hlt : i < xs.length ∧ i < ys.length
  · have hx : xs[i]? = some xs[i] := List.getElem?_eq_getElem hlt.1
    have hy : ys[i]? = some ys[i] := List.getElem?_eq_getElem hlt.2
    refine .inr ⟨⟨xs, ys, _, _, qx, qy, hx, hy⟩, Pv (i + 1), fun σ' H' p' => ⟨xs.length - (i + 1), by omega, rfl, hlt.1, hlt.2, p'⟩, fun v H' y => ?_⟩
    obtain ⟨T, x', y', rfl, hT, rfl, f1, f2⟩ := y
    exact hs i x' y' T σ H _ (f1 xs qx) (f2 ys qy) p (ex_new hT) (SqT.of upd_same)
  · have e : i = min xs.length ys.length := by omega
    refine .inl ⟨⟨xs, ys, qx, qy, by omega⟩, hd σ H (e ▸ p)⟩
theorem r_gTup2 {T : Addr} {x y : V} {t : TGs} {Q : L2.St → Hp → Prop} (h : SqT K H T [x, y]) (q : t [x, y] σ H Q) : gTup K 2 t (.ref T) σ H Q := ⟨T, [x, y], rfl, h, rfl, q⟩
end
section
variable {σ : L2.St} {H : Hp} {Q : VK} {K : PySem.W.Frag} {a c d : L2.St → Hp → Prop} {b : VK}
theorem r_gCons {t : TG} {u : TGs} {v : V} {vs : List V} {Q : L2.St → Hp → Prop} (h : t v σ H fun σ' H' => u vs σ' H' Q) : gCons t u (v :: vs) σ H Q := ⟨v, vs, rfl, h⟩
theorem r_gNil2 {Q : L2.St → Hp → Prop} (h : Q σ H) : gNil [] σ H Q := ⟨rfl, h⟩
theorem r_aug {i : Nat} {te : TE} {ti : TIp} {x : V} (hx : σ[i]? = some (some x)) (h : te σ H fun y H1 => ti x y H1 fun z H2 => a (σ.set i (some z)) H2) : tAug i te ti ⟨a, b, c, d⟩ σ H := ⟨x, hx, h⟩
theorem r_ipI {g : Int → Int → Int} {i j : Int} (q : Q (.int (g i j)) H) : ipI g (.int i) (.int j) H Q := ⟨i, j, rfl, rfl, q⟩
theorem r_neTS {p q : Addr} {xs ys : List Str} (h1 : SqT K H p (xs.map V.str)) (h2 : SqT K H q (ys.map V.str)) (o1 : ∀ x ∈ xs, Asc x) (o2 : ∀ x ∈ ys, Asc x) (k : Q (.bl (!decide (xs = ys))) H) : rNeD K (.ref p) (.ref q) H Q := by
  refine ⟨_, _, dp_strs h1, dp_strs h2, shaped_strs o1, shaped_strs o2, ?_⟩
  rw [eqv_strs]
  exact k
theorem r_catA {p q : Addr} {xs ys : List V} (h1 : SqT K H p xs) (h2 : SqT K H q ys) (hz : xs.length + ys.length ≤ 100000) (k : ∀ r H2, Same H H2 → SqT K H2 r (xs ++ ys) → Q (.ref r) H2) : rCatA K (.ref p) (.ref q) H Q := by
  refine ⟨p, q, xs, ys, rfl, rfl, h1, h2, Nat.le_trans hz (by decide), fun e => k q H (Same.refl _) (by rw [e]; exact h2), fun _ e => k p H (Same.refl _) (by rw [e, List.append_nil]; exact h1), fun _ _ r hr => k r _ (ex_new hr) (SqT.of upd_same)⟩
theorem cutV_to {xs : List V} {n : Int} (h0 : 0 ≤ n) : cutV xs none (some n) = xs.take n.toNat := by
  unfold cutV
  have e0 : HT.sIx xs.length 0 none = 0 := rfl
  have e1 : HT.sIx xs.length xs.length (some n) = min n.toNat xs.length := by
    show (if n < 0 then (n + (xs.length : Int)).toNat else min n.toNat xs.length) = _
    rw [if_neg (by omega)]
  rw [e0, e1, List.drop_zero, Nat.sub_zero]
  by_cases h : n.toNat ≤ xs.length
  · rw [Nat.min_eq_left h]
  · rw [Nat.min_eq_right (by omega), List.take_length, List.take_of_length_le (by omega)]
theorem cutV_last {xs : List V} : cutV xs none (some (-1)) = xs.dropLast := by
  unfold cutV
  have e0 : HT.sIx xs.length 0 none = 0 := rfl
  have e1 : HT.sIx xs.length xs.length (some (-1)) = xs.length - 1 := by
    show (if (-1 : Int) < 0 then ((-1 : Int) + (xs.length : Int)).toNat else min (-1 : Int).toNat xs.length) = _
    rw [if_pos (by decide)]; omega
  rw [e0, e1, List.drop_zero, Nat.sub_zero, List.dropLast_eq_take]
end
section
variable {σ : L2.St} {H : Hp} {Q : VK}
def MsgF (s : Str) (σ : L2.St) (x : V) (H1 : Hp) (Q : VK) : Prop := (∃ y : Str, x = .str y ∧ y.length ≤ sizeLine ∧ (fun (x : V) (H1 : Hp) => ∃ y : Str, x = .str y ∧ (Str.empty ++ s ++ y).length ≤ sizeLine ∧ tJs [] (Str.empty ++ s ++ y) σ H1 fun out H2 => Q (.str out) H2) (.str y) H1) ∨
  ∃ i : Int, x = .int i ∧ i.natAbs.log2 < 1920 ∧ (fun (x : V) (H1 : Hp) => ∃ y : Str, x = .str y ∧ (Str.empty ++ s ++ y).length ≤ sizeLine ∧ tJs [] (Str.empty ++ s ++ y) σ H1 fun out H2 => Q (.str out) H2) (.str (toString i)) H1
theorem r_msgF {s : Str} {te : TE} (h1 : s.length ≤ 1000) (h : te σ H fun x H1 => MsgF s σ x H1 Q) : tJoined [tC (.str s), tFmt te] σ H Q := by
  refine ⟨s, rfl, ?_, h⟩
  rw [len_app]
  show 0 + s.length ≤ sizeLine
  have : 1000 ≤ sizeLine := by decide
  omega
theorem r_msgF1 {s z : Str} (h1 : s.length ≤ 1000) (h2 : z.length ≤ 100000) (q : ∀ out, Q (.str out) H) : MsgF s σ (.str z) H Q := by
  refine .inl ⟨z, rfl, Nat.le_trans h2 (by decide), z, rfl, ?_, q _⟩
  rw [len_app, len_app]
  show 0 + s.length + z.length ≤ sizeLine
  have : 101000 ≤ sizeLine := by decide
  omega
end
section
variable {X : Cx} {H : Hp} {Q : VK}
def rMin2 : List V → Hp → VK → Prop := fun xs H Q => ∃ i j, xs = [.int i, .int j] ∧ Q (.int (if j < i then j else i)) H
theorem cMin2 (hc : X.calm = true) : CallR X (.builtin "min") rMin2 := call_min2 hc
theorem r_min2 {i j : Int} (q : Q (.int (if j < i then j else i)) H) : rMin2 [.int i, .int j] H Q := ⟨i, j, rfl, q⟩
theorem atI_end {α : Type} {xs : List α} {v : α} (h : xs[xs.length - 1]? = some v) : atI xs (-1) = some v := by
  have hl : xs.length - 1 < xs.length := (List.getElem?_eq_some_iff.mp h).1
  have e : ixN xs.length (-1) = some (xs.length - 1) := by
    unfold ixN
    rw [if_neg (by decide), if_pos (by omega)]
    congr 1
    omega
  unfold atI
  rw [e]
  exact h
end
/-! ### names and their plain labels -/
theorem plain_name {zs : List Str} (hl : zs.length ≤ 12) (h : ∀ z ∈ zs, plainB z = true) : nameB zs = true := name_yes hl fun i y hy => .inl (h y (List.mem_of_getElem? hy))
theorem name_plain {zs : List Str} (h : nameB zs = true) (hw : wildB zs = false) : ∀ z ∈ zs, plainB z = true := by
  unfold nameB at h
  rw [hw, Bool.and_eq_true, if_neg (by decide)] at h
  exact List.all_eq_true.mp h.2
theorem name_plainW {zs : List Str} (h : nameB zs = true) (hw : wildB zs = true) : ∀ z ∈ zs.dropLast, plainB z = true := by
  unfold nameB at h
  rw [hw, Bool.and_eq_true, if_pos rfl] at h
  exact List.all_eq_true.mp h.2
theorem last_wild {zs : List Str} {y : Str} (h : zs[zs.length - 1]? = some y) : wildB zs = decide (y = "*") := by
  have h1 : 1 ≤ zs.length := by have := (List.getElem?_eq_some_iff.mp h).1; omega
  by_cases e : y = "*"
  · rw [decide_eq_true e, (wild_iff zs).mpr ⟨h1, by rw [h, e]; rfl⟩]
  · rw [decide_eq_false e]
    refine Bool.eq_false_iff.mpr fun w => e ?_
    have := ((wild_iff zs).mp w).2
    rw [h] at this
    exact Option.some.inj this
theorem sl_kA {X : Cx} {K : PySem.W.Frag} (hK : X.K = K) : SlR X (rSlA K) := hK ▸ sl_tupA
/-! ### tuples of names -/
def dT (zs : List Str) : PyData := .tuple (zs.map PyData.str)
/-- out: tuples of texts, as L says -/
def TupsAt (K : PySem.W.Frag) (H : Hp) (out : List V) (L : List (List Str)) : Prop := out.length = L.length ∧ ∀ (i : Nat) (zs : List Str), L[i]? = some zs → ∃ b, out[i]? = some (.ref b) ∧ SqT K H b (zs.map V.str)
theorem TupsAt.ex {K : PySem.W.Frag} {H H' : Hp} {out : List V} {L : List (List Str)} (h : TupsAt K H out L) (e : Same H H') : TupsAt K H' out L := ⟨h.1, fun i zs hi => by
  obtain ⟨b, hb, hs⟩ := h.2 i zs hi
  exact ⟨b, hb, ex_t e hs⟩⟩
theorem TupsAt.all {K : PySem.W.Frag} {H : Hp} : ∀ {out : List V} {L : List (List Str)}, TupsAt K H out L → DpAll K H out (L.map dT)
  | [], [], _ => .nil
  | [], _ :: _, h => by have := h.1; simp at this
  | _ :: _, [], h => by have := h.1; simp at this
  | v :: out, zs :: L, h => by
    obtain ⟨b, hb, hs⟩ := h.2 0 zs rfl
    have : v = .ref b := by simpa using hb
    subst this
    exact .cons (dp_tup hs) (TupsAt.all ⟨by simpa using h.1, fun i zs hi => by simpa using h.2 (i + 1) zs (by simpa using hi)⟩)
theorem dp_tups {K : PySem.W.Frag} {H : Hp} {t : Addr} {out : List V} {L : List (List Str)} (h : SqT K H t out) (hT : TupsAt K H out L) : Dp K H (.ref t) (.tuple (L.map dT)) := .tup h hT.all
theorem pure_tups {L : List (List Str)} (hl : L.length ≤ 10000) (h : ∀ zs ∈ L, zs.length ≤ 10000 ∧ ∀ z ∈ zs, Asc z) : pureD (.tuple (L.map dT)) = true := by
  simp only [pureD, List.length_map, decide_eq_true hl, Bool.true_and]
  refine (pureAll_iff _).mpr fun x hx => ?_
  obtain ⟨zs, hz, rfl⟩ := List.mem_map.mp hx
  exact pure_strs (h zs hz).1 (h zs hz).2
theorem depth_tupsAll : ∀ L : List (List Str), PyData.depthAll (L.map dT) ≤ 1
  | [] => by simp [PyData.depthAll]
  | zs :: L => by
    have h := depth_tupsAll L
    have h2 := depth_tup zs
    simp only [List.map_cons, PyData.depthAll]
    unfold dT at h ⊢
    omega
theorem eqv_tups (L : List (List Str)) : PyData.eqv (.tuple (L.map dT)) (.tuple (L.map dT)) = true := by
  simp only [PyData.eqv]
  refine eqvAll_yes rfl fun i d e h1 h2 => ?_
  rw [h1] at h2
  cases h2
  rw [List.getElem?_map] at h1
  cases hz : L[i]? with
  | none => rw [hz] at h1; cases h1
  | some zs =>
    rw [hz] at h1
    cases h1
    unfold dT
    rw [eqv_strs]
    simp
/-- _law_same of the same names -/
theorem r_same_tups {K : PySem.W.Frag} {H : Hp} {Q : VK} {a b : Addr} {xs ys : List V} {L : List (List Str)} {n : Nat} (h1 : SqT K H a xs) (h2 : SqT K H b ys) (t1 : TupsAt K H xs L) (t2 : TupsAt K H ys L) (hl : L.length ≤ 10000) (h : ∀ zs ∈ L, zs.length ≤ 10000 ∧ ∀ z ∈ zs, Asc z)
    (q : Q (.bl true) H) : spSame K (n + 3) [.ref a, .ref b] H Q E0 :=
  ⟨_, _, _, _, rfl, dp_tups h1 t1, dp_tups h2 t2, pure_tups hl h, pure_tups hl h, by
    have := depth_tupsAll L
    simp only [PyData.depth]
    omega, by rw [eqv_tups]; exact q⟩
end My

set_option Elab.async false
set_option linter.all false
set_option maxRecDepth 100000
set_option maxHeartbeats 4000000
namespace My
open PySem PySem.Spec PyProof.Rows L2 PySem.W
open C8 (tCut pss_cut)
/-! ### order of data of one form -/
section
variable {X : Cx}
def rLtD (K : PySem.W.Frag) : R2 := fun x y H Q => ∃ d e, Dp K H x d ∧ Dp K H y e ∧ alike d e = true ∧ d ≠ .none ∧ d.depth ≤ 64 ∧ Q (.bl (dataLt d e)) H
def rLeD (K : PySem.W.Frag) : R2 := fun x y H Q => ∃ d e, Dp K H x d ∧ Dp K H y e ∧ alike d e = true ∧ d ≠ .none ∧ d.depth ≤ 64 ∧ Q (.bl (!dataLt e d)) H
def rGtD (K : PySem.W.Frag) : R2 := fun x y H Q => ∃ d e, Dp K H x d ∧ Dp K H y e ∧ alike d e = true ∧ d ≠ .none ∧ d.depth ≤ 64 ∧ Q (.bl (dataLt e d)) H
def rGeD (K : PySem.W.Frag) : R2 := fun x y H Q => ∃ d e, Dp K H x d ∧ Dp K H y e ∧ alike d e = true ∧ d ≠ .none ∧ d.depth ≤ 64 ∧ Q (.bl (!dataLt d e)) H
theorem op_ltD (hu : X.A.units + 64 < cLine) : OpR X (compareOp .Lt) (rLtD X.K) := by
  intro pins s σ H x y v u Q I rx ry h
  obtain ⟨d, e, hd, he, ha, hn, hz, q⟩ := h
  obtain ⟨as, r1⟩ := Dp.reads I d x v hd rx
  obtain ⟨bs, r2⟩ := Dp.reads I e y u he ry
  exact lt_data r1 r2 ha hn (by omega) ⟨.bl _, H, I, rfl, q⟩
theorem op_leD (hu : X.A.units + 64 < cLine) : OpR X (compareOp .LtE) (rLeD X.K) := by
  intro pins s σ H x y v u Q I rx ry h
  obtain ⟨d, e, hd, he, ha, hn, hz, q⟩ := h
  obtain ⟨as, r1⟩ := Dp.reads I d x v hd rx
  obtain ⟨bs, r2⟩ := Dp.reads I e y u he ry
  exact le_data r1 r2 ha hn (by omega) ⟨.bl _, H, I, rfl, q⟩
theorem op_gtD (hu : X.A.units + 64 < cLine) : OpR X (compareOp .Gt) (rGtD X.K) := by
  intro pins s σ H x y v u Q I rx ry h
  obtain ⟨d, e, hd, he, ha, hn, hz, q⟩ := h
  obtain ⟨as, r1⟩ := Dp.reads I d x v hd rx
  obtain ⟨bs, r2⟩ := Dp.reads I e y u he ry
  exact gt_data r1 r2 ha hn (by omega) ⟨.bl _, H, I, rfl, q⟩
theorem op_geD (hu : X.A.units + 64 < cLine) : OpR X (compareOp .GtE) (rGeD X.K) := by
  intro pins s σ H x y v u Q I rx ry h
  obtain ⟨d, e, hd, he, ha, hn, hz, q⟩ := h
  obtain ⟨as, r1⟩ := Dp.reads I d x v hd rx
  obtain ⟨bs, r2⟩ := Dp.reads I e y u he ry
  exact ge_data r1 r2 ha hn (by omega) ⟨.bl _, H, I, rfl, q⟩
end
/-! ### sorted(xs) of tuples, the empty one among them -/
section
open PySem.SeqAt
variable {prog : Program} {w : World} {A : Around} {E : Value → Shared → Prop} {s : Shared}
theorem call_tup_lt {Q : Value → Shared → Prop} {l b : Addr} {items items2 : Array Value} {e r : Nat → Bool} (hl : s.heap.IsTuple l items) (hb : s.heap.IsTuple b items2)
    (he : ∀ j (h1 : j < items.size) (h2 : j < items2.size), EqAt A.in1 s items[j] items2[j] (e j)) (hr : ∀ j (h1 : j < items.size) (h2 : j < items2.size), e j = false → RcLt A.in1 s items[j] items2[j] (r j))
    (h : Q (.bool (firstLt e r (decide (items.size < items2.size)) (List.range (min items.size items2.size)))) s) : wpAny (model prog w) A (call (.builtin "tuple.__lt__") [.ref l, .ref b]) Q E s := by
  obtain ⟨⟨cls, dd, data, sl⟩, ho, hc, n, hd⟩ := id hl
  obtain ⟨⟨cls2, dd2, data2, sl2⟩, ho2, hc2, n2, hd2⟩ := id hb
  simp only at hc hd hc2 hd2
  subst hc hd hc2 hd2
  exact call_meets F.slot_tuple_lt ⟨_, ho, rfl⟩ F.entry_tuple_lt (F.args_tuple_lt_2 _ _) (tuple_ltAt l b items items2 n n2 dd dd2 sl sl2 e r) ⟨ho, ho2, he, hr, h⟩
theorem oneLt_tups {f : Bool} {xs ys : List PyData} {a b : Value} {as bs : List Addr} {Q : Bool → Shared → Prop} (ra : Reads s.heap a (.tuple xs) as) (rb : Reads s.heap b (.tuple ys) bs) (h : alike (.tuple xs) (.tuple ys) = true)
    (hu : A.units + min (PyData.tuple xs).depth (PyData.tuple ys).depth < cLine) (hq : Q (dataLt (.tuple xs) (.tuple ys)) s) : wpAny (model prog w) A (oneLt' f a b) Q E s := by
  cases f with
  | false =>
    rw [oneLt'_eq]
    simp only [Bool.false_eq_true, if_false]
    exact wpAny_bind (rcLt_alike _ _ A s a b as bs ra rb h (by intro z; cases z) hu prog w E _ (wpAny_truthy_bool hq))
  | true =>
    have hal : alikeAll xs ys = true := by simpa [alike] using h
    cases ra with
    | @tuple l o vs n _ as₁ h1 h2 h3 h4 =>
      cases rb with
      | @tuple l' o' vs' n' _ bs₁ k1 k2 k3 k4 =>
        have n1 : vs.size = xs.length := by simpa using SeqAt.ReadsAll.length _ _ _ h4
        have n2 : vs'.size = ys.length := by simpa using SeqAt.ReadsAll.length _ _ _ k4
        rw [dataLt_tuple, ← firstLt_toks xs ys hal, ← n1, ← n2] at hq
        rw [oneLt'_eq]
        simp only [if_true]
        refine wpAny_bind (wpAny_cRoomFor (room_here hu) ?_)
        refine wpAny_bind (wpAny_callSpecialIfBound?_slot (T := "tuple") ⟨_, h1, h2⟩ F.slot_tuple_lt (call_tup_lt (e := pairEq xs ys) (r := fun j => dataLt (xs.getD j .none) (ys.getD j .none)) ⟨_, h1, h2, _, h3⟩ ⟨_, k1, k2, _, k3⟩ (fun j j1 j2 => ?_) (fun j j1 j2 hj => ?_) ?_))
        · have := eqAt_alikeAll xs ys A.in1 s vs.toList vs'.toList _ _ h4 k4 hal (room_in hu) j (by simpa using j1) (by simpa using j2)
          simpa using this
        · have := rcLt_alikeAll xs ys A.in1 s vs.toList vs'.toList _ _ h4 k4 hal (room_in hu) j (by simpa using j1) (by simpa using j2) hj
          simpa using this
        · exact wpAny_truthy_bool hq
theorem keyLt_general (x y : Value) : keyLt' general' x y = oneLt' false x y := rfl
/-- the first items of the keys -/
def firstD : PyData → Bool
  | .tuple (_ :: _) => true
  | _ => false
theorem firsts_reads : ∀ (vs : List Value) (ds : List PyData) {Q : List (Option Value) → Shared → Prop}, EachIs (fun v d => ∃ as, Reads s.heap v d as) vs ds → (∀ d ∈ ds, ∃ xs, d = .tuple xs) →
    (∀ fs : List (Option Value), fs.map (·.isSome) = ds.map firstD → Q fs s) → wpAny (model prog w) A (vs.mapM firstOfTuple') Q E s
  | [], ds, Q, e, ht, h => by
    cases e
    rw [List.mapM_nil]
    exact wpAny_pure (h [] rfl)
  | v :: vs, ds, Q, e, ht, h => by
    cases e with
    | @cons _ d _ ds h1 t =>
      obtain ⟨as, r⟩ := h1
      obtain ⟨xs, rfl⟩ := ht d List.mem_cons_self
      cases r with
      | @tuple a o xs' n _ _ ho hc hd hr =>
        rw [List.mapM_cons]
        refine wpAny_bind ?_
        rw [kas_first_eq]
        refine wpAny_bind (Looks.here (show Looks (model prog w) s.heap (typeOf (.ref a)) o.cls from (Looks.ld ho).andThen .now) ?_)
        rw [hc, if_neg (by first | decide | simp)]
        refine wpAny_bind (listItems_at ho hd (wpAny_pure ?_))
        have hz : xs'.size = xs.length := by simpa using SeqAt.ReadsAll.length _ _ _ hr
        refine wpAny_bind (firsts_reads vs ds (Q := fun bs s' => wpAny (model prog w) A (pure (xs'[0]? :: bs)) Q E s') t (fun d hd => ht d (List.mem_cons_of_mem _ hd)) fun fs hf => wpAny_pure (h _ ?_))
        rw [List.map_cons, List.map_cons, hf]
        congr 1
        cases xs with
        | nil =>
          have : xs'[0]? = none := Array.getElem?_eq_none (by rw [hz]; simp)
          rw [this]; rfl
        | cons x xs =>
          have h0 : 0 < xs'.size := by rw [hz]; simp
          rw [Array.getElem?_eq_getElem h0]; rfl
theorem allAlike_tail {d : PyData} {ds : List PyData} (h : AllAlike (d :: ds)) : AllAlike ds := fun x hx y hy => h x (List.mem_cons_of_mem _ hx) y (List.mem_cons_of_mem _ hy)
/-- tuples that are alike can be sorted, whatever their lengths -/
theorem sortsAt_tups {vs : List Value} {ds : List PyData} (e : EachIs (fun v d => ∃ as, Reads s.heap v d as) vs ds) (hal : AllAlike ds) (ht : ∀ d ∈ ds, ∃ xs, d = .tuple xs) (hu : ∀ d, d ∈ ds → A.units + d.depth < cLine) : SortsAt prog w A s (dataKind s.heap ds) vs := by
  by_cases hall : ∀ d ∈ ds, firstD d = true
  · refine SortsAt.data e hal (.inl fun d hd => ?_) hu
    obtain ⟨xs, rfl⟩ := ht d hd
    cases xs with
    | nil => have := hall _ hd; cases this
    | cons x r => exact ⟨x, r, rfl⟩
  have room : ∀ {d d' : PyData}, d ∈ ds → A.units + min d.depth d'.depth < cLine := fun {d d'} hd => Nat.lt_of_le_of_lt (Nat.add_le_add_left (Nat.min_le_left _ _) _) (hu d hd)
  have hlt : ∀ f : Bool, ∀ E : Value → Shared → Prop, ∀ (x y : Value) (a b : (dataKind s.heap ds).α) {Q : Bool → Shared → Prop}, (dataKind s.heap ds).keyOf x = some a → (dataKind s.heap ds).keyOf y = some b → Q ((dataKind s.heap ds).blt a b) s → wpAny (model prog w) A (oneLt' f x y) Q E s := by
    intro f E x y a b Q ha hb hq
    obtain ⟨d, as, hd, ra, rfl⟩ := dataKind_inv ha
    obtain ⟨d', as', hd', rb, rfl⟩ := dataKind_inv hb
    obtain ⟨x1, rfl⟩ := ht d hd
    obtain ⟨x2, rfl⟩ := ht d' hd'
    exact oneLt_tups ra rb (hal _ hd _ hd') (room hd) hq
  refine ⟨fun v hv => ?_, ?_⟩
  · obtain ⟨d, hd, as, r⟩ := e.left v hv
    exact ⟨_, dataKind_some hal hd r⟩
  have hno : ∀ fs : List (Option Value), fs.map (·.isSome) = ds.map firstD → (fs.toArray.all fun x => x.isSome) = false := fun fs hf => by
    rw [Bool.eq_false_iff]
    intro h
    refine hall fun d hd => ?_
    rw [List.all_toArray, List.all_eq_true] at h
    have hm : firstD d ∈ fs.map (·.isSome) := by rw [hf]; exact List.mem_map_of_mem hd
    obtain ⟨x, hx, e1⟩ := List.mem_map.mp hm
    rw [← e1]
    exact h x hx
  cases ds with
  | nil => exact absurd (fun d hd => by cases hd) hall
  | cons d₀ ds₀ =>
    cases hf0 : firstD d₀ with
    | true =>
      refine ⟨general', fun E x y a b Q ha hb hq => ?_, fun h2 E Q hq => ?_⟩
      · rw [keyLt_general]
        exact hlt false E x y a b ha hb hq
      · rw [keyKind'_eq, List.mapM_toArray, map_eq_pure_bind]
        refine wpAny_bind (wpAny_bind (firsts_reads vs _ e ht fun fs hf => wpAny_pure ?_))
        rw [if_neg (by rw [hno fs hf]; decide)]
        cases fs with
        | nil => simp at hf
        | cons f fs =>
          have e1 : f.isSome = true := by rw [List.map_cons, List.map_cons] at hf; rw [(List.cons.inj hf).1, hf0]
          rw [if_pos (by simpa using e1)]
          exact wpAny_pure hq
    | false =>
      refine ⟨oneType', fun E x y a b Q ha hb hq => ?_, fun h2 E Q hq => ?_⟩
      · rw [keyLt'_oneType]
        exact hlt true E x y a b ha hb hq
      · obtain ⟨v₁, v₂, rest, rfl⟩ : ∃ v₁ v₂ rest, vs = v₁ :: v₂ :: rest := by
          match vs, h2 with
          | [], h2 => simp at h2
          | [_], h2 => simp at h2
          | v₁ :: v₂ :: rest, _ => exact ⟨v₁, v₂, rest, rfl⟩
        rw [keyKind'_eq, List.mapM_toArray, map_eq_pure_bind]
        refine wpAny_bind (wpAny_bind (firsts_reads _ _ e ht fun fs hf => wpAny_pure ?_))
        rw [if_neg (by rw [hno fs hf]; decide)]
        cases fs with
        | nil => simp at hf
        | cons f fs =>
          have e1 : f.isSome = false := by rw [List.map_cons, List.map_cons] at hf; rw [(List.cons.inj hf).1, hf0]
          rw [if_neg (by simpa using e1)]
          rw [oneTypeOnly'_eq, List.mapM_toArray, map_eq_pure_bind]
          refine wpAny_bind (wpAny_bind (wpAny_bind (kas_mapM (r := Value.type "tuple") _ (fun v hv Q' hq => ?_) (wpAny_pure ?_))))
          · obtain ⟨d, hd, as, r⟩ := e.left v hv
            obtain ⟨xs, rfl⟩ := ht d hd
            exact (show Looks (model prog w) s.heap (typeOf v) (.type "tuple") from looks_reads r).here hq
          · have hall : ((List.map (fun _ => Value.type "tuple") (v₁ :: v₂ :: rest)).toArray.all fun x => x == Value.type "tuple") = true := by
              simp only [List.all_toArray, List.all_map, List.all_eq_true]
              intro _ _
              exact beq_self_eq_true _
            have h0 : (List.map (fun _ => Value.type "tuple") (v₁ :: v₂ :: rest)).toArray[0]? = some (Value.type "tuple") := by simp
            rw [h0]
            simp only [hall, if_true]
            exact wpAny_pure (wpAny_pure hq)
/-- all are tuples, or none is a tuple or None -/
def SortableT (ds : List PyData) : Prop := (∀ d ∈ ds, ∃ xs, d = .tuple xs) ∨ ∀ d ∈ ds, d ≠ .none ∧ ∀ xs, d ≠ .tuple xs
theorem sortsAt_data {vs : List Value} {ds : List PyData} (e : EachIs (fun v d => ∃ as, Reads s.heap v d as) vs ds) (hal : AllAlike ds) (hk : SortableT ds) (hu : ∀ d, d ∈ ds → A.units + d.depth < cLine) : SortsAt prog w A s (dataKind s.heap ds) vs := by
  rcases hk with h | h
  · exact sortsAt_tups e hal h hu
  · exact SortsAt.data e hal (.inr h) hu
theorem sorted_dataT {R : Value → PyData → Prop} {ds : List PyData} {vs : List Value} {l : Addr} {Q : Value → Shared → Prop} (hl : s.heap.IsList l vs.toArray) (e : EachIs R vs ds) (er : EachIs (fun v d => ∃ as, Reads s.heap v d as) vs ds) (hal : AllAlike ds) (hk : SortableT ds) (hL : ds.length ≤ sizeLine)
    (hu : ∀ d, d ∈ ds → A.units + 2 + d.depth < cLine) (h : ∀ out, out.length = ds.length → EachIs R out (ds.mergeSort (dataLe false id)) → Q (.ref (s.heap.objs.size + 1)) { s with heap := sortedAll s.heap vs (List.toArray out) }) :
    wpAny (model prog w) A (call (.builtin "sorted") [.ref l]) Q E s := by
  have er' : EachIs (fun v b => ∃ as, Reads (sortingHeap (copyHeap s.heap vs) (s.heap.objs.size + 1) vs) v b as) vs ds := er.mono fun _ _ ⟨as, r⟩ => ⟨as, PyProof.Rows.Reads.keeps (fun _ _ => sorting_copy_old) r⟩
  have em : ds.map id = ds := List.map_id ds
  have hal' : AllAlike (ds.map id) := by rw [em]; exact hal
  refine sorted_vals hl (sortsAt_data (s := { s with heap := sortingHeap (copyHeap s.heap vs) (s.heap.objs.size + 1) vs }) er' hal hk fun d hd => ?_) (by rw [e.length]; exact hL) (h _ (by rw [sortVals_length false rfl]; exact e.length) ?_)
  · have := hu d hd
    first | exact this | (show A.in1.in1.units + _ < _; exact this)
  · have := sortVals_data (h' := sortingHeap (copyHeap s.heap vs) (s.heap.objs.size + 1) vs) (enc := id) false e er' hal'
    rw [em] at this
    exact this
end
section
variable {X : Cx}
theorem vals_of_each {K : PySem.W.Frag} {H : Hp} : ∀ {out : List Value} {ds : List PyData}, EachIs (fun v d => ∃ y, RelV y v ∧ Dp K H y d) out ds → ∃ ys, Vals ys out ∧ DpAll K H ys ds
  | _, _, .nil => ⟨[], .nil, .nil⟩
  | _, _, .cons ⟨y, r, h⟩ t => by
    obtain ⟨ys, r2, h2⟩ := vals_of_each t
    exact ⟨y :: ys, .cons r r2, .cons h h2⟩
theorem each_of_vals {K : PySem.W.Frag} {H : Hp} : ∀ {xs : List V} {vs : List Value} {ds : List PyData}, Vals xs vs → DpAll K H xs ds → EachIs (fun v d => ∃ y, RelV y v ∧ Dp K H y d) vs ds
  | _, _, _, .nil, .nil => .nil
  | _, _, _, .cons r t, .cons h u => .cons ⟨_, r, h⟩ (each_of_vals t u)
/-- sorted(xs), xs a list of data that are alike -/
def rSortD (K : PySem.W.Frag) : List V → Hp → VK → Prop := fun vs H Q => ∃ (a : Addr) (xs : List V) (ds : List PyData), vs = [V.ref a] ∧ SqL K H a xs ∧ DpAll K H xs ds ∧ AllAlike ds ∧ SortableT ds ∧ (∀ d ∈ ds, d.depth ≤ 60) ∧
  ∀ (ys : List V) (p : Addr), DpAll K H ys (ds.mergeSort (dataLe false id)) → H p = none → Q (.ref p) (upd H p (.lst ys))
theorem cr_sortedD (hu : X.A.units + 64 < cLine) : CallR X (.builtin "sorted") (rSortD X.K) := by
  intro pins s σ H vs us Q I r h
  obtain ⟨a, xs, ds, rfl, hs, hx, hal, hk, hz, q⟩ := h
  obtain ⟨its, rv, hl, hsz⟩ := I.list hs
  obtain ⟨u, rfl, ru⟩ := vals1 r
  obtain rfl : u = Value.ref a := ru
  have el : xs.length = ds.length := dpAll_len hx
  have e1 := each_of_vals rv hx
  refine sorted_dataT (R := fun v d => ∃ y, RelV y v ∧ Dp X.K H y d) hl.isList e1 (e1.mono fun v d ⟨y, r, h⟩ => Dp.reads I d y v h r) hal hk (by rw [← el]; exact hsz) (fun d hd => by have := hz d hd; omega) fun out ho h2 => ?_
  obtain ⟨ys, r2, h3⟩ := vals_of_each h2
  obtain ⟨n, hn⟩ := sortedAll_at s.heap its (List.toArray out)
  refine ⟨.ref (s.heap.objs.size + 1), upd H (s.heap.objs.size + 1) (.lst ys), I.laid (t' := s.toks) (fun b o e => sortedAll_old e) (Nat.le_succ _) ⟨?_, out, n, r2, hn⟩, rfl, q ys _ h3 (I.hok.fresh (Nat.le_succ _))⟩
  rw [r2.length, ho, ← el]
  exact hsz
end
section
variable {K : PySem.W.Frag} {H : Hp} {Q : VK}
theorem r_sortD {a : Addr} {xs : List V} {ds : List PyData} (hs : SqL K H a xs) (hx : DpAll K H xs ds) (hal : AllAlike ds) (hk : SortableT ds) (hz : ∀ d ∈ ds, d.depth ≤ 60)
    (q : ∀ (ys : List V) (p : Addr) H2, DpAll K H ys (ds.mergeSort (dataLe false id)) → H p = none → Same H H2 → H2 p = some (.lst ys) → Q (.ref p) H2) : rSortD K [.ref a] H Q :=
  ⟨a, xs, ds, rfl, hs, hx, hal, hk, hz, fun ys p h hp => q ys p _ h hp (ex_new hp) upd_same⟩
/-! ### names in order -/
/-- tuples of texts, the lesser -/
def ltN (xs ys : List Str) : Bool := dataLt (dT xs) (dT ys)
theorem alike_strs : ∀ xs ys : List Str, alikeAll (xs.map PyData.str) (ys.map PyData.str) = true
  | [], _ => by simp [alikeAll]
  | _ :: _, [] => by simp [alikeAll]
  | x :: xs, y :: ys => by
    simp only [List.map_cons, alikeAll, alike_strs xs ys, alike, Bool.and_self]
theorem alike_dT (xs ys : List Str) : alike (dT xs) (dT ys) = true := by
  unfold dT
  simp only [alike]
  exact alike_strs xs ys
theorem r_ltTS {a b : Addr} {xs ys : List Str} (h1 : SqT K H a (xs.map V.str)) (h2 : SqT K H b (ys.map V.str)) (q : Q (.bl (ltN xs ys)) H) : rLtD K (.ref a) (.ref b) H Q :=
  ⟨_, _, dp_tup h1, dp_tup h2, alike_dT _ _, (by intro z; cases z), by have := depth_tup xs; omega, q⟩
theorem r_leTS {a b : Addr} {xs ys : List Str} (h1 : SqT K H a (xs.map V.str)) (h2 : SqT K H b (ys.map V.str)) (q : Q (.bl (!ltN ys xs)) H) : rLeD K (.ref a) (.ref b) H Q :=
  ⟨_, _, dp_tup h1, dp_tup h2, alike_dT _ _, (by intro z; cases z), by have := depth_tup xs; omega, q⟩
theorem r_gtTS {a b : Addr} {xs ys : List Str} (h1 : SqT K H a (xs.map V.str)) (h2 : SqT K H b (ys.map V.str)) (q : Q (.bl (ltN ys xs)) H) : rGtD K (.ref a) (.ref b) H Q :=
  ⟨_, _, dp_tup h1, dp_tup h2, alike_dT _ _, (by intro z; cases z), by have := depth_tup xs; omega, q⟩
theorem r_geTS {a b : Addr} {xs ys : List Str} (h1 : SqT K H a (xs.map V.str)) (h2 : SqT K H b (ys.map V.str)) (q : Q (.bl (!ltN xs ys)) H) : rGeD K (.ref a) (.ref b) H Q :=
  ⟨_, _, dp_tup h1, dp_tup h2, alike_dT _ _, (by intro z; cases z), by have := depth_tup xs; omega, q⟩
/-- texts, the lesser -/
def ltS (x y : Str) : Bool := decide (x.cps.toList < y.cps.toList)
theorem ltN_cons (x y : Str) (xs ys : List Str) : ltN (x :: xs) (y :: ys) = if x = y then ltN xs ys else ltS x y := by
  unfold ltN dT ltS
  rw [dataLt_tuple, dataLt_tuple, List.map_cons, List.map_cons, dataLt_cons (by simp [alike])]
  rw [dataLt_str]
  by_cases h : x = y
  · rw [if_pos h, if_pos (by simp [PyData.eqv, h])]
  · rw [if_neg h, if_neg (by simp [PyData.eqv, h])]
theorem ltN_nil_cons (y : Str) (ys : List Str) : ltN [] (y :: ys) = true := by
  unfold ltN dT
  rw [dataLt_tuple, List.map_cons, toks_all_cons]
  simp only [List.map_nil, keyToksAll]
  rw [lex_diff (O := itemOrd) (by simp)]
  first | rfl | decide | simp [itemOrd, itemLt]
theorem ltN_nil (xs : List Str) : ltN xs [] = false := by
  cases xs with
  | nil =>
    unfold ltN
    exact lex_irrefl _
  | cons x xs =>
    unfold ltN dT
    rw [dataLt_tuple, List.map_cons, toks_all_cons]
    simp only [List.map_nil, keyToksAll]
    rw [lex_diff (O := itemOrd) (by simp)]
    first | rfl | decide | simp [itemOrd, itemLt]
theorem ltS_irrefl (x : Str) : ltS x x = false := by
  unfold ltS
  exact decide_eq_false (List.lt_irrefl _)
theorem ltS_trans {x y z : Str} (h1 : ltS x y = true) (h2 : ltS y z = true) : ltS x z = true := by
  unfold ltS at *
  rw [decide_eq_true_iff] at *
  exact List.lt_trans h1 h2
theorem ltS_total {x y : Str} (h : x ≠ y) : ltS x y = true ∨ ltS y x = true := by
  unfold ltS
  simp only [decide_eq_true_iff]
  have hne : x.cps.toList ≠ y.cps.toList := fun e => h (TL.ext_tl e)
  by_cases h1 : x.cps.toList < y.cps.toList
  · exact .inl h1
  · by_cases h2 : y.cps.toList < x.cps.toList
    · exact .inr h2
    · exact absurd (List.le_antisymm (List.not_lt.mp h2) (List.not_lt.mp h1)) hne
theorem ltS_asymm {x y : Str} (h : ltS x y = true) : ltS y x = false := by
  cases e : ltS y x with
  | false => rfl
  | true =>
    have := ltS_trans h e
    rw [ltS_irrefl] at this
    cases this
theorem ltN_irrefl : ∀ xs : List Str, ltN xs xs = false
  | [] => ltN_nil []
  | x :: xs => by rw [ltN_cons, if_pos rfl, ltN_irrefl xs]
theorem ltN_trans : ∀ {xs ys zs : List Str}, ltN xs ys = true → ltN ys zs = true → ltN xs zs = true
  | [], [], _, h, _ => by rw [ltN_nil] at h; cases h
  | _ :: _, [], _, h, _ => by rw [ltN_nil] at h; cases h
  | _, _ :: _, [], _, h => by rw [ltN_nil] at h; cases h
  | [], _ :: _, z :: zs, _, _ => ltN_nil_cons z zs
  | x :: xs, y :: ys, z :: zs, h1, h2 => by
    rw [ltN_cons] at h1 h2 ⊢
    by_cases e1 : x = y
    · rw [if_pos e1] at h1
      subst e1
      by_cases e2 : x = z
      · rw [if_pos e2] at h2 ⊢
        exact ltN_trans h1 h2
      · rw [if_neg e2] at h2 ⊢
        exact h2
    · rw [if_neg e1] at h1
      by_cases e2 : y = z
      · subst e2
        rw [if_neg e1]
        exact h1
      · rw [if_neg e2] at h2
        have h3 := ltS_trans h1 h2
        by_cases e3 : x = z
        · subst e3
          rw [ltS_irrefl] at h3
          cases h3
        · rw [if_neg e3]
          exact h3
theorem ltN_total : ∀ {xs ys : List Str}, xs ≠ ys → ltN xs ys = true ∨ ltN ys xs = true
  | [], [], h => absurd rfl h
  | [], y :: ys, _ => .inl (ltN_nil_cons y ys)
  | x :: xs, [], _ => .inr (ltN_nil_cons x xs)
  | x :: xs, y :: ys, h => by
    rw [ltN_cons, ltN_cons]
    by_cases e : x = y
    · rw [if_pos e, if_pos e.symm]
      exact ltN_total fun z => h (by rw [e, z])
    · rw [if_neg e, if_neg fun z => e z.symm]
      exact ltS_total e
theorem ltN_asymm {xs ys : List Str} (h : ltN xs ys = true) : ltN ys xs = false := by
  cases e : ltN ys xs with
  | false => rfl
  | true =>
    have := ltN_trans h e
    rw [ltN_irrefl] at this
    cases this
/-- x ≤ y -/
theorem leN_iff {xs ys : List Str} : ltN ys xs = false ↔ xs = ys ∨ ltN xs ys = true := by
  constructor
  · intro h
    by_cases e : xs = ys
    · exact .inl e
    · rcases ltN_total e with h1 | h1
      · exact .inr h1
      · rw [h] at h1; cases h1
  · rintro (rfl | h)
    · exact ltN_irrefl _
    · exact ltN_asymm h
theorem ltN_app : ∀ p xs ys : List Str, ltN (p ++ xs) (p ++ ys) = ltN xs ys
  | [], _, _ => rfl
  | x :: p, xs, ys => by rw [List.cons_append, List.cons_append, ltN_cons, if_pos rfl, ltN_app p]
end
/-! ### sorted lists of names, membership -/
section
variable {X : Cx}
def rMax2 : List V → Hp → VK → Prop := fun xs H Q => ∃ i j, xs = [.int i, .int j] ∧ Q (.int (if j > i then j else i)) H
theorem cMax2 (hc : X.calm = true) : CallR X (.builtin "max") rMax2 := call_max2 hc
end
theorem units65 {k : Nat} {A : Around} (r : Room k A) : A.units + 65 < cLine := by have := r.un; omega
section
variable {K : PySem.W.Frag} {H : Hp} {Q : VK}
theorem r_max2 {i j : Int} (q : Q (.int (if j > i then j else i)) H) : rMax2 [.int i, .int j] H Q := ⟨i, j, rfl, q⟩
theorem all_dT {L : List (List Str)} {d : PyData} (h : d ∈ L.map dT) : ∃ zs ∈ L, d = dT zs := by
  obtain ⟨zs, hz, rfl⟩ := List.mem_map.mp h
  exact ⟨zs, hz, rfl⟩
theorem dp_inv {v : V} {zs : List Str} (h : Dp K H v (dT zs)) : ∃ b, v = .ref b ∧ SqT K H b (zs.map V.str) := by
  unfold dT at h
  have key : ∀ (xs : List V) (zs : List Str), DpAll K H xs (zs.map PyData.str) → xs = zs.map V.str := by
    intro xs zs
    induction zs generalizing xs with
    | nil => intro h; cases h; rfl
    | cons z zs ih =>
      intro h
      cases h with
      | cons h1 h2 =>
        cases h1
        rw [ih _ h2]; rfl
  cases h with
  | tup hs ha => exact ⟨_, rfl, by rw [← key _ _ ha]; exact hs⟩
theorem TupsAt.of {out : List V} {L : List (List Str)} (h : DpAll K H out (L.map dT)) : TupsAt K H out L := by
  refine ⟨by have := dpAll_len h; simpa using this, fun i zs hi => ?_⟩
  obtain ⟨v, hv, hd⟩ := dpAll_get h (i := i) (d := dT zs) (by rw [List.getElem?_map, hi]; rfl)
  obtain ⟨b, rfl, hb⟩ := dp_inv hd
  exact ⟨b, hv, hb⟩
def leN (xs ys : List Str) : Bool := !ltN ys xs
theorem leN_trans {a b c : List Str} (h1 : leN a b = true) (h2 : leN b c = true) : leN a c = true := by
  unfold leN at *
  simp only [Bool.not_eq_true'] at *
  rcases leN_iff.mp h1 with rfl | h1
  · exact h2
  · rcases leN_iff.mp h2 with rfl | h2
    · exact ltN_asymm h1
    · exact ltN_asymm (ltN_trans h1 h2)
theorem leN_total (a b : List Str) : (leN a b || leN b a) = true := by
  unfold leN
  cases h : ltN b a with
  | false => rfl
  | true => rw [ltN_asymm h]; rfl
def sortN (L : List (List Str)) : List (List Str) := L.mergeSort leN
theorem sortN_perm (L : List (List Str)) : (sortN L).Perm L := List.mergeSort_perm L leN
theorem sortN_sorted (L : List (List Str)) : (sortN L).Pairwise fun a b => leN a b = true := List.pairwise_mergeSort (le := leN) (fun _ _ _ h1 h2 => leN_trans h1 h2) (fun a b => leN_total a b) L
/-- sorted(names) -/
theorem r_sortN {a : Addr} {xs : List V} {L : List (List Str)} (hs : SqL K H a xs) (hx : TupsAt K H xs L)
    (q : ∀ (ys : List V) (p : Addr) H2, TupsAt K H2 ys (sortN L) → H p = none → Same H H2 → H2 p = some (.lst ys) → Q (.ref p) H2) : rSortD K [.ref a] H Q := by
  refine r_sortD hs hx.all (fun d hd d' hd' => ?_) (.inl fun d hd => ?_) (fun d hd => ?_) fun ys p H2 h1 hp e h2 => q ys p H2 ?_ hp e h2
  · obtain ⟨x, _, rfl⟩ := all_dT hd
    obtain ⟨y, _, rfl⟩ := all_dT hd'
    exact alike_dT x y
  · obtain ⟨x, _, rfl⟩ := all_dT hd
    exact ⟨_, rfl⟩
  · obtain ⟨x, _, rfl⟩ := all_dT hd
    have := depth_tup x
    unfold dT
    omega
  · refine TupsAt.ex (TupsAt.of ?_) e
    unfold sortN
    have e : (L.mergeSort leN).map dT = (L.map dT).mergeSort (dataLe false id) := sort_maps dT fun a _ b _ => rfl
    rw [e]
    exact h1
theorem any_dT (L : List (List Str)) (zs : List Str) : ((L.map dT).any fun z => PyData.eqv z (dT zs)) = decide (zs ∈ L) := by
  induction L with
  | nil => simp
  | cons y L ih =>
    rw [List.map_cons, List.any_cons, ih]
    unfold dT
    rw [eqv_strs]
    by_cases h : y = zs
    · subst h; simp
    · simp [h]
      intro e
      exact absurd e.symm h
theorem shaped_dT {zs : List Str} (h : ∀ z ∈ zs, Asc z) : SeqAt.shaped (dT zs) = true := shaped_strs h
theorem shaped_dTs {L : List (List Str)} (h : ∀ zs ∈ L, ∀ z ∈ zs, Asc z) : SeqAt.shaped (.list (L.map dT)) = true := by
  unfold SeqAt.shaped
  rw [Bool.and_eq_true]
  refine ⟨?_, decide_eq_true ?_⟩
  · simp only [PyData.canLay0]
    induction L with
    | nil => simp [PyData.canLayAll0]
    | cons y L ih =>
      have h1 : (dT y).canLay0 = true := by
        have := shaped_dT (h y List.mem_cons_self)
        unfold SeqAt.shaped at this
        rw [Bool.and_eq_true] at this
        exact this.1
      rw [List.map_cons]
      simp only [PyData.canLayAll0, h1, ih fun zs hz => h zs (List.mem_cons_of_mem _ hz), Bool.and_self]
  · have := depth_tupsAll L
    simp only [PyData.depth]
    omega
theorem r_notInTS {a b : Addr} {out : List V} {L : List (List Str)} {zs : List Str} (hx : SqT K H b (zs.map V.str)) (hs : SqL K H a out) (hL : TupsAt K H out L) (o1 : ∀ z ∈ zs, Asc z) (o2 : ∀ zs ∈ L, ∀ z ∈ zs, Asc z) (q : Q (.bl (!decide (zs ∈ L))) H) : rNotInD K (.ref b) (.ref a) H Q :=
  ⟨dT zs, L.map dT, dp_tup hx, .lst hs hL.all, shaped_dT o1, shaped_dTs o2, by rw [any_dT]; exact q⟩
theorem r_inTS {a b : Addr} {out : List V} {L : List (List Str)} {zs : List Str} (hx : SqT K H b (zs.map V.str)) (hs : SqL K H a out) (hL : TupsAt K H out L) (o1 : ∀ z ∈ zs, Asc z) (o2 : ∀ zs ∈ L, ∀ z ∈ zs, Asc z) (q : Q (.bl (decide (zs ∈ L))) H) : rInD K (.ref b) (.ref a) H Q :=
  ⟨dT zs, L.map dT, dp_tup hx, .lst hs hL.all, shaped_dT o1, shaped_dTs o2, by rw [any_dT]; exact q⟩
end
end My

set_option Elab.async false
set_option linter.all false
set_option maxRecDepth 100000
set_option maxHeartbeats 4000000
namespace My
open PySem PySem.Spec PyProof.Rows L2
open C8 (tCut pss_cut)
/-! ### methods by their classes -/
def DefM (K : PySem.W.Frag) (C : Addr) (m q : Str) (ps : List Str) (st : Stmt) : Prop := ∃ f fd, Meth K C m f ∧ Fun K m q st f fd ∧ Binds K fd ps []
def DefI (K : PySem.W.Frag) (C : Addr) (q : Str) (ps : List Str) (st : Stmt) : Prop := ∃ f fd, Mk K C f ∧ Fun K "__init__" q st f fd ∧ Binds K fd ps []
def DefP (K : PySem.W.Frag) (C : Addr) (m q : Str) (st : Stmt) : Prop := ∃ p f fd, PropOf K C m p f ∧ Fun K m q st f fd ∧ Binds K fd ["self"] []
def FnM (P : Program) (w : World) (K : PySem.W.Frag) (mg : Str → Option Value) (base : Heap) (CX : CXT) (k : Nat) (C : Addr) (m : Str) (ps : List Str) (sp : Sp) : Prop :=
  ∃ f fd, Meth K C m f ∧ Binds K fd ps [] ∧ FnOk P w K mg base CX k f fd ps sp
def FnI (P : Program) (w : World) (K : PySem.W.Frag) (mg : Str → Option Value) (base : Heap) (CX : CXT) (k : Nat) (C : Addr) (ps : List Str) (sp : Sp) : Prop :=
  ∃ f fd, Mk K C f ∧ Binds K fd ps [] ∧ FnOk P w K mg base CX k f fd ps sp
def FnP (P : Program) (w : World) (K : PySem.W.Frag) (mg : Str → Option Value) (base : Heap) (k : Nat) (C : Addr) (m : Str) (sp : Sp) : Prop :=
  ∃ p f fd, PropOf K C m p f ∧ Binds K fd ["self"] [] ∧ FnOk P w K mg base CX0 k f fd ["self"] sp
section
variable {P : Program} {w : World} {K : PySem.W.Frag} {mg : Str → Option Value} {base : Heap}
theorem defm_mk {C : Addr} {m q : Str} {ps : List Str} {st : Stmt} {f : Addr} {oc : Value} {od an : Option Addr} {osl : Array (Option Value)} {kV doc pm cdv ct : Value}
    (hb : ∀ (kV doc pm : Value) (an : Option Addr) (cdv ct : Value) (us : List Value), us.length = ps.length → bindArgs (PySem.W.fnOf m q (defArgs st) (defBody st) (defScope st) .none kV doc pm an cdv ct) ⟨us, []⟩ = pure (ps.zip us))
    (a : PySem.W.findIn K (.ref C) m = some (some (.ref f))) (i : PySem.W.isFn K (.ref f) = true) (l : K.lookup f = some ⟨oc, od, .func (PySem.W.fnOf m q (defArgs st) (defBody st) (defScope st) .none kV doc pm an cdv ct), osl⟩)
    (c : PySem.W.codeIn K cdv q = true) (k : PySem.W.keepIn K (.ref f) = true) : DefM K C m q ps st :=
  have F := fun_mk (st := st) l c k
  ⟨f, _, ⟨a, i, k⟩, F, F.binds hb⟩
theorem defi_mk {C : Addr} {q : Str} {ps : List Str} {st : Stmt} {f : Addr} {oc : Value} {od an : Option Addr} {osl : Array (Option Value)} {kV doc pm cdv ct : Value}
    (hb : ∀ (kV doc pm : Value) (an : Option Addr) (cdv ct : Value) (us : List Value), us.length = ps.length → bindArgs (PySem.W.fnOf "__init__" q (defArgs st) (defBody st) (defScope st) .none kV doc pm an cdv ct) ⟨us, []⟩ = pure (ps.zip us))
    (a : PySem.W.findIn K (.ref C) "__init__" = some (some (.ref f))) (i : PySem.W.isFn K (.ref f) = true) (l : K.lookup f = some ⟨oc, od, .func (PySem.W.fnOf "__init__" q (defArgs st) (defBody st) (defScope st) .none kV doc pm an cdv ct), osl⟩)
    (c : PySem.W.codeIn K cdv q = true) (k : PySem.W.keepIn K (.ref f) = true) (mk : PySem.W.makesIn K C = true) (kc : PySem.W.keepIn K (.ref C) = true) : DefI K C q ps st :=
  have F := fun_mk (st := st) l c k
  ⟨f, _, ⟨mk, a, i, kc⟩, F, F.binds hb⟩
theorem defp_mk {C p : Addr} {m q : Str} {st : Stmt} {f : Addr} {rest : List Value} {oc : Value} {od an : Option Addr} {osl : Array (Option Value)} {kV doc pm cdv ct : Value}
    (hb : ∀ (kV doc pm : Value) (an : Option Addr) (cdv ct : Value) (us : List Value), us.length = 1 → bindArgs (PySem.W.fnOf m q (defArgs st) (defBody st) (defScope st) .none kV doc pm an cdv ct) ⟨us, []⟩ = pure ((["self"] : List Str).zip us))
    (a : PySem.W.findIn K (.ref C) m = some (some (.ref p))) (g : PySem.W.specialIn K (.ref p) "__get__" = some (some (.builtin "property.__get__"))) (t : PySem.W.takesIn K (.ref p) = some true) (r : PySem.W.recIn K p "property" = some (.ref f :: rest))
    (l : K.lookup f = some ⟨oc, od, .func (PySem.W.fnOf m q (defArgs st) (defBody st) (defScope st) .none kV doc pm an cdv ct), osl⟩)
    (c : PySem.W.codeIn K cdv q = true) (k : PySem.W.keepIn K (.ref f) = true) : DefP K C m q st :=
  have F := fun_mk (st := st) l c k
  ⟨p, f, _, ⟨a, g, t, rest, r⟩, F, F.binds hb⟩
theorem DefM.ok {C : Addr} {m q : Str} {ps N : List Str} {st : Stmt} {k : Nat} {sp : Sp} (d : DefM K C m q ps st) (S : FnScope N ps (defScope st)) (len : ∀ vs H Q E, sp vs H Q E → vs.length = ps.length)
    (hbody : ∀ (f : Addr) (cdv : Value) (A : Around) (outer : List Env) (s : Shared) (H : Hp) (vs : List V) (Q : VK) (E : XK), Room k (A.deeper (envOfC q (defScope st) s.heap.objs.size f cdv)) → sp vs H Q E →
      ∃ t, PSs (cxOf CX0 P w K mg base N q (defScope st) f cdv A outer s H E).nox (defBody st) t ∧ t { nx := fun _ H' => Q .non H', rt := Q } (start N vs) H) : FnM P w K mg base CX0 (k + 1) C m ps sp := by
  obtain ⟨f, fd, M, F, b⟩ := d
  exact ⟨f, fd, M, b, F.ok S len (hbody f)⟩
theorem DefM.okX {C : Addr} {m q : Str} {ps N : List Str} {st : Stmt} {k : Nat} {sp : Sp} (d : DefM K C m q ps st) (S : FnScope N ps (defScope st)) (len : ∀ vs H Q E, sp vs H Q E → vs.length = ps.length)
    (hbody : ∀ (f : Addr) (cdv : Value) (A : Around) (outer : List Env) (s : Shared) (H : Hp) (vs : List V) (Q : VK) (E : XK), Room k (A.deeper (envOfC q (defScope st) s.heap.objs.size f cdv)) → sp vs H Q E →
      ∃ t, PSs (cxOf (L2.CX P w) P w K mg base N q (defScope st) f cdv A outer s H E) (defBody st) t ∧ t { nx := fun _ H' => Q .non H', rt := Q } (start N vs) H) : FnM P w K mg base (L2.CX P w) (k + 1) C m ps sp := by
  obtain ⟨f, fd, M, F, b⟩ := d
  exact ⟨f, fd, M, b, F.okX S len (hbody f)⟩
theorem DefI.ok {C : Addr} {q : Str} {ps N : List Str} {st : Stmt} {k : Nat} {sp : Sp} (d : DefI K C q ps st) (S : FnScope N ps (defScope st)) (len : ∀ vs H Q E, sp vs H Q E → vs.length = ps.length)
    (hbody : ∀ (f : Addr) (cdv : Value) (A : Around) (outer : List Env) (s : Shared) (H : Hp) (vs : List V) (Q : VK) (E : XK), Room k (A.deeper (envOfC q (defScope st) s.heap.objs.size f cdv)) → sp vs H Q E →
      ∃ t, PSs (cxOf CX0 P w K mg base N q (defScope st) f cdv A outer s H E).nox (defBody st) t ∧ t { nx := fun _ H' => Q .non H', rt := Q } (start N vs) H) : FnI P w K mg base CX0 (k + 1) C ps sp := by
  obtain ⟨f, fd, M, F, b⟩ := d
  exact ⟨f, fd, M, b, F.ok S len (hbody f)⟩
theorem DefP.ok {C : Addr} {m q : Str} {N : List Str} {st : Stmt} {k : Nat} {sp : Sp} (d : DefP K C m q st) (S : FnScope N ["self"] (defScope st)) (len : ∀ vs H Q E, sp vs H Q E → vs.length = 1)
    (hbody : ∀ (f : Addr) (cdv : Value) (A : Around) (outer : List Env) (s : Shared) (H : Hp) (vs : List V) (Q : VK) (E : XK), Room k (A.deeper (envOfC q (defScope st) s.heap.objs.size f cdv)) → sp vs H Q E →
      ∃ t, PSs (cxOf CX0 P w K mg base N q (defScope st) f cdv A outer s H E).nox (defBody st) t ∧ t { nx := fun _ H' => Q .non H', rt := Q } (start N vs) H) : FnP P w K mg base (k + 1) C m sp := by
  obtain ⟨p, f, fd, M, F, b⟩ := d
  exact ⟨p, f, fd, M, b, F.ok S len (hbody f)⟩
end
/-! ### the rules -/
section
variable {X : Cx} {CX : CXT} {k : Nat} {C : Addr} {x m : Str} {ps : List Str} {sp : Sp} {e o : Expr} {es : List Expr} {to : TE} {t : TA} {p pos apos : Pos}
/-- o.m(e, ..) -/
def tMthd (C : Addr) (m : Str) (sp : Sp) (to : TE) (t : TA) : TE := fun σ H Q => to σ H fun x H1 => ∃ a dx fs, x = .ref a ∧ H1 a = some (.ins C dx fs) ∧ fs.lookup m = none ∧ t σ H1 fun vs H2 => sp (x :: vs) H2 Q E0
theorem pe_mth {pl : Sem Bool} (G : FnM X.prog X.w X.K X.mg X.base CX0 k C m ps sp) (c : Cls X.K C) (hr : Room k X.A) (ho : PE X o to) (ha : PA X (e :: es) t)
    (hst : starEach (e :: es) X.env = (false, eval e X.env) :: starEach es X.env := by rfl) (hpl : (backTo pos (starEach es X.env)).any (·.1) = false := by rfl)
    (ht : eval (.Call (.Attribute o m apos) (e :: es) [] pos) X.env = (do
      let ov ← eval o X.env
      standAt apos.atName
      let (f, first) ← holding [ov] (getMethod ov m pl)
      callWith pos f first (backTo pos (starEach (e :: es) X.env)) (backToKw pos (keywordEach [] X.env))) := by rfl) : PE X (.Call (.Attribute o m apos) (e :: es) [] pos) (tMthd C m sp to t) := by
  obtain ⟨f, fd, hm, hb, F⟩ := G
  have h := pe_meth ho c hm F hr hb .nil (E := E0) pass0 ha hst hpl ht
  refine ⟨fun pins s σ H Q I q => h.run pins s σ H Q I ?_⟩
  unfold tMeth
  simp only [List.append_nil]
  exact q
theorem pe_mth0 {pl : Sem Bool} (G : FnM X.prog X.w X.K X.mg X.base CX0 k C m ps sp) (c : Cls X.K C) (hr : Room k X.A) (ho : PE X o to)
    (ht : eval (.Call (.Attribute o m apos) [] [] pos) X.env = (do
      let ov ← eval o X.env
      standAt apos.atName
      let (f, first) ← holding [ov] (getMethod ov m pl)
      callWith pos f first (backTo pos (starEach [] X.env)) (backToKw pos (keywordEach [] X.env))) := by rfl) : PE X (.Call (.Attribute o m apos) [] [] pos) (tMthd C m sp to tNil) := by
  obtain ⟨f, fd, hm, hb, F⟩ := G
  have h := pe_meth0 ho c hm F hr hb .nil (E := E0) pass0 ht
  refine ⟨fun pins s σ H Q I q => h.run pins s σ H Q I ?_⟩
  unfold tMeth
  simp only [List.append_nil]
  exact q
/-- C(e, ..) -/
def MadeR (C : Addr) (sp : Sp) (vs : List V) (H1 : Hp) (Q : VK) : Prop := ∀ x dx, H1 x = none → H1 dx = none → dx ≠ x → sp (.ref x :: vs) (upd (upd H1 dx (.own x)) x (.ins C dx [])) (fun v H2 => v = .non ∧ Q (.ref x) H2) E0
def tMkC (C : Addr) (sp : Sp) (t : TA) : TE := fun σ H Q => t σ H fun vs H1 => MadeR C sp vs H1 Q
theorem pe_mk (G : FnI X.prog X.w X.K X.mg X.base CX0 k C ps sp) (hr : Room (k + 1) X.A) (hg : Gl X x) (hm : X.mg x = some (.ref C)) (ha : PA X (e :: es) t) (hdb : (x == ("__debug__" : Str)) = false := by decide)
    (he : starEach (e :: es) X.env = (false, eval e X.env) :: starEach es X.env := by rfl) (hpl : (backTo pos (starEach es X.env)).any (·.1) = false := by rfl) : PE X (.Call (.Name x p) (e :: es) [] pos) (tMkC C sp t) := by
  obtain ⟨f, fd, M, hb, F⟩ := G
  have h := pe_make (p := p) M F hr hg hm hb .nil (E := E0) pass0 ha hdb he hpl
  refine ⟨fun pins s σ H Q I q => h.run pins s σ H Q I ?_⟩
  unfold tMake
  simp only [List.append_nil]
  exact q
theorem pe_mk0 (G : FnI X.prog X.w X.K X.mg X.base CX0 k C ps sp) (hr : Room (k + 1) X.A) (hg : Gl X x) (hm : X.mg x = some (.ref C)) (hdb : (x == ("__debug__" : Str)) = false := by decide) : PE X (.Call (.Name x p) [] [] pos) (tMkC C sp tNil) := by
  obtain ⟨f, fd, M, hb, F⟩ := G
  have h := pe_make0 (p := p) (pos := pos) M F hr hg hm hb .nil (E := E0) pass0 hdb
  refine ⟨fun pins s σ H Q I q => h.run pins s σ H Q I ?_⟩
  unfold tMake
  simp only [List.append_nil]
  exact q
/-- o.m, a property -/
def tPrp (C : Addr) (sp : Sp) (to : TE) : TE := fun σ H Q => to σ H fun x H1 => ∃ a dx fs, x = .ref a ∧ H1 a = some (.ins C dx fs) ∧ sp [.ref a] H1 Q E0
theorem pe_prp (G : FnP X.prog X.w X.K X.mg X.base k C m sp) (c : Cls X.K C) (hr : Room (k + 1) X.A) (ho : PE X o to) (hab : attributeBase o m X.env (eval o X.env) = eval o X.env := by rfl) : PE X (.Attribute o m pos) (tPrp C sp to) := by
  obtain ⟨p, f, fd, hm, hb, F⟩ := G
  have h := pe_prop (pos := pos) ho c hm F hr hb .nil (E := E0) pass0 hab
  refine ⟨fun pins s σ H Q I q => h.run pins s σ H Q I ?_⟩
  unfold tProp
  exact q
/-- len(o), o with its own __len__ -/
def rLenO (C : Addr) (sp : Sp) : List V → Hp → VK → Prop := fun xs H Q => ∃ (a dx : Addr) (fs : List (Str × V)), xs = [.ref a] ∧ H a = some (.ins C dx fs) ∧ sp [.ref a] H (fun v H2 => ∃ n : Nat, v = .int (n : Int) ∧ n ≤ 100000 ∧ Q (.int (n : Int)) H2) E0
theorem call_lenO (G : FnM X.prog X.w X.K X.mg X.base CX0 k C "__len__" ["self"] sp) (hr : Room (k + 1) X.A) : CallR X (.builtin "len") (rLenO C sp) := by
  intro pins s σ H xs us Q I r h
  obtain ⟨f, fd, hm, hb, F⟩ := G
  obtain ⟨a, dx, fs, rfl, ha, q⟩ := h
  obtain ⟨u, rfl, ru⟩ := vals1 r
  obtain rfl : u = Value.ref a := ru
  obtain ⟨mA, J, _⟩ := ins_get I.hok ha
  obtain ⟨od, J, _⟩ := J.look
  refine Calls.call_function_entry kind_len plain_len entry_len (args_len1 _) ?_
  unfold Builtin.«len»
  refine wpAny_bind (m := oneArg "len" _) (wpAny_pure ?_)
  refine wpAny_bind (m := callSpecial? (.ref a) (Str.ofString "__len__")) (PySem.W.special_fn (name := "__len__") (args := []) I.kIn J hm.at_ (beq_iff_eq.mp hm.fn) (wpAny_call (codeAny_mono (F.run X.A.in1 X.stack s H ⟨[.ref a], []⟩ [.ref a] [.ref a] _ E0 hr.in1 I.env0.in1 (by
    have := hb s [.ref a] I.kIn rfl
    simpa using this) (.cons rfl .nil) q) fun r s' hq => ?_)))
  cases r with
  | error er => exact hq.elim
  | ok fl =>
    cases fl with
    | ret u =>
      obtain ⟨v, H', I3, rv, n, rfl, hn, q3⟩ := I.after hq
      obtain ⟨t, rfl⟩ := rv
      refine wpAny_bind (wpAny_holding (wpAny_pure ?_))
      refine wpAny_bind (wpAny_letGo ?_)
      show wpAny _ _ (if ((n : Nat) : Int) < 0 then _ else _) _ _ _
      rw [if_neg (by omega)]
      show wpAny _ _ (if ((n : Nat) : Int) ≥ 2 ^ 63 then _ else _) _ _ _
      rw [if_neg (by omega)]
      exact wpAny_bind (wpAny_mkInt (wpAny_pure ⟨_, rfl, .int (n : Int), H', I3.tok _, ⟨_, rfl⟩, q3⟩))
    | next => exact False.elim hq
    | brk => exact False.elim hq
    | cont => exact False.elim hq
end
/-! ### their readings -/
section
variable {σ : L2.St} {H : Hp} {Q : VK} {K : PySem.W.Frag} {C a dx : Addr} {f m : Str} {fs : List (Str × V)} {v y : V} {to tv : TE} {t : TA} {sp : Sp}
def FldR (K : PySem.W.Frag) (f : Str) (x : V) (H1 : Hp) (Q : VK) : Prop := ∃ a C dx fs v, x = .ref a ∧ H1 a = some (.ins C dx fs) ∧ Cls K C ∧ NoAttr K C f ∧ fs.lookup f = some v ∧ Q v H1
theorem r_fld (h : to σ H fun x H1 => FldR K f x H1 Q) : tFld K to f σ H Q := h
theorem r_fld1 (ha : H a = some (.ins C dx fs)) (c : Cls K C) (n : NoAttr K C f) (l : fs.lookup f = some v) (q : Q v H) : FldR K f (.ref a) H Q := ⟨a, C, dx, fs, v, rfl, ha, c, n, l, q⟩
def SetF (K : PySem.W.Frag) (f : Str) (y x : V) (H2 : Hp) (N : Hp → Prop) : Prop := ∃ a C dx fs, x = .ref a ∧ H2 a = some (.ins C dx fs) ∧ Cls K C ∧ NoAttr K C f ∧ fs.length < 1000 ∧ N (upd H2 a (.ins C dx (putF f y fs)))
theorem r_sFld {D : Ends} (h : tv σ H fun y H1 => to σ H1 fun x H2 => SetF K f y x H2 (D.nx σ)) : sFld K to tv f D σ H := h
theorem r_sFld1 {N : Hp → Prop} (ha : H a = some (.ins C dx fs)) (c : Cls K C) (n : NoAttr K C f) (hl : fs.length < 1000) (q : ∀ H2, But a H H2 → H2 a = some (.ins C dx (putF f y fs)) → N H2) : SetF K f y (.ref a) H N :=
  ⟨a, C, dx, fs, rfl, ha, c, n, hl, q _ But.upd upd_same⟩
def AugF (K : PySem.W.Frag) (f : Str) (tv : TE) (rd : V → V → Hp → VK → Prop) (σ : L2.St) (x : V) (H1 : Hp) (N : Hp → Prop) : Prop := ∃ a C dx fs v, x = .ref a ∧ H1 a = some (.ins C dx fs) ∧ Cls K C ∧ NoAttr K C f ∧ fs.lookup f = some v ∧
  tv σ H1 fun y H2 => rd v y H2 fun z H3 => ∃ dx' fs', H3 a = some (.ins C dx' fs') ∧ fs'.length < 1000 ∧ N (upd H3 a (.ins C dx' (putF f z fs')))
theorem r_aFld {D : Ends} {rd : V → V → Hp → VK → Prop} (h : to σ H fun x H1 => AugF K f tv rd σ x H1 (D.nx σ)) : sFldAug K to tv rd f D σ H := h
/-- o.f += n -/
theorem r_aFld1 {N : Hp → Prop} {i j : Int} (ha : H a = some (.ins C dx fs)) (c : Cls K C) (n : NoAttr K C f) (l : fs.lookup f = some (.int i)) (hl : fs.length < 1000) (q : ∀ H2, But a H H2 → H2 a = some (.ins C dx (putF f (.int (i + j)) fs)) → N H2) : AugF K f (tC (.int j)) rAdd σ (.ref a) H N :=
  ⟨a, C, dx, fs, .int i, rfl, ha, c, n, l, i, j, rfl, rfl, dx, fs, ha, hl, q _ But.upd upd_same⟩
def MthR (C : Addr) (m : Str) (x : V) (H1 : Hp) (R : Prop) : Prop := ∃ a dx fs, x = .ref a ∧ H1 a = some (.ins C dx fs) ∧ fs.lookup m = none ∧ R
theorem r_mth (h : to σ H fun x H1 => MthR C m x H1 (t σ H1 fun vs H2 => sp (x :: vs) H2 Q E0)) : tMthd C m sp to t σ H Q := h
theorem r_mth1 {R : Prop} (ha : H a = some (.ins C dx fs)) (l : fs.lookup m = none) (h : R) : MthR C m (.ref a) H R := ⟨a, dx, fs, rfl, ha, l, h⟩
theorem r_mkC (h : t σ H fun vs H1 => MadeR C sp vs H1 Q) : tMkC C sp t σ H Q := h
theorem r_made {vs : List V} (h : ∀ x dx H2, H x = none → Same H H2 → H2 x = some (.ins C dx []) → sp (.ref x :: vs) H2 (fun v H3 => v = .non ∧ Q (.ref x) H3) E0) : MadeR C sp vs H Q := fun x dx nx ndx nex =>
  h x dx _ nx (fun b o e => by rw [upd_ne (ne_of_none e nx), upd_ne (ne_of_none e ndx)]; exact e) upd_same
def PrpR (C : Addr) (sp : Sp) (x : V) (H1 : Hp) (Q : VK) : Prop := ∃ a dx fs, x = .ref a ∧ H1 a = some (.ins C dx fs) ∧ sp [.ref a] H1 Q E0
theorem r_prp (h : to σ H fun x H1 => PrpR C sp x H1 Q) : tPrp C sp to σ H Q := h
theorem r_prp1 (ha : H a = some (.ins C dx fs)) (q : sp [.ref a] H Q E0) : PrpR C sp (.ref a) H Q := ⟨a, dx, fs, rfl, ha, q⟩
theorem r_lenO (ha : H a = some (.ins C dx fs)) (q : sp [.ref a] H (fun v H2 => ∃ n : Nat, v = .int (n : Int) ∧ n ≤ 100000 ∧ Q (.int (n : Int)) H2) E0) : rLenO C sp [.ref a] H Q := ⟨a, dx, fs, rfl, ha, q⟩
theorem putF_nil (f : Str) (v : V) : putF f v [] = [(f, v)] := rfl
theorem putF_same (f : Str) (v u : V) (r : List (Str × V)) : putF f v ((f, u) :: r) = (f, v) :: r := by
  show (if f = f then _ else _) = _
  rw [if_pos rfl]
theorem putF_other {f g : Str} (h : ¬ g = f) (v u : V) (r : List (Str × V)) : putF f v ((g, u) :: r) = (g, u) :: putF f v r := by
  show (if g = f then _ else _) = _
  rw [if_neg h]
theorem look_same (f : Str) (v : V) (r : List (Str × V)) : List.lookup f ((f, v) :: r) = some v := by
  simp [List.lookup]
theorem look_other {f g : Str} (h : ¬ f = g) (v : V) (r : List (Str × V)) : List.lookup f ((g, v) :: r) = List.lookup f r := by
  have hb : (f == g) = false := beq_eq_false_iff_ne.mpr h
  simp only [List.lookup, hb]
end
/-! ### data behind a store -/
section
variable {K : PySem.W.Frag} {H H' : Hp} {l : Addr}
def NoTup (H : Hp) (l : Addr) : Prop := ∀ u, ¬ Rd H l (.tup u)
theorem noTup_l {ys : List V} (h : H l = some (.lst ys)) : NoTup H l := by
  rintro u (h2 | ⟨o, h2⟩)
  · rw [h] at h2; cases h2
  · rw [h] at h2; cases h2
theorem noTup_i {C dx : Addr} {fs : List (Str × V)} (h : H l = some (.ins C dx fs)) : NoTup H l := by
  rintro u (h2 | ⟨o, h2⟩)
  · rw [h] at h2; cases h2
  · rw [h] at h2; cases h2
theorem but_tN {a : Addr} {xs : List V} (e : But l H H') (n : NoTup H l) (h : SqT K H a xs) : SqT K H' a xs := by
  rcases h with h | h
  · refine .inl (but_rd e ?_ h)
    rintro rfl
    exact n _ h
  · exact .inr h
mutual
theorem dp_but (e : But l H H') (n : NoTup H l) : ∀ (d : PyData) (v : V), pureD d = true → Dp K H v d → Dp K H' v d
  | .int _, _, _, h => by cases h; exact .int _
  | .str _, _, _, h => by cases h; exact .str _
  | .tuple ds, _, p, h => by
    cases h with
    | tup hs ha => exact .tup (but_tN e n hs) (dpAll_but e n ds _ (by simp [pureD] at p; exact p.2) ha)
  | .none, _, p, _ => by simp [pureD] at p
  | .bool _, _, p, _ => by simp [pureD] at p
  | .list _, _, p, _ => by simp [pureD] at p
  | .dict _, _, p, _ => by simp [pureD] at p
theorem dpAll_but (e : But l H H') (n : NoTup H l) : ∀ (ds : List PyData) (vs : List V), pureAll ds = true → DpAll K H vs ds → DpAll K H' vs ds
  | [], _, _, h => by cases h; exact .nil
  | d :: ds, _, p, h => by
    have p' : pureD d = true ∧ pureAll ds = true := by simpa [pureAll] using p
    cases h with
    | cons h1 h2 => exact .cons (dp_but e n d _ p'.1 h1) (dpAll_but e n ds _ p'.2 h2)
end
mutual
theorem dp_ex (e : Same H H') : ∀ (d : PyData) (v : V), Dp K H v d → Dp K H' v d
  | .int _, _, h => by cases h; exact .int _
  | .str _, _, h => by cases h; exact .str _
  | .tuple ds, _, h => by
    cases h with
    | tup hs ha => exact .tup (ex_t e hs) (dpAll_ex e ds _ ha)
  | .none, _, h => by cases h; exact .non
  | .bool _, _, h => by cases h; exact .bl _
  | .list ds, _, h => by
    cases h with
    | lst hs ha => exact .lst (ex_l e hs) (dpAll_ex e ds _ ha)
  | .dict _, _, h => by cases h
theorem dpAll_ex (e : Same H H') : ∀ (ds : List PyData) (vs : List V), DpAll K H vs ds → DpAll K H' vs ds
  | [], _, h => by cases h; exact .nil
  | d :: ds, _, h => by
    cases h with
    | cons h1 h2 => exact .cons (dp_ex e d _ h1) (dpAll_ex e ds _ h2)
end
end
/-! ### a test's outcome, told by a word -/
section
variable {X : Cx}
def tCutT (t : TT) : TT := fun σ H Q => ∃ Mid : Bool → Hp → Prop, t σ H Mid ∧ ∀ c H', Mid c H' → Q c H'
theorem pt_cut {e : Expr} {t : TT} (h : PT X e t) : PT X e (tCutT t) := by
  refine ⟨fun pins s σ H Q I q => ?_⟩
  obtain ⟨Mid, hm, hk⟩ := q
  refine thn (h.run pins s σ H Mid I hm) fun c s1 q1 => ?_
  obtain ⟨H', I', m⟩ := q1
  exact ⟨H', I', hk _ _ m⟩
theorem r_cutT {t : TT} {σ : L2.St} {H : Hp} {Q : Bool → Hp → Prop} (Mid : Bool → Hp → Prop) (h : t σ H Mid) (k : ∀ c H', Mid c H' → Q c H') : tCutT t σ H Q := ⟨Mid, h, k⟩
end
end My

set_option Elab.async false
set_option linter.all false
set_option maxRecDepth 100000
set_option maxHeartbeats 4000000
namespace My
open PySem PySem.Spec PyProof.Rows L2 PySem.W
open C8 (tCut pss_cut)
/-! ### defs with parameters by keyword alone -/
def DefK (K : PySem.W.Frag) (mg : Str → Option Value) (x : Str) (n : Nat) (ks ps : List Str) (st : Stmt) : Prop := ∃ f fd, mg x = some (.ref f) ∧ Fun K x x st f fd ∧ KBn K fd ps n ks (fun a b => a ++ b) (fun a b => a ++ b)
def FnK (P : Program) (w : World) (K : PySem.W.Frag) (mg : Str → Option Value) (base : Heap) (k : Nat) (x : Str) (n : Nat) (ks ps : List Str) (sp : Sp) : Prop :=
  ∃ f fd, mg x = some (.ref f) ∧ PySem.W.keepIn K (.ref f) = true ∧ KBn K fd ps n ks (fun a b => a ++ b) (fun a b => a ++ b) ∧ FnOk P w K mg base CX0 k f fd ps sp
section
variable {P : Program} {w : World} {K : PySem.W.Frag} {mg : Str → Option Value} {base : Heap}
theorem vals_app {vs : List V} {us : List Value} {zs : List V} {ws : List Value} (h : Vals vs us) (g : Vals zs ws) : Vals (vs ++ zs) (us ++ ws) := by
  induction vs generalizing us with
  | nil => cases h; exact g
  | cons v vs ih =>
    cases h with
    | cons h1 h2 => exact .cons h1 (ih h2)
theorem defk_mk {h : Heap} {x : Str} {n : Nat} {ks ps : List Str} {st : Stmt} {f : Addr} {oc : Value} {od an : Option Addr} {osl : Array (Option Value)} {kV doc pm cdv ct : Value} (X : K.In h) (G : h.Ns mainGlobals mg)
    (hb : ∀ (kV doc pm : Value) (an : Option Addr) (cdv ct : Value) (us ws : List Value), us.length = n → ws.length = ks.length → bindArgs (PySem.W.fnOf x x (defArgs st) (defBody st) (defScope st) .none kV doc pm an cdv ct) ⟨us, ks.zip ws⟩ = pure (ps.zip (us ++ ws)))
    (a : PySem.W.nsIn K mainGlobals x = some (some (.ref f))) (l : K.lookup f = some ⟨oc, od, .func (PySem.W.fnOf x x (defArgs st) (defBody st) (defScope st) .none kV doc pm an cdv ct), osl⟩)
    (c : PySem.W.codeIn K cdv x = true) (k : PySem.W.keepIn K (.ref f) = true) : DefK K mg x n ks ps st :=
  ⟨f, _, PySem.W.mg_of X G a, fun_mk (st := st) l c k, ⟨fun s us ws _ h1 h2 => .of_eq (hb _ _ _ _ _ _ us ws h1 h2), fun h g => vals_app h g⟩⟩
theorem DefK.ok {x : Str} {n : Nat} {ks ps N : List Str} {st : Stmt} {k : Nat} {sp : Sp} (d : DefK K mg x n ks ps st) (S : FnScope N ps (defScope st)) (len : ∀ vs H Q E, sp vs H Q E → vs.length = ps.length)
    (hbody : ∀ (f : Addr) (cdv : Value) (A : Around) (outer : List Env) (s : Shared) (H : Hp) (vs : List V) (Q : VK) (E : XK), Room k (A.deeper (envOfC x (defScope st) s.heap.objs.size f cdv)) → sp vs H Q E →
      ∃ t, PSs (cxOf CX0 P w K mg base N x (defScope st) f cdv A outer s H E).nox (defBody st) t ∧ t { nx := fun _ H' => Q .non H', rt := Q } (start N vs) H) : FnK P w K mg base (k + 1) x n ks ps sp := by
  obtain ⟨f, fd, hm, F, b⟩ := d
  exact ⟨f, fd, hm, F.kp, b, F.ok S len (hbody f)⟩
end
section
variable {X : Cx} {k n : Nat} {x : Str} {ks ps : List Str} {sp : Sp} {e : Expr} {es : List Expr} {kws : List Keyword} {t tk : TA} {p pos : Pos}
def KwR (n m : Nat) (sp : Sp) (vs zs : List V) (H2 : Hp) (Q : VK) : Prop := vs.length = n ∧ zs.length = m ∧ sp (vs ++ zs) H2 Q E0
def tFnK (n m : Nat) (sp : Sp) (t tk : TA) : TE := fun σ H Q => t σ H fun vs H1 => tk σ H1 fun zs H2 => KwR n m sp vs zs H2 Q
theorem pe_fnK (G : FnK X.prog X.w X.K X.mg X.base k x n ks ps sp) (hr : Room k X.A) (hg : Gl X x) (ha : PA X (e :: es) t) (hkw : PK X kws tk) (hall : (backToKw pos (keywordEach kws X.env)).all (·.1.isSome) = true := by rfl) (hks : (backToKw pos (keywordEach kws X.env)).filterMap (·.1) = ks := by rfl)
    (hdb : (x == ("__debug__" : Str)) = false := by decide) (he : starEach (e :: es) X.env = (false, eval e X.env) :: starEach es X.env := by rfl)
    (hpl : ((backTo pos (starEach (e :: es) X.env)).any (·.1) || (backToKw pos (keywordEach kws X.env)).any (·.1.isNone)) = false := by rfl) : PE X (.Call (.Name x p) (e :: es) kws pos) (tFnK n ks.length sp t tk) := by
  obtain ⟨f, fd, hm, hk, hb, F⟩ := G
  exact pe_callN (p := p) (E := E0) F hr hg hm hk hb pass0 ha hkw hall hks hdb he hpl
theorem r_fnK {m : Nat} {σ : L2.St} {H : Hp} {Q : VK} (h : t σ H fun vs H1 => tk σ H1 fun zs H2 => KwR n m sp vs zs H2 Q) : tFnK n m sp t tk σ H Q := h
theorem r_kw {m : Nat} {vs zs : List V} {H : Hp} {Q : VK} (l1 : vs.length = n) (l2 : zs.length = m) (h : sp (vs ++ zs) H Q E0) : KwR n m sp vs zs H Q := ⟨l1, l2, h⟩
end
/-! ### x in [..], flat items; insert -/
section
variable {K : PySem.W.Frag} {H : Hp} {Q : VK} {X : Cx}
theorem r_inF {p : Addr} {xs : List V} {x : V} (h : SqL K H p xs ∨ SqT K H p xs) (fx : flatV x = true) (fs : xs.all flatV = true) (q : Q (.bl (inV x xs)) H) : L2.rIn K false x (.ref p) H Q := ⟨p, xs, rfl, h, fx, fs, q⟩
theorem r_notInF {p : Addr} {xs : List V} {x : V} (h : SqL K H p xs ∨ SqT K H p xs) (fx : flatV x = true) (fs : xs.all flatV = true) (q : Q (.bl (!inV x xs)) H) : L2.rIn K true x (.ref p) H Q := ⟨p, xs, rfl, h, fx, fs, q⟩
def rIns : V → List V → Hp → VK → Prop := fun x vs H Q => ∃ (l : Addr) (xs : List V) (i : Int) (y : V), x = .ref l ∧ vs = [.int i, y] ∧ H l = some (.lst xs) ∧ xs.length < sizeLine ∧ 0 ≤ i ∧ i < 2 ^ 63 ∧ Q .non (upd H l (.lst (xs.take i.toNat ++ [y] ++ xs.drop i.toNat)))
theorem mt_ins : MtR X "list.insert" rIns := mt_insert
theorem r_isL {l : Addr} {xs : List V} {R : Prop} (h : H l = some (.lst xs)) (h2 : R) : tyV K "list" (.ref l) H ∧ R := ⟨.inl ⟨rfl, _, SqL.of h⟩, h2⟩
theorem r_ins1 {l : Addr} {xs : List V} {i : Int} {y : V} (h : H l = some (.lst xs)) (hz : xs.length < 100000) (h0 : 0 ≤ i) (h1 : i ≤ 1000000) (q : ∀ H2, But l H H2 → H2 l = some (.lst (xs.take i.toNat ++ [y] ++ xs.drop i.toNat)) → Q .non H2) : rIns (.ref l) [.int i, y] H Q :=
  ⟨l, xs, i, y, rfl, rfl, h, Nat.lt_of_lt_of_le hz (by decide), h0, by omega, q _ But.upd upd_same⟩
end
/-! ### values of a kind -/
def nameD (d : PyData) : Prop := ∃ zs, d = dT zs ∧ (∀ z ∈ zs, Asc z) ∧ zs.length ≤ 12
def valK (κ : Str) (d : PyData) : Prop :=
  if κ = "text" then ∃ z, d = .str z ∧ Asc z
  else if κ = "mail" then ∃ (i : Int) (n : PyData), d = .tuple [.int i, n] ∧ nameD n
  else if κ = "alias" ∨ κ = "server" then nameD d
  else if κ = "start" then ∃ i j : Int, d = .tuple [.int i, .int j]
  else if κ = "gap" then ∃ n k : PyData, d = .tuple [n, k] ∧ nameD n ∧ nameD k
  else ∃ i : Int, d = .int i
theorem nameD.pure {d : PyData} (h : nameD d) : pureD d = true ∧ d.depth ≤ 1 := by
  obtain ⟨zs, rfl, h1, h2⟩ := h
  exact ⟨pure_strs (by omega) h1, by have := depth_tup zs; unfold dT; omega⟩
theorem nameD.alike {d e : PyData} (h : nameD d) (g : nameD e) : alike d e = true := by
  obtain ⟨zs, rfl, _, _⟩ := h
  obtain ⟨ys, rfl, _, _⟩ := g
  exact alike_dT zs ys
theorem pure_two {d e : PyData} (h1 : pureD d = true) (h2 : pureD e = true) : pureD (.tuple [d, e]) = true := by
  simp [pureD, pureAll, h1, h2]
theorem depth_two {d e : PyData} {n : Nat} (h1 : d.depth ≤ n) (h2 : e.depth ≤ n) : (PyData.tuple [d, e]).depth ≤ n + 1 := by
  simp only [PyData.depth, PyData.depthAll]
  omega
theorem valK.pure {κ : Str} {d : PyData} (h : valK κ d) : pureD d = true ∧ d.depth ≤ 2 := by
  unfold valK at h
  split at h
  · obtain ⟨z, rfl, hz⟩ := h
    exact ⟨pure_str hz, by simp [PyData.depth]⟩
  split at h
  · obtain ⟨i, n, rfl, hn⟩ := h
    exact ⟨pure_two rfl hn.pure.1, depth_two (by simp [PyData.depth]) hn.pure.2⟩
  split at h
  · exact ⟨h.pure.1, by have := h.pure.2; omega⟩
  split at h
  · obtain ⟨i, j, rfl⟩ := h
    exact ⟨pure_two rfl rfl, depth_two (n := 1) (by simp [PyData.depth]) (by simp [PyData.depth])⟩
  split at h
  · obtain ⟨n, k, rfl, hn, hk⟩ := h
    exact ⟨pure_two hn.pure.1 hk.pure.1, depth_two hn.pure.2 hk.pure.2⟩
  · obtain ⟨i, rfl⟩ := h
    exact ⟨rfl, by simp [PyData.depth]⟩
theorem alike_two {a b c d : PyData} (h1 : alike a c = true) (h2 : alike b d = true) : alike (.tuple [a, b]) (.tuple [c, d]) = true := by
  simp [alike, alikeAll, h1, h2]
theorem alike_int (i j : Int) : alike (.int i) (.int j) = true := by simp [alike]
theorem valK.alike {κ : Str} {d e : PyData} (h : valK κ d) (g : valK κ e) : alike d e = true := by
  unfold valK at h g
  split at h
  · rename_i c
    rw [if_pos c] at g
    obtain ⟨z, rfl, hz⟩ := h
    obtain ⟨y, rfl, hy⟩ := g
    simp [PySem.W.alike]
  rename_i c1
  rw [if_neg c1] at g
  split at h
  · rename_i c
    rw [if_pos c] at g
    obtain ⟨i, n, rfl, hn⟩ := h
    obtain ⟨j, m, rfl, hm⟩ := g
    exact alike_two (alike_int i j) (hn.alike hm)
  rename_i c2
  rw [if_neg c2] at g
  split at h
  · rename_i c
    rw [if_pos c] at g
    exact nameD.alike h g
  rename_i c3
  rw [if_neg c3] at g
  split at h
  · rename_i c
    rw [if_pos c] at g
    obtain ⟨i, j, rfl⟩ := h
    obtain ⟨i', j', rfl⟩ := g
    exact alike_two (alike_int i i') (alike_int j j')
  rename_i c4
  rw [if_neg c4] at g
  split at h
  · rename_i c
    rw [if_pos c] at g
    obtain ⟨n, k, rfl, hn, hk⟩ := h
    obtain ⟨n', k', rfl, hn', hk'⟩ := g
    exact alike_two (hn.alike hn') (hk.alike hk')
  · rename_i c
    rw [if_neg c] at g
    obtain ⟨i, rfl⟩ := h
    obtain ⟨j, rfl⟩ := g
    exact alike_int i j
theorem pure_ne {d : PyData} (h : pureD d = true) : d ≠ .none := by rintro rfl; simp [pureD] at h
section
variable {K : PySem.W.Frag}
/-! ### pure tuples -/
theorem dpAll_app {H : Hp} : ∀ {xs ys : List V} {ds es : List PyData}, DpAll K H xs ds → DpAll K H ys es → DpAll K H (xs ++ ys) (ds ++ es)
  | _, _, _, _, .nil, h => h
  | _, _, _, _, .cons h t, u => .cons h (dpAll_app t u)
theorem dpAll_drop {H : Hp} : ∀ (n : Nat) {xs : List V} {ds : List PyData}, DpAll K H xs ds → DpAll K H (xs.drop n) (ds.drop n)
  | 0, _, _, h => h
  | _ + 1, _, _, .nil => .nil
  | n + 1, _, _, .cons _ t => dpAll_drop n t
theorem dpAll_take {H : Hp} : ∀ (n : Nat) {xs : List V} {ds : List PyData}, DpAll K H xs ds → DpAll K H (xs.take n) (ds.take n)
  | 0, _, _, _ => .nil
  | _ + 1, _, _, .nil => .nil
  | n + 1, _, _, .cons h t => .cons h (dpAll_take n t)
theorem depthAll_iff (n : Nat) : ∀ ds : List PyData, PyData.depthAll ds ≤ n ↔ ∀ d ∈ ds, d.depth ≤ n
  | [] => by simp [PyData.depthAll]
  | d :: ds => by
    have := depthAll_iff n ds
    simp only [PyData.depthAll, List.mem_cons, forall_eq_or_imp, ← this]
    omega
/-- a tuple of pure data -/
def PT (K : PySem.W.Frag) (H : Hp) (a : Addr) (ds : List PyData) : Prop := ∃ vs, SqT K H a vs ∧ DpAll K H vs ds
def GoodT (D L : Nat) (ds : List PyData) : Prop := (∀ d ∈ ds, pureD d = true ∧ d.depth ≤ D) ∧ ds.length ≤ L
theorem PT.dp {H : Hp} {a : Addr} {ds : List PyData} (h : PT K H a ds) : Dp K H (.ref a) (.tuple ds) := by
  obtain ⟨vs, h1, h2⟩ := h
  exact .tup h1 h2
theorem GoodT.pure {D L : Nat} {ds : List PyData} (h : GoodT D L ds) (hL : L ≤ 10000) : pureD (.tuple ds) = true := by
  simp only [pureD, Bool.and_eq_true, decide_eq_true_eq]
  exact ⟨by have := h.2; omega, (pureAll_iff ds).mpr fun d hd => (h.1 d hd).1⟩
theorem GoodT.depth {D L : Nat} {ds : List PyData} (h : GoodT D L ds) : (PyData.tuple ds).depth ≤ D + 1 := by
  have := (depthAll_iff D ds).mpr fun d hd => (h.1 d hd).2
  simp only [PyData.depth]
  omega
theorem GoodT.mono {D L D' L' : Nat} {ds : List PyData} (h : GoodT D L ds) (h1 : D ≤ D') (h2 : L ≤ L') : GoodT D' L' ds := ⟨fun d hd => ⟨(h.1 d hd).1, Nat.le_trans (h.1 d hd).2 h1⟩, Nat.le_trans h.2 h2⟩
theorem GoodT.nil (D L : Nat) : GoodT D L [] := ⟨fun _ h => (by cases h), Nat.zero_le _⟩
theorem GoodT.one {D : Nat} {d : PyData} (h : pureD d = true) (hd : d.depth ≤ D) : GoodT D 1 [d] := ⟨fun x hx => by rw [List.mem_singleton.mp hx]; exact ⟨h, hd⟩, Nat.le_refl _⟩
theorem GoodT.app {D L M : Nat} {ds es : List PyData} (h : GoodT D L ds) (g : GoodT D M es) : GoodT D (L + M) (ds ++ es) := ⟨fun d hd => (List.mem_append.mp hd).elim (h.1 d) (g.1 d), by rw [List.length_append]; have := h.2; have := g.2; omega⟩
theorem GoodT.sub {D L : Nat} {ds es : List PyData} (h : GoodT D L ds) (hs : ∀ e ∈ es, e ∈ ds) (hl : es.length ≤ ds.length) : GoodT D L es := ⟨fun e he => h.1 e (hs e he), Nat.le_trans hl h.2⟩
theorem PT.ex {H H' : Hp} {a : Addr} {ds : List PyData} (h : PT K H a ds) (e : Same H H') : PT K H' a ds := by
  obtain ⟨vs, h1, h2⟩ := h
  exact ⟨vs, ex_t e h1, dpAll_ex e _ _ h2⟩
theorem PT.but {H H' : Hp} {a l : Addr} {ds : List PyData} (h : PT K H a ds) (e : But l H H') (n : NoTup H l) (p : pureAll ds = true) : PT K H' a ds := by
  obtain ⟨vs, h1, h2⟩ := h
  exact ⟨vs, but_tN e n h1, dpAll_but e n _ _ p h2⟩
theorem GoodT.all {D L : Nat} {ds : List PyData} (h : GoodT D L ds) : pureAll ds = true := (pureAll_iff ds).mpr fun d hd => (h.1 d hd).1
def cutD (ds : List PyData) (lo hi : Option Int) : List PyData := (ds.drop (HT.sIx ds.length 0 lo)).take (HT.sIx ds.length ds.length hi - HT.sIx ds.length 0 lo)
theorem cutD_mem {ds : List PyData} {lo hi : Option Int} : (∀ e ∈ cutD ds lo hi, e ∈ ds) ∧ (cutD ds lo hi).length ≤ ds.length := by
  unfold cutD
  refine ⟨fun e he => List.mem_of_mem_drop (List.mem_of_mem_take he), ?_⟩
  rw [List.length_take, List.length_drop]
  omega
theorem GoodT.cut {D L : Nat} {ds : List PyData} (h : GoodT D L ds) (lo hi : Option Int) : GoodT D L (cutD ds lo hi) := h.sub cutD_mem.1 cutD_mem.2
theorem r_slPT {H : Hp} {Q : VK} {a : Addr} {ds : List PyData} {lo hi : Option Int} (h : PT K H a ds) (q : ∀ p H2, Same H H2 → PT K H2 p (cutD ds lo hi) → Q (.ref p) H2) : rSlA K (.ref a) lo hi H Q := by
  obtain ⟨vs, h1, h2⟩ := h
  refine r_slA h1 fun p H2 e hp => q p H2 e ⟨_, hp, ?_⟩
  have e1 := dpAll_len h2
  unfold cutV cutD
  rw [← e1]
  exact dpAll_take _ (dpAll_drop _ (dpAll_ex e _ _ h2))
theorem r_catPT {H : Hp} {Q : VK} {a b : Addr} {ds es : List PyData} (h : PT K H a ds) (g : PT K H b es) (hz : ds.length + es.length ≤ 100000) (q : ∀ p H2, Same H H2 → PT K H2 p (ds ++ es) → Q (.ref p) H2) : rCatA K (.ref a) (.ref b) H Q := by
  obtain ⟨vs, h1, h2⟩ := h
  obtain ⟨us, g1, g2⟩ := g
  have e1 := dpAll_len h2
  have e2 := dpAll_len g2
  exact r_catA h1 g1 (by omega) fun r H2 e hr => q r H2 e ⟨_, hr, dpAll_app (dpAll_ex e _ _ h2) (dpAll_ex e _ _ g2)⟩
def SgsAt (K : PySem.W.Frag) (H : Hp) (l : Addr) (G : List PyData) : Prop := ∃ es, SqL K H l es ∧ DpAll K H es G
theorem SgsAt.ex {H H' : Hp} {l : Addr} {G : List PyData} (h : SgsAt K H l G) (e : Same H H') : SgsAt K H' l G := by
  obtain ⟨es, h1, h2⟩ := h
  exact ⟨es, ex_l e h1, dpAll_ex e _ _ h2⟩
theorem ints_mem {xs : List Int} {i : Nat} {v : V} (h : (xs.map V.int)[i]? = some v) : ∃ z : Int, v = .int z := by
  obtain ⟨z, _, rfl⟩ := List.mem_map.mp (List.mem_of_getElem? h)
  exact ⟨z, rfl⟩
theorem dpAll_mem {H : Hp} {xs : List V} {ds : List PyData} {i : Nat} {v : V} (h : DpAll K H xs ds) (hi : xs[i]? = some v) : ∃ d, ds[i]? = some d ∧ Dp K H v d := by
  have hl := dpAll_len h
  have hlt : i < ds.length := by rw [← hl]; exact (List.getElem?_eq_some_iff.mp hi).1
  have hz := List.getElem?_eq_getElem hlt
  obtain ⟨u, hu, hd⟩ := dpAll_get h hz
  rw [hi] at hu
  cases hu
  exact ⟨_, hz, hd⟩
theorem dp_pt {H : Hp} {v : V} {ds : List PyData} (h : Dp K H v (.tuple ds)) : ∃ a, v = .ref a ∧ PT K H a ds := by
  cases h with
  | tup hs ha => exact ⟨_, rfl, _, hs, ha⟩
theorem shaped_listP {ES : List PyData} (h : ∀ e ∈ ES, pureD e = true ∧ e.depth ≤ 30) : SeqAt.shaped (.list ES) = true := by
  unfold SeqAt.shaped
  rw [Bool.and_eq_true]
  refine ⟨?_, decide_eq_true ?_⟩
  · simp only [PyData.canLay0]
    exact canLay_pureAll ES ((pureAll_iff ES).mpr fun e he => (h e he).1)
  · have := (depthAll_iff 30 ES).mpr fun e he => (h e he).2
    simp only [PyData.depth]
    omega
def C94 : Str := (" !\"#$&'()*+,-./0123456789:;<=>?@ABCDEFGHIJKLMNOPQRSTUVWXYZ[\\]^_`" : Str) ++ ("abcdefghijklmnopqrstuvwxyz{|}~" : Str)
theorem C94_len : C94.cps.toList.length = 94 := by decide +kernel
theorem C94_len2 : C94.length ≤ 100000 := by decide +kernel
theorem C94_asc : Asc C94 := by decide +kernel

theorem r_notInP {H : Hp} {Q : VK} {p : Addr} {v : V} {d : PyData} {es : List V} {ES : List PyData} (hv : Dp K H v d) (hl : SqL K H p es) (hd : DpAll K H es ES) (pd : pureD d = true) (dd : d.depth ≤ 30) (pe : ∀ e ∈ ES, pureD e = true ∧ e.depth ≤ 30)
    (q : Q (.bl (!ES.any fun z => PyData.eqv z d)) H) : rNotInD K v (.ref p) H Q := ⟨d, ES, hv, .lst hl hd, shaped_pure pd (by omega), shaped_listP pe, q⟩
theorem r_ltP {H : Hp} {Q : VK} {v u : V} {d e : PyData} (hv : Dp K H v d) (hu : Dp K H u e) (a : alike d e = true) (pd : pureD d = true) (dd : d.depth ≤ 30) (q : Q (.bl (dataLt d e)) H) : rLtD K v u H Q := ⟨d, e, hv, hu, a, pure_ne pd, by omega, q⟩
theorem r_leP {H : Hp} {Q : VK} {v u : V} {d e : PyData} (hv : Dp K H v d) (hu : Dp K H u e) (a : alike d e = true) (pd : pureD d = true) (dd : d.depth ≤ 30) (q : Q (.bl (!dataLt e d)) H) : rLeD K v u H Q := ⟨d, e, hv, hu, a, pure_ne pd, by omega, q⟩
theorem r_eqP {H : Hp} {Q : VK} {v u : V} {d e : PyData} (hv : Dp K H v d) (hu : Dp K H u e) (pd : pureD d = true) (pe : pureD e = true) (dd : d.depth ≤ 30) (de : e.depth ≤ 30) (q : Q (.bl (PyData.eqv d e)) H) : rEqD K v u H Q := r_eqD hv hu (shaped_pure pd (by omega)) (shaped_pure pe (by omega)) q
theorem nat_of {d : Int} {n : Int} (h0 : 0 ≤ d) (h1 : d < n) : ∃ b : Nat, d = (b : Int) ∧ (b : Int) < n := ⟨d.toNat, by omega, by omega⟩
end
end My

set_option Elab.async false
set_option linter.all false
set_option maxRecDepth 100000
set_option maxHeartbeats 4000000
namespace My
open PySem PySem.Spec PyProof.Rows L2
open C8 (tCut pss_cut)
open PySem.W (alike dataLt)
local macro_rules | `(tactic| walk_at "side") => `(tactic| (first | with_reducible assumption | with_reducible exact rfl | omega | decide +kernel | exact ⟨by omega, by omega⟩ | exact Nat.le_of_ble_eq_true rfl | exact Or.inl ⟨by omega, by omega⟩ | exact Or.inr ⟨by omega, by omega⟩ | (intro hh; cases hh; done) | (simp; omega)))
local macro_rules | `(tactic| walk_at "trT") => `(tactic| (with_reducible first | assumption | (refine' SqT.of ?z; (case z => assumption)) | (refine' ex_t ?e ?h; (case e => assumption); case h => walk_at "trT") | (refine' but_t ?e ?g ?h; (case e => assumption); (case g => assumption); case h => walk_at "trT")))
local macro_rules | `(tactic| walk_at "trL") => `(tactic| (with_reducible first | assumption | (refine' SqL.of ?z; (case z => assumption)) | (refine' ex_l ?e ?h; (case e => assumption); case h => walk_at "trL")))
local macro_rules | `(tactic| walk_at "rd1") => `(tactic| first
  | ((with_reducible refine r_seq ?_))
  | ((with_reducible refine r_asgN ?_))
  | ((with_reducible refine r_ret ?_))
  | ((with_reducible refine r_retN ?_))
  | ((with_reducible refine r_drop ?_))
  | ((with_reducible refine r_ifS ?_))
  | ((with_reducible refine r_next ?_))
  | ((with_reducible refine r_brk ?_))
  | ((with_reducible refine r_cont ?_))
  | ((with_reducible refine r_for ?_))
  | ((with_reducible refine r_iStr ?_))
  | ((with_reducible refine r_iStr1 ?_))
  | ((with_reducible refine r_iList ?_))
  | ((with_reducible refine r_iTup ?_))
  | ((with_reducible refine r_iRng1 ?_))
  | ((with_reducible refine r_iRng2 ?_))
  | ((with_reducible refine' r_var ?k1 ?_); (case k1 => with_unfolding_all rfl))
  | ((with_reducible refine r_c ?_))
  | ((with_reducible refine r_op ?_))
  | ((with_reducible refine r_un ?_))
  | ((with_reducible refine r_if ?_))
  | ((with_reducible refine r_fn ?_))
  | ((with_reducible refine r_cb ?_))
  | ((with_reducible refine r_cons ?_))
  | ((with_reducible refine r_nil ?_))
  | ((with_reducible refine r_test ?_))
  | ((with_reducible refine r_tB ?_))
  | ((with_reducible refine r_and ?_))
  | ((with_reducible refine r_or ?_))
  | ((with_reducible refine r_not ?_))
  | ((with_reducible refine r_chain ?_))
  | ((with_reducible refine r_andV ?_))
  | ((with_reducible refine r_orV ?_))
  | ((with_reducible refine r_notV ?_))
  | ((with_reducible refine r_tup ?_))
  | ((with_reducible refine r_lst ?_))
  | ((with_reducible refine r_sl ?_))
  | ((with_reducible refine r_noPart ?_))
  | ((with_reducible refine r_part ?_))
  | ((with_reducible refine r_bl ?_))
  | ((with_reducible refine r_exI ?_))
  | ((with_reducible refine r_I0 ?_))
  | ((with_reducible refine r_U ?_))
  | ((with_reducible refine r_eqI ?_))
  | ((with_reducible refine r_eqS ?_))
  | ((with_reducible refine r_eqB ?_))
  | ((with_reducible refine r_neI ?_))
  | ((with_reducible refine r_neS ?_))
  | ((with_reducible refine r_neB ?_))
  | ((with_reducible refine r_int ?_))
  | ((with_reducible refine r_inS ?_))
  | ((with_reducible refine r_notInS ?_))
  | ((with_reducible refine r_bm ?_))
  | ((with_reducible refine r_up ?_))
  | ((with_reducible refine r_low ?_))
  | ((with_reducible refine' r_up1 ?k1 ?_); (case k1 => walk_at "side"))
  | ((with_reducible refine' r_low1 ?k1 ?_); (case k1 => walk_at "side"))
  | ((with_reducible refine' r_newL ?k1 ?_); (case k1 => walk_at "side"))
  | ((with_reducible refine' r_newT ?k1 ?_); (case k1 => walk_at "side"))
  | ((with_reducible refine r_asg ?_))
  | ((with_reducible refine r_gName ?_))
  | ((with_reducible refine r_sub ?_))
  | ((with_reducible refine' r_I ?k1 ?_); (case k1 => walk_at "side"))
  | ((with_reducible refine' r_lenS ?k1 ?_); (case k1 => walk_at "side"))
  | ((with_reducible refine' r_addS ?k1 ?_); (case k1 => walk_at "side"))
  | ((with_reducible refine r_iteT ?_))
  | ((with_reducible refine r_iteF ?_))
  | ((with_reducible refine r_iteNT ?_))
  | ((with_reducible refine r_iteNF ?_))
  | ((with_reducible refine' r_iteDp ?k1 ?_); (case k1 => walk_at "side"))
  | ((with_reducible refine' r_iteDn ?k1 ?_); (case k1 => walk_at "side"))
  | ((with_reducible refine' r_iteNp ?k1 ?_); (case k1 => walk_at "side"))
  | ((with_reducible refine' r_iteNn ?k1 ?_); (case k1 => walk_at "side"))
  | ((with_reducible refine' r_iList1 ?k1 ?k2 ?_); (case k2 => walk_at "trL"))
  | ((with_reducible refine' r_iTup1 ?k1 ?k2 ?_); (case k2 => walk_at "trT"))
  | ((with_reducible refine' r_iRng11 ?k1 ?_); (case k1 => walk_at "side"))
  | ((with_reducible refine' r_iRng21 ?k1 ?_); (case k1 => walk_at "side"))
  | ((with_reducible refine' r_ixL ?k1 ?k2 ?_); (case k1 => walk_at "trL"); (case k2 => with_unfolding_all rfl))
  | ((with_reducible refine' r_ixT ?k1 ?k2 ?_); (case k1 => walk_at "trT"); (case k2 => with_unfolding_all rfl))
  | ((with_reducible refine' r_lenT ?k1 ?_); (case k1 => walk_at "trT"))
  | ((with_reducible refine' r_lenL ?k1 ?_); (case k1 => walk_at "trL"))
  | ((with_reducible refine' r_slS ?k1 ?_); (case k1 => walk_at "side"))
  | ((with_reducible refine' r_isiBt ?k1 ?_); (case k1 => decide +kernel))
  | ((with_reducible refine' r_isiBf ?k1 ?_); (case k1 => decide +kernel))
  | ((with_reducible refine' r_isiIt ?k1 ?_); (case k1 => decide +kernel))
  | ((with_reducible refine' r_isiIf ?k1 ?_); (case k1 => decide +kernel))
  | ((with_reducible refine' r_isiSt ?k1 ?_); (case k1 => decide +kernel))
  | ((with_reducible refine' r_isiSf ?k1 ?_); (case k1 => decide +kernel))
  | ((with_reducible refine' r_isiTt ?k1 ?k2 ?_); (case k1 => walk_at "trT"); (case k2 => decide +kernel))
  | ((with_reducible refine' r_isiTf ?k1 ?k2 ?_); (case k1 => walk_at "trT"); (case k2 => decide +kernel))
  | ((with_reducible refine r_yes ?_))
  | ((with_reducible refine r_lc ?_))
  | ((with_reducible refine r_endsW ?_))
  | ((with_reducible refine r_split ?_))
  | ((with_reducible refine r_join ?_))
  | ((with_reducible refine r_revL ?_))
  | ((with_reducible refine' r_revL1 ?k1 ?_); (case k1 => walk_at "trL"))
  | ((with_reducible refine' r_backT ?k1 ?_); (case k1 => walk_at "trT"))
  | ((with_reducible refine r_strAnd ?_))
  | ((with_reducible refine r_asc ?_))
  | ((with_reducible refine r_asc1 ?_))
  | ((with_reducible refine r_two ?_))
  | ((with_reducible refine r_fnS ?_))
  | ((with_reducible refine r_raise ?_))
  | ((with_reducible refine r_isN ?_))
  | ((with_reducible refine r_notN ?_))
  | ((with_reducible refine r_tryAs ?_))
  | ((with_reducible refine r_find ?_))
  | ((with_reducible refine r_gFor ?_))
  | ((with_reducible refine' r_gYield ?k1 ?_); (case k1 => walk_at "side"))
  | ((with_reducible refine r_gNil ?_))
  | ((with_reducible refine r_gSeq ?_))
  | ((with_reducible refine r_gPlain ?_))
  | ((with_reducible refine r_listGen ?_))
  | ((with_reducible refine r_iZip ?_))
  | ((with_reducible refine r_gCons ?_))
  | ((with_reducible refine r_gNil2 ?_))
  | ((with_reducible refine' r_aug ?k1 ?_); (case k1 => with_unfolding_all rfl))
  | ((with_reducible refine r_ipI ?_))
  | ((with_reducible refine r_min2 ?_))
  | ((with_reducible refine r_max2 ?_))
  | ((with_reducible refine r_fld ?_))
  | ((with_reducible refine r_sFld ?_))
  | ((with_reducible refine r_aFld ?_))
  | ((with_reducible refine r_mth ?_))
  | ((with_reducible refine r_mkC ?_))
  | ((with_reducible refine r_prp ?_))
  | ((with_reducible refine r_fnK ?_)))
local macro_rules | `(tactic| walk_at "rd") => `(tactic| repeat walk_at "rd1")
local macro_rules | `(tactic| walk_at "en") => `(tactic| ((try dsimp only [nox_K, cx_K, gcx_K]); walk_at "rd"))
local macro_rules | `(tactic| walk_at "sp") => `(tactic| first
  | with_reducible refine r_iteD ?_ ?_
  | with_reducible refine r_iteN ?_ ?_
  | with_reducible refine r_ite ?_ ?_)
def topS (i : Nat) : Stmt := PySem.Challenge.pw_provenames_k09_signatures.main.body.getD i (.Pass ⟨0, 0, 0, 0⟩)
abbrev s_sign_set : Stmt := topS 1
theorem sc_sign_set : FnScope ["signer", "record_set", "zone", "edition", "start", "end", "number"] ["signer", "record_set", "zone", "edition", "start", "end"] (defScope s_sign_set) := ⟨rfl, rfl, rfl, by decide +kernel, rfl, by decide +kernel, by decide +kernel⟩
abbrev s_is_valid : Stmt := topS 2
theorem sc_is_valid : FnScope ["notary", "signature", "record_set", "time", "zone", "key", "edition", "start", "end", "number"] ["notary", "signature", "record_set", "time"] (defScope s_is_valid) := ⟨rfl, rfl, rfl, by decide +kernel, rfl, by decide +kernel, by decide +kernel⟩
abbrev s_Signer___init__ : Stmt := inClass (topS 4) 0
theorem sc_Signer___init__ : FnScope ["self", "key", "signings"] ["self", "key", "signings"] (defScope s_Signer___init__) := ⟨rfl, rfl, rfl, by decide +kernel, rfl, by decide +kernel, by decide +kernel⟩
abbrev s_Signer_key : Stmt := inClass (topS 4) 1
theorem sc_Signer_key : FnScope ["self"] ["self"] (defScope s_Signer_key) := ⟨rfl, rfl, rfl, by decide +kernel, rfl, by decide +kernel, by decide +kernel⟩
abbrev s_Signer_sign : Stmt := inClass (topS 4) 2
theorem sc_Signer_sign : FnScope ["self", "content"] ["self", "content"] (defScope s_Signer_sign) := ⟨rfl, rfl, rfl, by decide +kernel, rfl, by decide +kernel, by decide +kernel⟩
abbrev s_Notary___init__ : Stmt := inClass (topS 5) 0
theorem sc_Notary___init__ : FnScope ["self"] ["self"] (defScope s_Notary___init__) := ⟨rfl, rfl, rfl, by decide +kernel, rfl, by decide +kernel, by decide +kernel⟩
abbrev s_Notary_new_signer : Stmt := inClass (topS 5) 1
theorem sc_Notary_new_signer : FnScope ["self", "signer"] ["self"] (defScope s_Notary_new_signer) := ⟨rfl, rfl, rfl, by decide +kernel, rfl, by decide +kernel, by decide +kernel⟩
abbrev s_Notary_holds : Stmt := inClass (topS 5) 2
theorem sc_Notary_holds : FnScope ["self", "key", "content", "number"] ["self", "key", "content", "number"] (defScope s_Notary_holds) := ⟨rfl, rfl, rfl, by decide +kernel, rfl, by decide +kernel, by decide +kernel⟩
abbrev s_Notary___len__ : Stmt := inClass (topS 5) 3
theorem sc_Notary___len__ : FnScope ["self"] ["self"] (defScope s_Notary___len__) := ⟨rfl, rfl, rfl, by decide +kernel, rfl, by decide +kernel, by decide +kernel⟩
abbrev s__law_cell : Stmt := topS 7
theorem sc__law_cell : FnScope ["script", "k", "total", "cell"] ["script", "k"] (defScope s__law_cell) := ⟨rfl, rfl, rfl, by decide +kernel, rfl, by decide +kernel, by decide +kernel⟩
abbrev s__law_source : Stmt := topS 8
theorem sc__law_source : FnScope ["cell"] ["cell"] (defScope s__law_source) := ⟨rfl, rfl, rfl, by decide +kernel, rfl, by decide +kernel, by decide +kernel⟩
abbrev s__law_draw : Stmt := topS 9
theorem sc__law_draw : FnScope ["source", "many", "digit"] ["source", "many"] (defScope s__law_draw) := ⟨rfl, rfl, rfl, by decide +kernel, rfl, by decide +kernel, by decide +kernel⟩
abbrev s__law_label : Stmt := topS 10
theorem sc__law_label : FnScope ["source", "chars", "choice", "label", "k", "labels"] ["source"] (defScope s__law_label) := ⟨rfl, rfl, rfl, by decide +kernel, rfl, by decide +kernel, by decide +kernel⟩
abbrev s__law_name : Stmt := topS 11
theorem sc__law_name : FnScope ["source", "count", "shape", "labels", "k"] ["source"] (defScope s__law_name) := ⟨rfl, rfl, rfl, by decide +kernel, rfl, by decide +kernel, by decide +kernel⟩
abbrev s__law_kinds : Stmt := topS 12
theorem sc__law_kinds : FnScope [] [] (defScope s__law_kinds) := ⟨rfl, rfl, rfl, by decide +kernel, rfl, by decide +kernel, by decide +kernel⟩
abbrev s__law_word : Stmt := topS 13
theorem sc__law_word : FnScope ["source", "choice"] ["source"] (defScope s__law_word) := ⟨rfl, rfl, rfl, by decide +kernel, rfl, by decide +kernel, by decide +kernel⟩
abbrev s__law_text : Stmt := topS 14
theorem sc__law_text : FnScope ["source", "chars", "size", "shape", "text", "k"] ["source"] (defScope s__law_text) := ⟨rfl, rfl, rfl, by decide +kernel, rfl, by decide +kernel, by decide +kernel⟩
abbrev s__law_value : Stmt := topS 15
theorem sc__law_value : FnScope ["kind", "source", "choice", "number", "kinds", "each"] ["kind", "source"] (defScope s__law_value) := ⟨rfl, rfl, rfl, by decide +kernel, rfl, by decide +kernel, by decide +kernel⟩
abbrev s__law_same : Stmt := topS 16
theorem sc__law_same : FnScope ["actual", "expected", "k"] ["actual", "expected"] (defScope s__law_same) := ⟨rfl, rfl, rfl, by decide +kernel, rfl, by decide +kernel, by decide +kernel⟩
abbrev s__law_sorted : Stmt := topS 17
theorem sc__law_sorted : FnScope ["values", "row", "value", "place", "other"] ["values"] (defScope s__law_sorted) := ⟨rfl, rfl, rfl, by decide +kernel, rfl, by decide +kernel, by decide +kernel⟩
abbrev s__law_record_set : Stmt := topS 18
theorem sc__law_record_set : FnScope ["source", "kind", "values", "k", "name"] ["source"] (defScope s__law_record_set) := ⟨rfl, rfl, rfl, by decide +kernel, rfl, by decide +kernel, by decide +kernel⟩
abbrev s__law_window : Stmt := topS 19
theorem sc__law_window : FnScope ["source", "low", "choice", "high"] ["source"] (defScope s__law_window) := ⟨rfl, rfl, rfl, by decide +kernel, rfl, by decide +kernel, by decide +kernel⟩
abbrev s__law_near_words : Stmt := topS 20
theorem sc__law_near_words : FnScope ["number", "each"] ["number"] (defScope s__law_near_words) := ⟨rfl, rfl, rfl, by decide +kernel, rfl, by decide +kernel, by decide +kernel⟩
abbrev s__law_near_names : Stmt := topS 21
theorem sc__law_near_names : FnScope ["name", "near"] ["name"] (defScope s__law_near_names) := ⟨rfl, rfl, rfl, by decide +kernel, rfl, by decide +kernel, by decide +kernel⟩
abbrev s__law_near_signatures : Stmt := topS 22
theorem sc__law_near_signatures : FnScope ["made", "near", "name", "place", "number"] ["made"] (defScope s__law_near_signatures) := ⟨rfl, rfl, rfl, by decide +kernel, rfl, by decide +kernel, by decide +kernel⟩
abbrev s__law_near_sets : Stmt := topS 23
theorem sc__law_near_sets : FnScope ["record_set", "near", "name", "number", "kind"] ["record_set"] (defScope s__law_near_sets) := ⟨rfl, rfl, rfl, by decide +kernel, rfl, by decide +kernel, by decide +kernel⟩
abbrev s__law_times : Stmt := topS 24
theorem sc__law_times : FnScope ["made", "times", "number"] ["made"] (defScope s__law_times) := ⟨rfl, rfl, rfl, by decide +kernel, rfl, by decide +kernel, by decide +kernel⟩
abbrev s__law_asks : Stmt := topS 25
theorem sc__law_asks : FnScope ["notary", "signings", "made", "record_set", "time", "expected", "actual"] ["notary", "signings", "made", "record_set", "time"] (defScope s__law_asks) := ⟨rfl, rfl, rfl, by decide +kernel, rfl, by decide +kernel, by decide +kernel⟩
abbrev s__law_signed : Stmt := topS 26
theorem sc__law_signed : FnScope ["signer", "how", "made", "record_set"] ["signer", "how", "made", "record_set"] (defScope s__law_signed) := ⟨rfl, rfl, rfl, by decide +kernel, rfl, by decide +kernel, by decide +kernel⟩
abbrev s__law_chosen : Stmt := topS 27
theorem sc__law_chosen : FnScope ["earlier", "fresh", "source"] ["earlier", "fresh", "source"] (defScope s__law_chosen) := ⟨rfl, rfl, rfl, by decide +kernel, rfl, by decide +kernel, by decide +kernel⟩
abbrev s__law_all : Stmt := topS 28
theorem sc__law_all : FnScope ["notary", "signings", "signatures", "sets", "k", "made", "time", "record_set", "near"] ["notary", "signings", "signatures", "sets"] (defScope s__law_all) := ⟨rfl, rfl, rfl, by decide +kernel, rfl, by decide +kernel, by decide +kernel⟩
abbrev s_law : Stmt := topS 29
theorem sc_law : FnScope ["script", "size", "notary", "signers", "k", "signings", "signatures", "sets", "source", "record_set", "apex", "made", "window", "key", "how", "content"] ["script"] (defScope s_law) := ⟨rfl, rfl, rfl, by decide +kernel, rfl, by decide +kernel, by decide +kernel⟩
structure Txt (K : PySem.W.Frag) (mg : Str → Option Value) where
  m_bool : mg "bool" = none
  m_int : mg "int" = none
  m_isinstance : mg "isinstance" = none
  m_len : mg "len" = none
  m_max : mg "max" = none
  m_min : mg "min" = none
  m_range : mg "range" = none
  m_str : mg "str" = none
  m_tuple : mg "tuple" = none
  d_sign_set : DefK K mg "sign_set" 2 ["zone", "edition", "start", "end"] ["signer", "record_set", "zone", "edition", "start", "end"] s_sign_set
  d_is_valid : Def1 K mg "is_valid" ["notary", "signature", "record_set", "time"] s_is_valid
  d__law_cell : Def1 K mg "_law_cell" ["script", "k"] s__law_cell
  d__law_source : Def1 K mg "_law_source" ["cell"] s__law_source
  d__law_draw : Def1 K mg "_law_draw" ["source", "many"] s__law_draw
  d__law_label : Def1 K mg "_law_label" ["source"] s__law_label
  d__law_name : Def1 K mg "_law_name" ["source"] s__law_name
  d__law_kinds : Def1 K mg "_law_kinds" [] s__law_kinds
  d__law_word : Def1 K mg "_law_word" ["source"] s__law_word
  d__law_text : Def1 K mg "_law_text" ["source"] s__law_text
  d__law_value : Def1 K mg "_law_value" ["kind", "source"] s__law_value
  d__law_same : Def1 K mg "_law_same" ["actual", "expected"] s__law_same
  d__law_sorted : Def1 K mg "_law_sorted" ["values"] s__law_sorted
  d__law_record_set : Def1 K mg "_law_record_set" ["source"] s__law_record_set
  d__law_window : Def1 K mg "_law_window" ["source"] s__law_window
  d__law_near_words : Def1 K mg "_law_near_words" ["number"] s__law_near_words
  d__law_near_names : Def1 K mg "_law_near_names" ["name"] s__law_near_names
  d__law_near_signatures : Def1 K mg "_law_near_signatures" ["made"] s__law_near_signatures
  d__law_near_sets : Def1 K mg "_law_near_sets" ["record_set"] s__law_near_sets
  d__law_times : Def1 K mg "_law_times" ["made"] s__law_times
  d__law_asks : Def1 K mg "_law_asks" ["notary", "signings", "made", "record_set", "time"] s__law_asks
  d__law_signed : Def1 K mg "_law_signed" ["signer", "how", "made", "record_set"] s__law_signed
  d__law_chosen : Def1 K mg "_law_chosen" ["earlier", "fresh", "source"] s__law_chosen
  d__law_all : Def1 K mg "_law_all" ["notary", "signings", "signatures", "sets"] s__law_all
  d_law : Def1 K mg "law" ["script"] s_law
  a_Signer : Addr
  g_Signer : mg "Signer" = some (.ref a_Signer)
  cl_Signer : Cls K a_Signer
  n_Signer__key : NoAttr K a_Signer "_key"
  n_Signer__signings : NoAttr K a_Signer "_signings"
  a_Notary : Addr
  g_Notary : mg "Notary" = some (.ref a_Notary)
  cl_Notary : Cls K a_Notary
  n_Notary__many_signers : NoAttr K a_Notary "_many_signers"
  n_Notary__signings : NoAttr K a_Notary "_signings"
  d_Signer___init__ : DefI K a_Signer "Signer.__init__" ["self", "key", "signings"] s_Signer___init__
  d_Signer_key : DefP K a_Signer "key" "Signer.key" s_Signer_key
  d_Signer_sign : DefM K a_Signer "sign" "Signer.sign" ["self", "content"] s_Signer_sign
  d_Notary___init__ : DefI K a_Notary "Notary.__init__" ["self"] s_Notary___init__
  d_Notary_new_signer : DefM K a_Notary "new_signer" "Notary.new_signer" ["self"] s_Notary_new_signer
  d_Notary_holds : DefM K a_Notary "holds" "Notary.holds" ["self", "key", "content", "number"] s_Notary_holds
  d_Notary___len__ : DefM K a_Notary "__len__" "Notary.__len__" ["self"] s_Notary___len__
section
variable {P : Program} {w : World} {K : PySem.W.Frag} {mg : Str → Option Value} {base : Heap}
theorem ok__law_draw (T : Txt K mg) : Fn P w K mg base 1 "_law_draw" ["source", "many"] spDraw := by
  refine T.d__law_draw.ok sc__law_draw (by rintro vs H Q E ⟨_, _, rfl, _⟩; rfl) (fun f cdv A outer s H vs Q E hr h => ?_)
  obtain ⟨a, m, rfl, ⟨x, y, z, hS, hy⟩, h0, h1, k⟩ := h
  refine ⟨_, (pss_cons (ps_if (pt_cmpR op_eq (pe_ix ix_list (pv 0) pe_int (fun _ _ => rfl)) pe_int (nomark _))
  (pss_cons (ps_set (i := 2) sc__law_draw.nd rfl (.inl rfl) (pe_op op_mod (pe_callTy cInt (by rfl) T.m_int (by decide +kernel) (pa_cons (pe_ix ix_list (pv 0) pe_int (fun _ _ => rfl)) pa_nil)) (pv 1)))
  (pss_cons (ps_asg (pe_op op_fdiv (pe_ix ix_list (pv 0) pe_int (fun _ _ => rfl)) (pv 1)) (pg_sub (pv 0) pe_int set_list))
  (pss_one (ps_ret (pv 2)))))
  pss_nil)
  (pss_cons (ps_asg (pe_op op_mod (pe_callTy cInt (by rfl) T.m_int (by decide +kernel) (pa_cons (pe_op op_add (pe_op op_mul (pe_ix ix_list (pv 0) pe_int (fun _ _ => rfl)) pe_int) pe_int) pa_nil)) pe_int) (pg_sub (pv 0) pe_int set_list))
  (pss_cons (ps_asg (pe_op op_mod (pe_callTy cInt (by rfl) T.m_int (by decide +kernel) (pa_cons (pe_op op_add (pe_op op_add (pe_op op_mul (pe_ix ix_list (pv 0) pe_int (fun _ _ => rfl)) pe_int) (pe_ix ix_list (pv 0) pe_int (fun _ _ => rfl))) pe_int) pa_nil)) pe_int) (pg_sub (pv 0) pe_int set_list))
  (pss_one (ps_ret (pe_op op_mod (pe_callTy cInt (by rfl) T.m_int (by decide +kernel) (pa_cons (pe_ix ix_list (pv 0) pe_int (fun _ _ => rfl)) pa_nil)) (pv 1))))))), ?_⟩
  walk_at "en"
  walk_at "sp" <;> intro hy0
  · walk_at "rd"
    refine r_setL hS rfl fun H1 b1 e1 => ?_
    walk_at "rd"
    exact k _ _ b1 ⟨_, _, _, e1, .inl hy0⟩ (Int.emod_nonneg _ (by omega)) (Int.emod_lt_of_pos _ h0)
  · have hy := hy.resolve_left hy0
    walk_at "rd"
    refine r_setL hS rfl fun H1 b1 e1 => ?_
    have e1 : H1 a = some (.lst [.int ((x * 48271 + 69621) % 2147483647), .int y, .int z]) := e1
    have hx0 := Int.emod_nonneg (x * 48271 + 69621) (show (2147483647 : Int) ≠ 0 by decide)
    have hx1 := Int.emod_lt_of_pos (x * 48271 + 69621) (show (0 : Int) < 2147483647 by decide)
    walk_at "rd"
    refine r_setL e1 rfl fun H2 b2 e2 => ?_
    walk_at "rd"
    refine k _ _ (b1.trans b2) ⟨_, _, _, e2, .inr ⟨hx0, by omega, Int.emod_nonneg _ (by decide), ?_⟩⟩ (Int.emod_nonneg _ (by omega)) (Int.emod_lt_of_pos _ h0)
    exact Int.lt_trans (Int.emod_lt_of_pos _ (by decide)) (by decide)
theorem ok__law_source (T : Txt K mg) : Fn P w K mg base 1 "_law_source" ["cell"] spSource := by
  refine T.d__law_source.ok sc__law_source (by rintro vs H Q E ⟨_, rfl, _⟩; rfl) (fun f cdv A outer s H vs Q E hr h => ?_)
  obtain ⟨n, rfl, k⟩ := h
  refine ⟨_, (pss_cons (ps_if (pt_cmpR op_ge (pv 0) (pe_op op_pow pe_int pe_int) (nomark _))
  (pss_one (ps_ret (pe_lst (pa_cons (pe_op op_sub (pv 0) (pe_op op_pow pe_int pe_int)) (pa_cons pe_int (pa_cons pe_int pa_nil))))))
  pss_nil)
  (pss_one (ps_ret (pe_lst (pa_cons (pe_op op_mod (pe_callTy cInt (by rfl) T.m_int (by decide +kernel) (pa_cons (pv 0) pa_nil)) pe_int) (pa_cons pe_int (pa_cons pe_int pa_nil))))))), ?_⟩
  walk_at "en"
  walk_at "sp" <;> intro hn
  · walk_at "rd"
    intro p H1 n1 e1 hp
    exact k _ _ e1 n1 ⟨_, _, _, hp, .inl rfl⟩
  · walk_at "rd"
    intro p H1 n1 e1 hp
    exact k _ _ e1 n1 ⟨_, _, _, hp, .inr ⟨Int.emod_nonneg _ (by decide), Int.lt_trans (Int.emod_lt_of_pos _ (by decide)) (by decide), by decide, by decide⟩⟩
theorem ok__law_cell (T : Txt K mg) : Fn P w K mg base 1 "_law_cell" ["script", "k"] (spCell K) := by
  refine T.d__law_cell.ok sc__law_cell (by rintro vs H Q E ⟨_, _, _, rfl, _⟩; rfl) (fun f cdv A outer s H vs Q E hr h => ?_)
  obtain ⟨l, ns, n, rfl, hL, hlen, h0, h1, k⟩ := h
  refine ⟨_, (pss_cons (ps_if (pt_cmpR op_lt (pv 1) (pe_callB cLenQ (by rfl) T.m_len PySem.boot_len (pa_cons (pv 0) pa_nil)) (nomark _))
  (pss_one (ps_ret (pe_callTy cInt (by rfl) T.m_int (by decide +kernel) (pa_cons (pe_ix ix_list (pv 0) (pv 1) (fun _ _ => rfl)) pa_nil))))
  pss_nil)
  (pss_cons (ps_set (i := 2) sc__law_cell.nd rfl (.inl rfl) (pe_op op_add (pe_op op_mul pe_int (pv 1)) pe_int))
  (pss_cons (ps_for PassesOwn.never rfl (pi_list (pv 0)) (pg_name (i := 3) sc__law_cell.nd rfl (.inl rfl))
  (pss_one (ps_set (i := 2) sc__law_cell.nd rfl (.inl rfl) (pe_op op_mod (pe_callTy cInt (by rfl) T.m_int (by decide +kernel) (pa_cons (pe_op op_add (pe_op op_mul (pv 2) pe_int) (pv 3)) pa_nil)) pe_int))))
  (pss_one (ps_ret (pv 2)))))), ?_⟩
  walk_at "en"
  walk_at "sp" <;> intro hn
  · walk_at "rd"
    obtain ⟨v, hv, ha, _⟩ := atI_in (xs := ns.map V.int) h0 hn
    obtain ⟨c, _, rfl⟩ := List.mem_map.mp hv
    refine r_ixL hL ha ?_
    walk_at "rd"
    exact k c
  · walk_at "rd"
    refine loopL (xs := ns.map V.int) (fun i σ' H' => (∃ t v, σ' = [some (.ref l), some (.int n), some (.int t), v] ∧ 0 ≤ t ∧ t ≤ 2147483629) ∧ H' = H) ⟨⟨_, _, rfl, by omega, by omega⟩, rfl⟩ (by rintro i σ' H' _ ⟨_, rfl⟩; exact hL) ?_ ?_
    · rintro i x σ' H' hi ⟨⟨t, v, rfl, ht0, ht1⟩, rfl⟩
      obtain ⟨c, _, rfl⟩ := List.mem_map.mp (List.mem_of_getElem? hi)
      walk_at "rd"
      exact ⟨⟨_, _, rfl, Int.emod_nonneg _ (by decide), Int.le_of_lt (Int.emod_lt_of_pos _ (by decide))⟩, rfl⟩
    · rintro σ' H' ⟨⟨t, v, rfl, ht0, ht1⟩, rfl⟩
      walk_at "rd"
      exact k t

def LabP (v : V) : Prop := ∃ z : Str, v = .str z ∧ plainB z = true
theorem ok__law_label (T : Txt K mg) : Fn P w K mg base 2 "_law_label" ["source"] (spDrawn fun _ v => LabP v) := by
  refine T.d__law_label.ok sc__law_label (by rintro vs H Q E ⟨_, rfl, _⟩; rfl) (fun f cdv A outer s H vs Q E hr h => ?_)
  obtain ⟨a, rfl, hS, k⟩ := h
  refine ⟨_, (pss_cons (ps_set (i := 1) sc__law_label.nd rfl (.inl rfl) pe_str)
  (pss_cons (ps_set (i := 2) sc__law_label.nd rfl (.inl rfl) (pe_fn (ok__law_draw T) hr (by rfl) (pa_cons (pv 0) (pa_cons pe_int pa_nil))))
  (pss_cons (ps_if (pt_cmpR op_eq (pv 2) pe_int (nomark _))
  (pss_cons (ps_set (i := 3) sc__law_label.nd rfl (.inl rfl) pe_str)
  (pss_cons (ps_for PassesOwn.never rfl (pi_range1 rfl T.m_range (pa_cons (pe_op op_add pe_int (pe_fn (ok__law_draw T) hr (by rfl) (pa_cons (pv 0) (pa_cons pe_int pa_nil)))) pa_nil)) (pg_name (i := 4) sc__law_label.nd rfl (.inl rfl))
  (pss_one (ps_set (i := 3) sc__law_label.nd rfl (.inl rfl) (pe_op oAddS (pv 3) (pe_ix ix_str (pv 1) (pe_fn (ok__law_draw T) hr (by rfl) (pa_cons (pv 0) (pa_cons pe_int pa_nil))) (fun _ _ => rfl))))))
  (pss_one (ps_ret (pv 3)))))
  pss_nil)
  (pss_cons (ps_if (pt_cmpR op_eq (pv 2) pe_int (nomark _))
  (pss_one (ps_ret (pe_op oAddS (pe_op oMulS pe_str (pe_fn (ok__law_draw T) hr (by rfl) (pa_cons (pv 0) (pa_cons pe_int pa_nil)))) (pe_ix ix_str (pv 1) (pe_fn (ok__law_draw T) hr (by rfl) (pa_cons (pv 0) (pa_cons pe_int pa_nil))) (fun _ _ => rfl)))))
  pss_nil)
  (pss_cons (ps_set (i := 5) sc__law_label.nd rfl (.inl rfl) (pe_lst (pa_cons pe_str (pa_cons pe_str (pa_cons pe_str (pa_cons pe_str (pa_cons pe_str (pa_cons pe_str (pa_cons pe_str (pa_cons pe_str (pa_cons pe_str (pa_cons pe_str (pa_cons pe_str (pa_cons pe_str pa_nil))))))))))))))
  (pss_one (ps_ret (pe_ix ix_list (pv 5) (pe_fn (ok__law_draw T) hr (by rfl) (pa_cons (pv 0) (pa_cons pe_int pa_nil))) (fun _ _ => rfl))))))))), ?_⟩
  have e37 : ((CH.cps.toList.length : Nat) : Int) = 37 := by decide +kernel
  walk_at "en"
  refine r_draw hS (by decide) (by decide) fun H1 d b1 s1 d0 d1 => ?_
  walk_at "rd"
  walk_at "sp" <;> intro hd
  · walk_at "rd"
    refine r_draw s1 (by decide) (by decide) fun H2 n b2 s2 n0 n1 => ?_
    walk_at "rd"
    refine loopR (fun i σ' H' => ∃ (z : Str) (v : Option V), σ' = [some (.ref a), some (.str CH), some (.int d), some (.str z), v, none] ∧ z.length = i ∧ (∀ c ∈ z.cps.toList, c ∈ CH.cps.toList) ∧ But a H H' ∧ Src H' a) ⟨_, _, rfl, by decide +kernel, by decide +kernel, b1.trans b2, s2⟩ ?_ ?_
    · rintro i σ' H' hi ⟨z, v, rfl, hz, hA, b3, s3⟩
      walk_at "rd"
      refine r_draw s3 (by decide) (by decide) fun H3 d3 b4 s4 d30 d31 => ?_
      obtain ⟨c, hc, ha, _⟩ := atI_in (xs := CH.cps.toList) d30 (by rw [e37]; exact d31)
      refine r_ixS (by decide +kernel) ha ?_
      refine r_addS (by rw [hz, len_one]; omega) ?_
      walk_at "rd"
      refine ⟨_, _, rfl, by rw [len_app, len_one, hz], ?_, b3.trans b4, s4⟩
      intro x hx
      rw [cps_app] at hx
      rcases List.mem_append.mp hx with hx | hx
      · exact hA x hx
      · rw [show x = c by simpa using hx]; exact hc
    · rintro σ' H' ⟨z, v, rfl, hz, hA, b3, s3⟩
      walk_at "rd"
      exact k _ _ b3 s3 ⟨z, rfl, plain_iff.mpr ⟨by omega, hA⟩⟩
  · walk_at "rd"
    walk_at "sp" <;> intro hd2
    · walk_at "rd"
      refine r_draw s1 (by decide) (by decide) fun H2 n b2 s2 n0 n1 => ?_
      refine r_mulS (by decide +kernel) ⟨n0, by omega⟩ fun y hy1 hy2 => ?_
      walk_at "rd"
      refine r_draw s2 (by decide) (by decide) fun H3 d3 b3 s3 d30 d31 => ?_
      obtain ⟨c, hc, ha, _⟩ := atI_in (xs := CH.cps.toList) d30 (by rw [e37]; exact d31)
      have ea : ("a" : Str).length = 1 := by decide +kernel
      rw [ea] at hy1
      refine r_ixS (by decide +kernel) ha ?_
      refine r_addS (by rw [len_one]; omega) ?_
      refine k _ _ ((b1.trans b2).trans b3) s3 ⟨_, rfl, plain_iff.mpr ⟨by rw [len_app, len_one]; omega, ?_⟩⟩
      intro x hx
      rw [cps_app] at hx
      rcases List.mem_append.mp hx with hx | hx
      · have h97 : ∀ c ∈ ("a" : Str).cps.toList, c ∈ CH.cps.toList := by decide +kernel
        exact h97 x (hy2 x hx)
      · rw [show x = c by simpa using hx]; exact hc
    · walk_at "rd"
      intro p H2 n2 e2 hp
      walk_at "rd"
      refine r_draw (s1.ex e2) (by decide) (by decide) fun H3 d3 b3 s3 d30 d31 => ?_
      obtain ⟨v, hv, ha, _⟩ := atI_in (xs := ["a", "b", "ab", "ba", "aa", "-", "0", "a-", "z", "zzzzzzzzzzzzzzzzzzzz", "9", "tree"].map fun s : String => V.str s) d30 d31
      have hpa : p ≠ a := by
        rintro rfl
        obtain ⟨xs, h⟩ := s1.lst
        rw [n2] at h; cases h
      refine r_ixL (SqL.of (b3 _ _ hpa hp)) ha ?_
      refine k _ _ ((b1.same' e2).trans b3) s3 ?_
      have key : ∀ s ∈ ["a", "b", "ab", "ba", "aa", "-", "0", "a-", "z", "zzzzzzzzzzzzzzzzzzzz", "9", "tree"], plainB (s : Str) = true := by decide +kernel
      obtain ⟨s, hs, rfl⟩ := List.mem_map.mp hv
      exact ⟨_, rfl, key s hs⟩
def NameV (K : PySem.W.Frag) (H : Hp) (v : V) : Prop := ∃ (p : Addr) (zs : List Str), v = .ref p ∧ SqT K H p (zs.map V.str) ∧ nameB zs = true
theorem ok__law_name (T : Txt K mg) : Fn P w K mg base 3 "_law_name" ["source"] (spDrawn (NameV K)) := by
  refine T.d__law_name.ok sc__law_name (by rintro vs H Q E ⟨_, rfl, _⟩; rfl) (fun f cdv A outer s H vs Q E hr h => ?_)
  obtain ⟨a, rfl, hS, k⟩ := h
  refine ⟨_, (pss_cons (ps_set (i := 1) sc__law_name.nd rfl (.inl rfl) (pe_fn (ok__law_draw T) (hr.mono (by decide)) (by rfl) (pa_cons (pv 0) (pa_cons pe_int pa_nil))))
  (pss_cons (ps_set (i := 2) sc__law_name.nd rfl (.inl rfl) (pe_fn (ok__law_draw T) (hr.mono (by decide)) (by rfl) (pa_cons (pv 0) (pa_cons pe_int pa_nil))))
  (pss_cut (ps_if (pt_cmpR op_eq (pv 2) pe_int (nomark _))
  (pss_one (ps_set (i := 1) sc__law_name.nd rfl (.inl rfl) (pe_op op_add pe_int (pe_op op_mod (pe_callTy cInt (by rfl) T.m_int (by decide +kernel) (pa_cons (pv 1) pa_nil)) pe_int))))
  pss_nil)
  (pss_cut (ps_if (pt_cmpR op_gt (pv 2) pe_int (nomark _))
  (pss_one (ps_set (i := 1) sc__law_name.nd rfl (.inl rfl) (pe_op op_mod (pe_callTy cInt (by rfl) T.m_int (by decide +kernel) (pa_cons (pv 1) pa_nil)) pe_int)))
  pss_nil)
  (pss_cons (ps_set (i := 3) sc__law_name.nd rfl (.inl rfl) (pe_lst pa_nil))
  (pss_cons (ps_for PassesOwn.never rfl (pi_range1 rfl T.m_range (pa_cons (pv 1) pa_nil)) (pg_name (i := 4) sc__law_name.nd rfl (.inl rfl))
  (pss_one (ps_expr (pe_bm PySem.F.plainAttrs_list PySem.F.slot_list_append PySem.F.type_list_append mt_append (pv 3) (pa_cons (pe_fn (ok__law_label T) hr (by rfl) (pa_cons (pv 0) pa_nil)) pa_nil)))))
  (pss_cut (ps_if (PW.pt (pw_and (pt_cmpR op_gt (pv 1) pe_int (nomark _)) (pw_and1 (pt_cmpR op_eq (pe_fn (ok__law_draw T) (hr.mono (by decide)) (by rfl) (pa_cons (pv 0) (pa_cons pe_int pa_nil))) pe_int (nomark _)))))
  (pss_one (ps_asg pe_str (pg_sub (pv 3) (pe_op op_sub (pv 1) pe_int) set_list)))
  pss_nil)
  (pss_one (ps_ret (pe_callTy cTupOf (by rfl) T.m_tuple (by decide +kernel) (pa_cons (pv 3) pa_nil))))))))))), ?_⟩
  walk_at "en"
  refine r_draw hS (by decide) (by decide) fun H1 d b1 s1 d0 d1 => ?_
  walk_at "rd"
  refine r_draw s1 (by decide) (by decide) fun H2 d2 b2 s2 d20 d21 => ?_
  walk_at "rd"
  refine r_cut (fun σ' H' => H' = H2 ∧ ∃ n : Int, 0 ≤ n ∧ n ≤ 12 ∧ σ' = [some (.ref a), some (.int n), some (.int d2), none, none]) ?_ ?_
  · walk_at "rd"
    walk_at "sp" <;> intro hd
    · walk_at "rd"
      exact ⟨rfl, _, by omega, by omega, rfl⟩
    · walk_at "rd"
      exact ⟨rfl, _, by omega, by omega, rfl⟩
  rintro σ' H' ⟨rfl, n, hn0, hn1, rfl⟩
  refine r_cut (fun σ' H'' => H'' = H' ∧ ∃ n : Int, 0 ≤ n ∧ n ≤ 12 ∧ σ' = [some (.ref a), some (.int n), some (.int d2), none, none]) ?_ ?_
  · walk_at "rd"
    walk_at "sp" <;> intro hd
    · walk_at "rd"
      exact ⟨rfl, _, by omega, by omega, rfl⟩
    · walk_at "rd"
      exact ⟨rfl, _, by omega, by omega, rfl⟩
  rintro σ' H3 ⟨rfl, n, hn0, hn1, rfl⟩
  walk_at "rd"
  intro p H4 n4 e4 hp
  walk_at "rd"
  have hpa : p ≠ a := by
    rintro rfl
    obtain ⟨xs, h⟩ := s2.lst
    rw [n4] at h; cases h
  have hbp : But a H H3 := b1.trans b2
  have hnp : H p = none := but_fresh hbp hpa n4
  refine loopR (fun i σ' H' => ∃ (zs : List Str) (v : Option V), σ' = [some (.ref a), some (.int n), some (.int d2), some (.ref p), v] ∧ zs.length = i ∧ (∀ z ∈ zs, plainB z = true) ∧ But a H H' ∧ Src H' a ∧ H' p = some (.lst (zs.map V.str))) ⟨[], _, rfl, rfl, by simp, hbp.same' e4, s2.ex e4, hp⟩ ?_ ?_
  · rintro i σ' H' hi ⟨zs, v, rfl, hz, hA, b5, s5, hp5⟩
    walk_at "rd"
    refine r_append hp5 ?_
    walk_at "rd"
    refine r_drawn s5 fun H7 v7 b7 s7 hv7 => ?_
    obtain ⟨y, rfl, hy⟩ := hv7
    walk_at "rd"
    refine r_append1 (b7 _ _ hpa hp5) (by rw [List.length_map]; omega) fun H8 b8 h8 => ?_
    refine ⟨zs ++ [y], _, rfl, by simp [hz], ?_, (b5.trans b7).step b8 hnp, s7.but b8 hpa.symm, by rw [h8, List.map_append]; rfl⟩
    intro x hx
    rcases List.mem_append.mp hx with hx | hx
    · exact hA x hx
    · rw [List.mem_singleton.mp hx]; exact hy
  rintro σ' H5 ⟨zs, v, rfl, hz, hA, b5, s5, hp5⟩
  have hfirst : nameB zs = true := name_yes (by omega) fun i y hy => .inl (hA y (List.mem_of_getElem? hy))
  refine r_cut (fun σ' H' => ∃ (zs : List Str) (v : Option V), σ' = [some (.ref a), some (.int n), some (.int d2), some (.ref p), v] ∧ nameB zs = true ∧ But a H H' ∧ Src H' a ∧ H' p = some (.lst (zs.map V.str))) ?_ ?_
  · walk_at "rd"
    walk_at "sp" <;> intro hn
    · walk_at "rd"
      refine r_draw s5 (by decide) (by decide) fun H6 d6 b6 s6 _ _ => ?_
      walk_at "rd"
      walk_at "sp" <;> intro hd6
      · walk_at "rd"
        refine r_setL (b6 _ _ hpa hp5) (ixN_in (by omega) (by rw [List.length_map, hz]; omega)) fun H9 b9 h9 => ?_
        refine ⟨zs.set (n - 1).toNat "*", v, rfl, ?_, (b5.trans b6).step b9 hnp, s6.but b9 hpa.symm, by rw [h9, List.map_set]⟩
        refine name_yes (by simp; omega) fun i y hy => ?_
        rw [List.getElem?_set] at hy
        split at hy
        · split at hy
          · rename_i h1 h2
            refine .inr ⟨?_, (Option.some.inj hy).symm⟩
            rw [List.length_set]; omega
          · cases hy
        · exact .inl (hA y (List.mem_of_getElem? hy))
      · walk_at "rd"
        exact ⟨zs, v, rfl, hfirst, b5.trans b6, s6, b6 _ _ hpa hp5⟩
    · walk_at "rd"
      exact ⟨zs, v, rfl, hfirst, b5, s5, hp5⟩
  clear hfirst hp5 s5 b5 hA hz v zs
  rintro σ' H5 ⟨zs, v, rfl, hz, b5, s5, hp5⟩
  walk_at "rd"
  refine r_tupOf (SqL.of hp5) fun l H6 n6 e6 h6 => ?_
  exact k _ _ (b5.same' e6) (s5.ex e6) ⟨l, zs, rfl, SqT.of h6, hz⟩

theorem ok__law_same (T : Txt K mg) : ∀ n, Fn P w K mg base n "_law_same" ["actual", "expected"] (spSame K n)
  | 0 => fn_false T.d__law_same
  | n + 1 => by
    have GR : Fn P w K mg base n "_law_same" ["actual", "expected"] (spSame K n) := ok__law_same T n
    refine T.d__law_same.ok sc__law_same (by rintro vs H Q E ⟨_, _, _, _, rfl, _⟩; rfl) (fun f cdv A outer s H vs Q E hr h => ?_)
    obtain ⟨v, u, d, e, rfl, hd, he, pd, pe, hdep, k⟩ := h
    refine ⟨_, (pss_cons (ps_if (pt_val (pe_callB call_isi (by rfl) T.m_isinstance (by decide +kernel) (pa_cons (pv 1) (pa_cons (pe_bltn (v := .ty "tuple") rfl T.m_tuple (by decide +kernel) rfl) pa_nil))))
  (pss_cons (ps_if (PW.pt (pw_or (pt_not (pt_val (pe_callB call_isi (by rfl) T.m_isinstance (by decide +kernel) (pa_cons (pv 0) (pa_cons (pe_bltn (v := .ty "tuple") rfl T.m_tuple (by decide +kernel) rfl) pa_nil))))) (pw_or1 (pt_cmpR op_ne (pe_callB cLenQ (by rfl) T.m_len PySem.boot_len (pa_cons (pv 0) pa_nil)) (pe_callB cLenQ (by rfl) T.m_len PySem.boot_len (pa_cons (pv 1) pa_nil)) (nomark _)))))
  (pss_one (ps_ret pe_bl))
  pss_nil)
  (pss_cons (ps_for PassesOwn.never rfl (pi_range1 rfl T.m_range (pa_cons (pe_callB cLenQ (by rfl) T.m_len PySem.boot_len (pa_cons (pv 1) pa_nil)) pa_nil)) (pg_name (i := 2) sc__law_same.nd rfl (.inl rfl))
  (pss_one (ps_if (pt_not (pt_val (pe_fn GR hr (by rfl) (pa_cons (pe_ix ix_tup (pv 0) (pv 2) (fun _ _ => rfl)) (pa_cons (pe_ix ix_tup (pv 1) (pv 2) (fun _ _ => rfl)) pa_nil)))))
  (pss_one (ps_ret pe_bl))
  pss_nil)))
  (pss_one (ps_ret pe_bl))))
  pss_nil)
  (pss_cons (ps_if (pt_val (pe_callB call_isi (by rfl) T.m_isinstance (by decide +kernel) (pa_cons (pv 1) (pa_cons (pe_bltn (v := .ty "str") rfl T.m_str (by decide +kernel) rfl) pa_nil))))
  (pss_one (ps_ret (pe_and (pe_callB call_isi (by rfl) T.m_isinstance (by decide +kernel) (pa_cons (pv 0) (pa_cons (pe_bltn (v := .ty "str") rfl T.m_str (by decide +kernel) rfl) pa_nil))) (pe_one (pe_cmpR (op_eqD hr.units) (pv 0) (pv 1) (nomark _))))))
  pss_nil)
  (pss_one (ps_ret (pe_and (pe_callB call_isi (by rfl) T.m_isinstance (by decide +kernel) (pa_cons (pv 0) (pa_cons (pe_bltn (v := .ty "int") rfl T.m_int (by decide +kernel) rfl) pa_nil))) (pe_and (pe_not (pe_callB call_isi (by rfl) T.m_isinstance (by decide +kernel) (pa_cons (pv 0) (pa_cons (pe_bltn (v := .ty "bool") rfl T.m_bool (by decide +kernel) rfl) pa_nil)))) (pe_one (pe_cmpR (op_eqD hr.units) (pv 0) (pv 1) (nomark _))))))))), ?_⟩
    walk_at "en"
    have ed : ∀ x : V, Dp K H x d → (∀ i, x = .int i → d = .int i) ∧ (∀ z, x = .str z → d = .str z) := fun x hx => by
      cases hx <;> constructor <;> intro z hz <;> cases hz <;> rfl
    cases he with
    | int j =>
      walk_at "rd"
      cases hd with
      | int i =>
        walk_at "rd"
        refine r_eqD (.int i) (.int j) (shaped_pure pd (by simp [PyData.depth])) (shaped_pure pe (by simp [PyData.depth])) ?_
        exact k
      | str y =>
        walk_at "rd"
        simpa [PyData.eqv] using k
      | tup ha hall =>
        walk_at "rd"
        simpa [PyData.eqv] using k
      | non => simp [pureD] at pd
      | bl b => simp [pureD] at pd
      | lst h1 h2 => simp [pureD] at pd
    | str y =>
      walk_at "rd"
      cases hd with
      | int i =>
        walk_at "rd"
        simpa [PyData.eqv] using k
      | str x =>
        walk_at "rd"
        refine r_eqD (.str x) (.str y) (shaped_pure pd (by simp [PyData.depth])) (shaped_pure pe (by simp [PyData.depth])) ?_
        exact k
      | tup ha hall =>
        walk_at "rd"
        simpa [PyData.eqv] using k
      | non => simp [pureD] at pd
      | bl b => simp [pureD] at pd
      | lst h1 h2 => simp [pureD] at pd
    | tup hb hall =>
      rename_i b ys es
      walk_at "rd"
      cases hd with
      | int i =>
        walk_at "rd"
        simpa [PyData.eqv] using k
      | str x =>
        walk_at "rd"
        simpa [PyData.eqv] using k
      | tup ha hall2 =>
        rename_i a xs ds
        walk_at "rd"
        have l1 := dpAll_len hall
        have l2 := dpAll_len hall2
        have kk : Q (.bl (PyData.eqvAll ds es)) H := by simpa [PyData.eqv] using k
        walk_at "sp" <;> intro hlen
        · walk_at "rd"
          rw [SeqAt.eqvAll_other_length (by omega)] at kk
          exact kk
        · have hwid : es.length ≤ 10000 := by simp [pureD] at pe; exact pe.1
          walk_at "rd"
          have hld : ds.length = es.length := by omega
          have hpa : ∀ x ∈ ds, pureD x = true := (pureAll_iff ds).mp (by simp [pureD] at pd; exact pd.2)
          have hpb : ∀ x ∈ es, pureD x = true := (pureAll_iff es).mp (by simp [pureD] at pe; exact pe.2)
          rw [Int.toNat_natCast, l1]
          refine loopR (fun i σ' H' => (∃ w, σ' = [some (.ref a), some (.ref b), w]) ∧ H' = H ∧ ∀ (j : Nat) (x y : PyData), j < i → ds[j]? = some x → es[j]? = some y → PyData.eqv x y = true) ⟨⟨_, rfl⟩, rfl, by intro j x y hj; omega⟩ ?_ ?_
          · rintro i σ' H' hi ⟨⟨w', rfl⟩, rfl, hyes⟩
            have hx := List.getElem?_eq_getElem (show i < ds.length by omega)
            have hy := List.getElem?_eq_getElem hi
            obtain ⟨v1, g1, q1⟩ := dpAll_get hall2 hx
            obtain ⟨v2, g2, q2⟩ := dpAll_get hall hy
            walk_at "rd"
            refine r_ixT ha (v := v1) (by rw [Int.zero_add]; exact atI_nat g1) ?_
            walk_at "rd"
            refine r_ixT hb (v := v2) (by rw [Int.zero_add]; exact atI_nat g2) ?_
            walk_at "rd"
            have hdx := depth_mem (List.getElem_mem hi)
            have hdd : (PyData.tuple es).depth = PyData.depthAll es + 1 := by simp [PyData.depth]
            cases n with
            | zero => omega
            | succ m =>
              refine ⟨v1, v2, _, _, rfl, q1, q2, hpa _ (List.getElem_mem _), hpb _ (List.getElem_mem _), by omega, ?_⟩
              walk_at "rd"
              cases hq : PyData.eqv (ds[i]'(by omega)) es[i] with
              | true =>
                walk_at "rd"
                refine ⟨⟨_, rfl⟩, rfl, fun j x y hj h1 h2 => ?_⟩
                by_cases e : j = i
                · subst e
                  rw [hx] at h1
                  rw [hy] at h2
                  cases h1
                  cases h2
                  exact hq
                · exact hyes j x y (by omega) h1 h2
              | false =>
                walk_at "rd"
                rw [eqvAll_no hx hy hq] at kk
                exact kk
          · rintro σ' H' ⟨⟨w', rfl⟩, rfl, hyes⟩
            walk_at "rd"
            rw [eqvAll_yes hld fun i d e h1 h2 => hyes i d e (List.getElem?_eq_some_iff.mp h2).1 h1 h2] at kk
            exact kk
      | non => simp [pureD] at pd
      | bl b => simp [pureD] at pd
      | lst h1 h2 => simp [pureD] at pd
    | non => simp [pureD] at pe
    | bl b => simp [pureD] at pe
    | lst h1 h2 => simp [pureD] at pe

def KS9 : List Str := ["address", "text", "mail", "alias", "server", "start", "key", "link", "gap"]
theorem KS9_asc : ∀ z ∈ KS9, Asc z ∧ z.length ≤ 7 := by decide +kernel
theorem NameV.d {H : Hp} {v : V} (h : NameV K H v) : ∃ d, Dp K H v d ∧ nameD d := by
  obtain ⟨p, zs, rfl, hs, hn⟩ := h
  exact ⟨dT zs, dp_tup hs, zs, rfl, fun z hz => (name_asc hn hz).2, name_len hn⟩
theorem ok__law_kinds (T : Txt K mg) : Fn P w K mg base 1 "_law_kinds" [] (fun vs H Q _ => vs = [] ∧ ∀ H' p, Same H H' → H p = none → H' p = some (.lst (KS9.map V.str)) → Q (.ref p) H') := by
  refine T.d__law_kinds.ok sc__law_kinds (by rintro vs H Q E ⟨rfl, _⟩; rfl) (fun f cdv A outer s H vs Q E hr h => ?_)
  obtain ⟨rfl, k⟩ := h
  refine ⟨_, (pss_one (ps_ret (pe_lst (pa_cons pe_str (pa_cons pe_str (pa_cons pe_str (pa_cons pe_str (pa_cons pe_str (pa_cons pe_str (pa_cons pe_str (pa_cons pe_str (pa_cons pe_str pa_nil)))))))))))), ?_⟩
  walk_at "en"
  intro p H1 n1 e1 hp
  exact k _ _ e1 n1 hp
theorem ok__law_word (T : Txt K mg) : Fn P w K mg base 2 "_law_word" ["source"] (spDrawn fun _ v => ∃ i : Int, v = .int i ∧ 0 ≤ i ∧ i ≤ 4294967295) := by
  refine T.d__law_word.ok sc__law_word (by rintro vs H Q E ⟨_, rfl, _⟩; rfl) (fun f cdv A outer s H vs Q E hr h => ?_)
  obtain ⟨a, rfl, hS, k⟩ := h
  refine ⟨_, (pss_cons (ps_set (i := 1) sc__law_word.nd rfl (.inl rfl) (pe_fn (ok__law_draw T) hr (by rfl) (pa_cons (pv 0) (pa_cons pe_int pa_nil))))
  (pss_cons (ps_if (pt_cmpR op_eq (pv 1) pe_int (nomark _))
  (pss_one (ps_ret (pe_ix ix_list (pe_lst (pa_cons pe_int (pa_cons pe_int pa_nil))) (pe_fn (ok__law_draw T) hr (by rfl) (pa_cons (pv 0) (pa_cons pe_int pa_nil))) (fun _ _ => rfl))))
  pss_nil)
  (pss_cons (ps_if (pt_cmpR op_eq (pv 1) pe_int (nomark _))
  (pss_one (ps_ret (pe_fn (ok__law_draw T) hr (by rfl) (pa_cons (pv 0) (pa_cons pe_int pa_nil)))))
  pss_nil)
  (pss_one (ps_ret (pe_op op_add (pe_op op_mul (pe_fn (ok__law_draw T) hr (by rfl) (pa_cons (pv 0) (pa_cons pe_int pa_nil))) pe_int) (pe_fn (ok__law_draw T) hr (by rfl) (pa_cons (pv 0) (pa_cons pe_int pa_nil))))))))), ?_⟩
  walk_at "en"
  refine r_draw hS (by decide) (by decide) fun H1 d b1 s1 d0 d1 => ?_
  walk_at "rd"
  walk_at "sp" <;> intro h0
  · walk_at "rd"
    intro p H2 n2 e2 hp
    have hpa : p ≠ a := by
      rintro rfl
      obtain ⟨xs, h⟩ := s1.lst
      rw [n2] at h; cases h
    walk_at "rd"
    refine r_draw (s1.ex e2) (by decide) (by decide) fun H3 c b3 s3 c0 c1 => ?_
    obtain ⟨v, hv, ha, _⟩ := atI_in (xs := [0, 4294967295].map V.int) c0 c1
    refine r_ixL (SqL.of (b3 _ _ hpa hp)) ha ?_
    obtain ⟨i, hi, rfl⟩ := List.mem_map.mp hv
    refine k _ _ ((b1.same' e2).trans b3) s3 ⟨i, rfl, ?_, ?_⟩
    · have : ∀ i ∈ [(0 : Int), 4294967295], 0 ≤ i := by decide
      exact this i hi
    · have : ∀ i ∈ [(0 : Int), 4294967295], i ≤ 4294967295 := by decide
      exact this i hi
  · walk_at "rd"
    walk_at "sp" <;> intro h1
    · walk_at "rd"
      refine r_draw s1 (by decide) (by decide) fun H3 c b3 s3 c0 c1 => ?_
      exact k _ _ (b1.trans b3) s3 ⟨_, rfl, c0, by omega⟩
    · walk_at "rd"
      refine r_draw s1 (by decide) (by decide) fun H3 c b3 s3 c0 c1 => ?_
      walk_at "rd"
      refine r_draw s3 (by decide) (by decide) fun H4 c' b4 s4 c0' c1' => ?_
      walk_at "rd"
      exact k _ _ ((b1.trans b3).trans b4) s4 ⟨_, rfl, by omega, by omega⟩
theorem ok__law_text (T : Txt K mg) : Fn P w K mg base 2 "_law_text" ["source"] (spDrawn fun _ v => SV 0 60 v) := by
  refine T.d__law_text.ok sc__law_text (by rintro vs H Q E ⟨_, rfl, _⟩; rfl) (fun f cdv A outer s H vs Q E hr h => ?_)
  obtain ⟨a, rfl, hS, k⟩ := h
  refine ⟨_, (pss_cons (ps_set (i := 1) sc__law_text.nd rfl (.inl rfl) pe_str)
  (pss_cons (ps_set (i := 1) sc__law_text.nd rfl (.inl rfl) (pe_op oAddS (pv 1) pe_str))
  (pss_cons (ps_set (i := 2) sc__law_text.nd rfl (.inl rfl) (pe_fn (ok__law_draw T) hr (by rfl) (pa_cons (pv 0) (pa_cons pe_int pa_nil))))
  (pss_cons (ps_set (i := 3) sc__law_text.nd rfl (.inl rfl) (pe_fn (ok__law_draw T) hr (by rfl) (pa_cons (pv 0) (pa_cons pe_int pa_nil))))
  (pss_cut (ps_if (pt_cmpR op_eq (pv 3) pe_int (nomark _))
  (pss_one (ps_set (i := 2) sc__law_text.nd rfl (.inl rfl) (pe_op op_add pe_int (pe_op op_mod (pe_callTy cInt (by rfl) T.m_int (by decide +kernel) (pa_cons (pv 2) pa_nil)) pe_int))))
  pss_nil)
  (pss_cut (ps_if (pt_cmpR op_eq (pv 3) pe_int (nomark _))
  (pss_one (ps_set (i := 2) sc__law_text.nd rfl (.inl rfl) (pe_op op_mod (pe_callTy cInt (by rfl) T.m_int (by decide +kernel) (pa_cons (pv 2) pa_nil)) pe_int)))
  pss_nil)
  (pss_cons (ps_set (i := 4) sc__law_text.nd rfl (.inl rfl) pe_str)
  (pss_cons (ps_for PassesOwn.never rfl (pi_range1 rfl T.m_range (pa_cons (pv 2) pa_nil)) (pg_name (i := 5) sc__law_text.nd rfl (.inl rfl))
  (pss_one (ps_set (i := 4) sc__law_text.nd rfl (.inl rfl) (pe_op oAddS (pv 4) (pe_ix ix_str (pv 1) (pe_fn (ok__law_draw T) hr (by rfl) (pa_cons (pv 0) (pa_cons pe_int pa_nil))) (fun _ _ => rfl))))))
  (pss_one (ps_ret (pv 4))))))))))), ?_⟩
  walk_at "en"
  refine r_draw hS (by decide) (by decide) fun H1 d b1 s1 d0 d1 => ?_
  walk_at "rd"
  refine r_draw s1 (by decide) (by decide) fun H2 d2 b2 s2 d20 d21 => ?_
  walk_at "rd"
  refine r_cut (fun σ' H' => H' = H2 ∧ ∃ n : Int, 0 ≤ n ∧ n ≤ 60 ∧ σ' = [some (.ref a), some (.str C94), some (.int n), some (.int d2), none, none]) ?_ ?_
  · walk_at "rd"
    walk_at "sp" <;> intro h0
    · walk_at "rd"
      exact ⟨rfl, _, by omega, by omega, rfl⟩
    · walk_at "rd"
      exact ⟨rfl, _, by omega, by omega, rfl⟩
  rintro σ' H' ⟨rfl, n, hn0, hn1, rfl⟩
  refine r_cut (fun σ' H'' => H'' = H' ∧ ∃ n : Int, 0 ≤ n ∧ n ≤ 60 ∧ σ' = [some (.ref a), some (.str C94), some (.int n), some (.int d2), none, none]) ?_ ?_
  · walk_at "rd"
    walk_at "sp" <;> intro h0
    · walk_at "rd"
      exact ⟨rfl, _, by omega, by omega, rfl⟩
    · walk_at "rd"
      exact ⟨rfl, _, by omega, by omega, rfl⟩
  rintro σ' H3 ⟨rfl, n, hn0, hn1, rfl⟩
  walk_at "rd"
  refine loopR (fun i σ' H' => (∃ (z : Str) (v : Option V), σ' = [some (.ref a), some (.str C94), some (.int n), some (.int d2), some (.str z), v] ∧ z.length = i ∧ Asc z) ∧ But a H H' ∧ Src H' a) ⟨⟨_, _, rfl, rfl, by decide +kernel⟩, b1.trans b2, s2⟩ ?_ ?_
  · rintro i σ' H' hi ⟨⟨z, v, rfl, hz, hA⟩, b2, s2⟩
    walk_at "rd"
    refine r_draw s2 (by decide) (by decide) fun H3 d3 b3 s3 d30 d31 => ?_
    obtain ⟨c, hc, ha, _⟩ := atI_in (xs := C94.cps.toList) d30 (by rw [C94_len]; exact d31)
    refine r_ixS C94_len2 ha ?_
    refine r_addS (by rw [hz, len_one]; omega) ?_
    walk_at "rd"
    exact ⟨⟨_, _, rfl, by rw [len_app, len_one, hz], hA.app (C94_asc.mem hc)⟩, b2.trans b3, s3⟩
  · rintro σ' H' ⟨⟨z, v, rfl, hz, hA⟩, b2, s2⟩
    walk_at "rd"
    exact k _ _ b2 s2 ⟨z, rfl, Nat.zero_le _, by omega, hA⟩
def spValue (K : PySem.W.Frag) : Sp := fun vs H Q _ => ∃ (κ : Str) (a : Addr), vs = [.str κ, .ref a] ∧ Src H a ∧ ∀ H' v d, But a H H' → Src H' a → Dp K H' v d → valK κ d → Q v H'
theorem ok__law_value (T : Txt K mg) : Fn P w K mg base 4 "_law_value" ["kind", "source"] (spValue K) := by
  refine T.d__law_value.ok sc__law_value (by rintro vs H Q E ⟨_, _, rfl, _⟩; rfl) (fun f cdv A outer s H vs Q E hr h => ?_)
  obtain ⟨κ, a, rfl, hS, k⟩ := h
  refine ⟨_, (pss_cons (ps_if (pt_cmpR op_eq (pv 0) pe_str (nomark _))
  (pss_one (ps_ret (pe_fn (ok__law_text T) (hr.mono (by decide)) (by rfl) (pa_cons (pv 1) pa_nil))))
  pss_nil)
  (pss_cons (ps_if (pt_cmpR op_eq (pv 0) pe_str (nomark _))
  (pss_cons (ps_set (i := 2) sc__law_value.nd rfl (.inl rfl) (pe_fn (ok__law_draw T) (hr.mono (by decide)) (by rfl) (pa_cons (pv 1) (pa_cons pe_int pa_nil))))
  (pss_cons (ps_set (i := 3) sc__law_value.nd rfl (.inl rfl) (pe_fn (ok__law_draw T) (hr.mono (by decide)) (by rfl) (pa_cons (pv 1) (pa_cons pe_int pa_nil))))
  (pss_cut (ps_if (pt_cmpR op_eq (pv 2) pe_int (nomark _))
  (pss_one (ps_set (i := 3) sc__law_value.nd rfl (.inl rfl) (pe_ix ix_list (pe_lst (pa_cons pe_int (pa_cons pe_int pa_nil))) (pe_op op_mod (pe_callTy cInt (by rfl) T.m_int (by decide +kernel) (pa_cons (pv 3) pa_nil)) pe_int) (fun _ _ => rfl))))
  pss_nil)
  (pss_cut (ps_if (pt_cmpR op_eq (pv 2) pe_int (nomark _))
  (pss_one (ps_set (i := 3) sc__law_value.nd rfl (.inl rfl) pe_int))
  pss_nil)
  (pss_one (ps_ret (pe_tup (pa_cons (pv 3) (pa_cons (pe_fn (ok__law_name T) hr (by rfl) (pa_cons (pv 1) pa_nil)) pa_nil)))))))))
  pss_nil)
  (pss_cons (ps_if (PW.pt (pw_or (pt_cmpR op_eq (pv 0) pe_str (nomark _)) (pw_or1 (pt_cmpR op_eq (pv 0) pe_str (nomark _)))))
  (pss_one (ps_ret (pe_fn (ok__law_name T) hr (by rfl) (pa_cons (pv 1) pa_nil))))
  pss_nil)
  (pss_cons (ps_if (pt_cmpR op_eq (pv 0) pe_str (nomark _))
  (pss_one (ps_ret (pe_tup (pa_cons (pe_fn (ok__law_word T) (hr.mono (by decide)) (by rfl) (pa_cons (pv 1) pa_nil)) (pa_cons (pe_fn (ok__law_word T) (hr.mono (by decide)) (by rfl) (pa_cons (pv 1) pa_nil)) pa_nil)))))
  pss_nil)
  (pss_cons (ps_if (pt_cmpR op_eq (pv 0) pe_str (nomark _))
  (pss_cons (ps_set (i := 4) sc__law_value.nd rfl (.inl rfl) (pe_lst pa_nil))
  (pss_cons (ps_for PassesOwn.never rfl (pi_list (pe_fn0 (ok__law_kinds T) (hr.mono (by decide)) (by rfl))) (pg_name (i := 5) sc__law_value.nd rfl (.inl rfl))
  (pss_one (ps_if (pt_cmpR op_eq (pe_fn (ok__law_draw T) (hr.mono (by decide)) (by rfl) (pa_cons (pv 1) (pa_cons pe_int pa_nil))) pe_int (nomark _))
  (pss_one (ps_expr (pe_bm PySem.F.plainAttrs_list PySem.F.slot_list_append PySem.F.type_list_append mt_append (pv 4) (pa_cons (pv 5) pa_nil))))
  pss_nil)))
  (pss_one (ps_ret (pe_tup (pa_cons (pe_fn (ok__law_name T) hr (by rfl) (pa_cons (pv 1) pa_nil)) (pa_cons (pe_callTy cTupOf (by rfl) T.m_tuple (by decide +kernel) (pa_cons (pv 4) pa_nil)) pa_nil)))))))
  pss_nil)
  (pss_one (ps_ret (pe_fn (ok__law_word T) (hr.mono (by decide)) (by rfl) (pa_cons (pv 1) pa_nil))))))))), ?_⟩
  have nameR : ¬ κ = "text" → ¬ κ = "mail" → (κ = "alias" ∨ κ = "server") → spDrawn (NameV K) [.ref a] H Q E0 := fun h0 h1 h2 => r_drawn hS fun H1 v b1 s1 hv => by
    obtain ⟨d, hd, hn⟩ := hv.d
    exact k _ _ d b1 s1 hd (by unfold valK; rw [if_neg h0, if_neg h1, if_pos h2]; exact hn)
  walk_at "en"
  walk_at "sp" <;> intro h0
  · walk_at "rd"
    refine r_drawn hS fun H1 v b1 s1 hv => ?_
    obtain ⟨z, rfl, _, _, hA⟩ := hv
    exact k _ _ _ b1 s1 (.str z) (by unfold valK; rw [if_pos h0]; exact ⟨z, rfl, hA⟩)
  walk_at "rd"
  walk_at "sp" <;> intro h1
  · walk_at "rd"
    refine r_draw hS (by decide) (by decide) fun H1 d b1 s1 d0 d1 => ?_
    walk_at "rd"
    refine r_draw s1 (by decide) (by decide) fun H2 d2 b2 s2 d20 d21 => ?_
    walk_at "rd"
    refine r_cut (fun σ' H' => But a H H' ∧ Src H' a ∧ ∃ n : Int, σ' = [some (.str κ), some (.ref a), some (.int d), some (.int n), none, none]) ?_ ?_
    · walk_at "rd"
      walk_at "sp" <;> intro h2
      · walk_at "rd"
        intro p H3 n3 e3 hp
        walk_at "rd"
        obtain ⟨v, hv, ha, _⟩ := atI_in (xs := [0, 65535].map V.int) (i := d2 % 2) (by omega) (by simp; omega)
        refine r_ixL (SqL.of hp) ha ?_
        obtain ⟨i, hi, rfl⟩ := List.mem_map.mp hv
        walk_at "rd"
        exact ⟨(b1.trans b2).same' e3, s2.ex e3, i, rfl⟩
      · walk_at "rd"
        exact ⟨b1.trans b2, s2, _, rfl⟩
    rintro σ' H3 ⟨b3, s3, n, rfl⟩
    refine r_cut (fun σ' H' => But a H H' ∧ Src H' a ∧ ∃ n : Int, σ' = [some (.str κ), some (.ref a), some (.int d), some (.int n), none, none]) ?_ ?_
    · walk_at "rd"
      walk_at "sp" <;> intro h2
      · walk_at "rd"
        exact ⟨b3, s3, _, rfl⟩
      · walk_at "rd"
        exact ⟨b3, s3, _, rfl⟩
    rintro σ' H4 ⟨b4, s4, n, rfl⟩
    walk_at "rd"
    refine r_drawn s4 fun H5 v b5 s5 hv => ?_
    obtain ⟨nd, hd, hn⟩ := hv.d
    walk_at "rd"
    intro t H6 n6 e6 ht
    exact k _ _ _ ((b4.trans b5).same' e6) (s5.ex e6) (.tup (SqT.of ht) (.cons (.int n) (.cons (dp_ex e6 _ _ hd) .nil))) (by unfold valK; rw [if_neg h0, if_pos h1]; exact ⟨_, _, rfl, hn⟩)
  walk_at "rd"
  walk_at "sp" <;> intro h2
  · walk_at "rd"
    exact nameR h0 h1 (.inl h2)
  walk_at "rd"
  walk_at "sp" <;> intro h3
  · walk_at "rd"
    exact nameR h0 h1 (.inr h3)
  have h23 : ¬ (κ = "alias" ∨ κ = "server") := fun z => z.elim h2 h3
  walk_at "rd"
  walk_at "sp" <;> intro h4
  · walk_at "rd"
    refine r_drawn hS fun H1 v b1 s1 hv => ?_
    obtain ⟨i, rfl, _⟩ := hv
    walk_at "rd"
    refine r_drawn s1 fun H2 v b2 s2 hv => ?_
    obtain ⟨j, rfl, _⟩ := hv
    walk_at "rd"
    intro t H6 n6 e6 ht
    exact k _ _ _ ((b1.trans b2).same' e6) (s2.ex e6) (.tup (SqT.of ht) (.cons (.int i) (.cons (.int j) .nil))) (by unfold valK; rw [if_neg h0, if_neg h1, if_neg h23, if_pos h4]; exact ⟨_, _, rfl⟩)
  walk_at "rd"
  walk_at "sp" <;> intro h5
  · walk_at "rd"
    intro p H1 n1 e1 hp
    have hpa : p ≠ a := by
      rintro rfl
      obtain ⟨xs, h⟩ := hS.lst
      rw [n1] at h; cases h
    walk_at "rd"
    refine ⟨rfl, fun H2 q e2 nq hq => ?_⟩
    have hqa : q ≠ a := by
      rintro rfl
      obtain ⟨xs, h⟩ := (hS.ex e1).lst
      rw [nq] at h; cases h
    have hqp : q ≠ p := by rintro rfl; rw [nq] at hp; cases hp
    walk_at "rd"
    refine loopL (xs := KS9.map V.str) (fun i σ' H' => (∃ (v2 v3 v5 : Option V) (zs : List Str), σ' = [some (.str κ), some (.ref a), v2, v3, some (.ref p), v5] ∧ H' p = some (.lst (zs.map V.str)) ∧ (∀ z ∈ zs, z ∈ KS9) ∧ zs.length ≤ i) ∧ H' q = some (.lst (KS9.map V.str)) ∧ But a H H' ∧ Src H' a)
      ⟨⟨_, _, _, [], rfl, e2 _ _ hp, (fun _ h => by cases h), Nat.le_refl _⟩, hq, But.of (e1.trans e2), hS.ex (e1.trans e2)⟩ (by rintro i σ' H' _ ⟨_, h, _⟩; exact SqL.of h) ?_ ?_
    · rintro i x σ' H' hx ⟨⟨v2, v3, v5, zs, rfl, hp', hz, hl⟩, hq', b', s'⟩
      obtain ⟨z, hz', rfl⟩ := map_get hx
      have hi9 : i < 9 := (List.getElem?_eq_some_iff.mp hz').1
      walk_at "rd"
      refine r_draw s' (by decide) (by decide) fun H3 d b3 s3 _ _ => ?_
      walk_at "rd"
      have hp3 := b3 _ _ hpa hp'
      walk_at "sp" <;> intro h6
      · walk_at "rd"
        refine r_append hp3 ?_
        walk_at "rd"
        refine r_append1 hp3 (by simp; omega) fun H4 b4 h4 => ?_
        refine ⟨⟨_, _, _, zs ++ [z], rfl, by rw [h4, List.map_append]; rfl, fun y hy => ?_, by simp; omega⟩, b4 _ _ hqp (b3 _ _ hqa hq'), (b'.trans b3).step b4 n1, s3.but b4 hpa.symm⟩
        rcases List.mem_append.mp hy with h | h
        · exact hz y h
        · rw [List.mem_singleton.mp h]; exact List.mem_of_getElem? hz'
      · walk_at "rd"
        exact ⟨⟨_, _, _, zs, rfl, hp3, hz, by omega⟩, b3 _ _ hqa hq', b'.trans b3, s3⟩
    · rintro σ' H' ⟨⟨v2, v3, v5, zs, rfl, hp', hz, hl⟩, hq', b', s'⟩
      walk_at "rd"
      refine r_drawn s' fun H3 v b3 s3 hv => ?_
      obtain ⟨nd, hd, hn⟩ := hv.d
      have hp3 := b3 _ _ hpa hp'
      walk_at "rd"
      refine r_tupOf (SqL.of hp3) fun t H4 n4 e4 ht => ?_
      walk_at "rd"
      intro u H5 n5 e5 hu
      have e45 := e4.trans e5
      refine k _ _ _ ((b'.trans b3).same' e45) (s3.ex e45) (.tup (SqT.of hu) (.cons (dp_ex e45 _ _ hd) (.cons (dp_tup (SqT.of (e5 _ _ ht))) .nil))) ?_
      unfold valK
      rw [if_neg h0, if_neg h1, if_neg h23, if_neg h4, if_pos h5]
      exact ⟨nd, _, rfl, hn, zs, rfl, fun z hz1 => (KS9_asc z (hz z hz1)).1, by have : (KS9.map V.str).length = 9 := rfl; omega⟩
  walk_at "rd"
  refine r_drawn hS fun H1 v b1 s1 hv => ?_
  obtain ⟨i, rfl, _⟩ := hv
  exact k _ _ _ b1 s1 (.int i) (by unfold valK; rw [if_neg h0, if_neg h1, if_neg h23, if_neg h4, if_neg h5]; exact ⟨_, rfl⟩)

/-- data that can be put in order -/
def Ord (es : List PyData) : Prop := ∀ d ∈ es, (pureD d = true ∧ d.depth ≤ 20) ∧ ∀ e ∈ es, alike d e = true
theorem ok__law_sorted (T : Txt K mg) : Fn P w K mg base 1 "_law_sorted" ["values"] (fun vs H Q _ => ∃ (p : Addr) (out : List V) (es : List PyData), vs = [.ref p] ∧ SqL K H p out ∧ DpAll K H out es ∧ Ord es ∧ es.length ≤ 10000 ∧
    ∀ H' q out' es', Same H H' → H' q = some (.lst out') → DpAll K H' out' es' → (∀ e ∈ es', e ∈ es) → es'.length ≤ es.length → Q (.ref q) H') := by
  refine T.d__law_sorted.ok sc__law_sorted (by rintro vs H Q E ⟨_, _, _, rfl, _⟩; rfl) (fun f cdv A outer s H vs Q E hr h => ?_)
  obtain ⟨p, out, es, rfl, hL, hD, hO, hl, k⟩ := h
  refine ⟨_, (pss_cons (ps_set (i := 1) sc__law_sorted.nd rfl (.inl rfl) (pe_lst pa_nil))
  (pss_cons (ps_for PassesOwn.never rfl (pi_list (pv 0)) (pg_name (i := 2) sc__law_sorted.nd rfl (.inl rfl))
  (pss_cons (ps_set (i := 3) sc__law_sorted.nd rfl (.inl rfl) pe_int)
  (pss_cons (ps_for PassesOwn.never rfl (pi_list (pv 1)) (pg_name (i := 4) sc__law_sorted.nd rfl (.inl rfl))
  (pss_one (ps_if (pt_cmpR (op_ltD hr.units) (pv 4) (pv 2) (nomark _))
  (pss_one (ps_set (i := 3) sc__law_sorted.nd rfl (.inl rfl) (pe_op op_add (pv 3) pe_int)))
  pss_nil)))
  (pss_one (ps_if (pt_cmpR (op_notInD (units65 hr)) (pv 2) (pv 1) (by first | rfl | with_unfolding_all rfl))
  (pss_one (ps_expr (pe_bm PySem.F.plainAttrs_list PySem.F.slot_list_insert PySem.F.type_list_insert mt_ins (pv 1) (pa_cons (pv 3) (pa_cons (pv 2) pa_nil)))))
  pss_nil)))))
  (pss_one (ps_ret (pv 1))))), ?_⟩
  have hol := dpAll_len hD
  walk_at "en"
  intro q H1 n1 e1 hq
  walk_at "rd"
  refine loopL (xs := out) (fun i σ' H' => (∃ (v2 v3 v4 : Option V) (row : List V) (rs : List PyData), σ' = [some (.ref p), some (.ref q), v2, v3, v4] ∧ H' q = some (.lst row) ∧ DpAll K H' row rs ∧ (∀ e ∈ rs, e ∈ es) ∧ rs.length ≤ i) ∧ Same H H') ⟨⟨_, _, _, [], [], rfl, hq, .nil, (fun _ h => by cases h), Nat.le_refl _⟩, e1⟩ (by rintro i σ' H' _ ⟨_, e⟩; exact ex_l e hL) ?_ ?_
  · rintro i v σ' H2 hi ⟨⟨v2, v3, v4, row, rs, rfl, hq2, hR, hm, hl2⟩, e2⟩
    obtain ⟨d, hd, hv⟩ := dpAll_mem hD hi
    have hi' : i < out.length := (List.getElem?_eq_some_iff.mp hi).1
    have hdm := List.mem_of_getElem? hd
    have hv2 := dp_ex e2 _ _ hv
    have hrl := dpAll_len hR
    walk_at "rd"
    refine loopL (xs := row) (fun j σ' H' => (∃ (v4 : Option V) (pl : Nat), σ' = [some (.ref p), some (.ref q), some v, some (.int (pl : Nat)), v4] ∧ pl ≤ j) ∧ H' = H2) ⟨⟨_, 0, rfl, Nat.le_refl _⟩, rfl⟩ (by rintro j σ' H' _ ⟨_, rfl⟩; exact SqL.of hq2) ?_ ?_
    · rintro j u σ' H3 hj ⟨⟨w4, pl, rfl, hpl⟩, rfl⟩
      obtain ⟨e, he, hu⟩ := dpAll_mem hR hj
      have hem := hm e (List.mem_of_getElem? he)
      walk_at "rd"
      refine r_ltP hu hv2 ((hO e hem).2 d hdm) (hO e hem).1.1 (by have := (hO e hem).1.2; omega) ?_
      walk_at "rd"
      cases hlt : dataLt e d with
      | true =>
        walk_at "rd"
        refine ⟨⟨_, pl + 1, rfl, by omega⟩, rfl⟩
      | false =>
        walk_at "rd"
        exact ⟨⟨_, pl, rfl, by omega⟩, rfl⟩
    · rintro σ' H3 ⟨⟨w4, pl, rfl, hpl⟩, rfl⟩
      walk_at "rd"
      refine r_notInP hv2 (SqL.of hq2) hR (hO d hdm).1.1 (by have := (hO d hdm).1.2; omega) (fun e he => ⟨(hO e (hm e he)).1.1, by have := (hO e (hm e he)).1.2; omega⟩) ?_
      walk_at "rd"
      cases hany : (!rs.any fun z => PyData.eqv z d) with
      | true =>
        walk_at "rd"
        refine r_isL hq2 ?_
        walk_at "rd"
        refine r_ins1 hq2 (by omega) (by omega) (by omega) fun H4 b4 h4 => ?_
        have pR : pureAll rs = true := (pureAll_iff rs).mpr fun e he => (hO e (hm e he)).1.1
        have nt := noTup_l hq2
        have hR4 := dpAll_but b4 nt _ _ pR hR
        rw [Int.toNat_natCast] at h4
        refine ⟨⟨_, _, _, _, _, rfl, h4, dpAll_app (dpAll_app (dpAll_take pl hR4) (.cons (dp_but b4 nt _ _ (hO d hdm).1.1 hv2) .nil)) (dpAll_drop pl hR4), fun e he => ?_, ?_⟩, same_but e2 b4 n1⟩
        · rcases List.mem_append.mp he with he | he
          · rcases List.mem_append.mp he with he | he
            · exact hm e (List.mem_of_mem_take he)
            · rw [List.mem_singleton.mp he]; exact hdm
          · exact hm e (List.mem_of_mem_drop he)
        · simp
          omega
      | false =>
        walk_at "rd"
        exact ⟨⟨_, _, _, row, rs, rfl, hq2, hR, hm, by omega⟩, e2⟩
  · rintro σ' H2 ⟨⟨v2, v3, v4, row, rs, rfl, hq2, hR, hm, hl2⟩, e2⟩
    walk_at "rd"
    exact k H2 q row rs e2 hq2 hR hm (by omega)

/-! ### lists of data of one form -/
def LsAt (K : PySem.W.Frag) (H : Hp) (p : Addr) (P : PyData → Prop) (N : Nat) : Prop := ∃ outs es, H p = some (.lst outs) ∧ DpAll K H outs es ∧ (∀ e ∈ es, P e) ∧ es.length ≤ N
theorem LsAt.ex {H H' : Hp} {p : Addr} {R : PyData → Prop} {N : Nat} (h : LsAt K H p R N) (e : Same H H') : LsAt K H' p R N := by
  obtain ⟨o, es, h1, h2, h3, h4⟩ := h
  exact ⟨o, es, e _ _ h1, dpAll_ex e _ _ h2, h3, h4⟩
theorem LsAt.but {H H' : Hp} {p l : Addr} {R : PyData → Prop} {N : Nat} (h : LsAt K H p R N) (hR : ∀ e, R e → pureD e = true) (e : But l H H') (n : NoTup H l) (ne : p ≠ l) : LsAt K H' p R N := by
  obtain ⟨o, es, h1, h2, h3, h4⟩ := h
  exact ⟨o, es, e _ _ ne h1, dpAll_but e n _ _ ((pureAll_iff es).mpr fun e he => hR e (h3 e he)) h2, h3, h4⟩
theorem LsAt.mono {H : Hp} {p : Addr} {R : PyData → Prop} {N M : Nat} (h : LsAt K H p R N) (hl : N ≤ M) : LsAt K H p R M := by
  obtain ⟨o, es, h1, h2, h3, h4⟩ := h
  exact ⟨o, es, h1, h2, h3, by omega⟩
theorem r_isP {H : Hp} {p : Addr} {R : PyData → Prop} {N : Nat} {S : Prop} (h : LsAt K H p R N) (h2 : S) : tyV K "list" (.ref p) H ∧ S := by
  obtain ⟨o, es, h1, _⟩ := h
  exact r_isL h1 h2
theorem r_appP {H : Hp} {Q : VK} {p : Addr} {R : PyData → Prop} {N : Nat} {v : V} {e : PyData} (hR : ∀ e, R e → pureD e = true) (h : LsAt K H p R N) (hN : N ≤ 10000) (hv : Dp K H v e) (pe : R e) (q : ∀ H2, But p H H2 → NoTup H p → LsAt K H2 p R (N + 1) → Q .non H2) : rAppend (.ref p) [v] H Q := by
  obtain ⟨o, es, h1, h2, h3, h4⟩ := h
  have hl := dpAll_len h2
  refine r_append1 h1 (by omega) fun H2 b h5 => q H2 b (noTup_l h1) ⟨_, es ++ [e], h5, dpAll_app (dpAll_but b (noTup_l h1) _ _ ((pureAll_iff es).mpr fun e he => hR e (h3 e he)) h2) (.cons (dp_but b (noTup_l h1) _ _ (hR e pe) hv) .nil), fun x hx => ?_, by simp; omega⟩
  rcases List.mem_append.mp hx with hx | hx
  · exact h3 x hx
  · rw [List.mem_singleton.mp hx]; exact pe
theorem LsAt.noTup {H : Hp} {p : Addr} {R : PyData → Prop} {N : Nat} (h : LsAt K H p R N) : NoTup H p := by
  obtain ⟨o, es, h1, _⟩ := h
  exact noTup_l h1
/-- a pure tuple of these data stands at a -/
theorem pt_get {H : Hp} {a : Addr} {ds : List PyData} {i : Nat} {d : PyData} (h : PT K H a ds) (hi : ds[i]? = some d) : ∃ vs v, SqT K H a vs ∧ vs[i]? = some v ∧ Dp K H v d := by
  obtain ⟨vs, h1, h2⟩ := h
  obtain ⟨v, hv, hd⟩ := dpAll_get h2 hi
  exact ⟨vs, v, h1, hv, hd⟩
theorem r_ixPT {H : Hp} {Q : VK} {a : Addr} {ds : List PyData} {i : Nat} {d : PyData} (h : PT K H a ds) (hi : ds[i]? = some d) (q : ∀ v, Dp K H v d → Q v H) : rIxT K (.ref a) (.int (i : Nat)) H Q := by
  obtain ⟨vs, v, h1, h2, h3⟩ := pt_get h hi
  exact r_ixT h1 (atI_nat h2) (q v h3)
theorem pt_one {H : Hp} {a : Addr} {v : V} {d : PyData} (h : H a = some (.tup [v])) (hd : Dp K H v d) : PT K H a [d] := ⟨_, SqT.of h, .cons hd .nil⟩
theorem r_lenPT {H : Hp} {Q : VK} {a : Addr} {ds : List PyData} (h : PT K H a ds) (q : Q (.int (ds.length : Nat)) H) : rLenQ K [.ref a] H Q := by
  obtain ⟨vs, h1, h2⟩ := h
  refine r_lenT h1 ?_
  rw [dpAll_len h2]
  exact q
theorem r_gTupN {H : Hp} {T : Addr} {n : Nat} {vs : List V} {t : TGs} {σ : L2.St} {Q : L2.St → Hp → Prop} (h : SqT K H T vs) (hl : vs.length = n) (q : t vs σ H Q) : gTup K n t (.ref T) σ H Q := ⟨T, vs, rfl, h, hl, q⟩

def recL (nm : List PyData) (k : Str) (t : Int) (vs : List PyData) : List PyData := [.tuple nm, .str k, .int t, .tuple vs]
def sigL (nm : List PyData) (k e s n u : Int) : List PyData := [.tuple nm, .int k, .int e, .int s, .int n, .int u]
def RecD (d : PyData) : Prop := ∃ nm k t vs, d = .tuple (recL nm k t vs) ∧ GoodT 0 12 nm ∧ Asc k ∧ GoodT 2 8 vs
def SigD (d : PyData) : Prop := ∃ nm k e s n u, d = .tuple (sigL nm k e s n u) ∧ GoodT 0 20 nm ∧ 0 ≤ u
def NmD (d : PyData) : Prop := ∃ nm, d = .tuple nm ∧ GoodT 0 20 nm
def PD8 (d : PyData) : Prop := pureD d = true ∧ d.depth ≤ 8
theorem good_recL {nm : List PyData} {k : Str} {t : Int} {vs : List PyData} (h : GoodT 0 12 nm) (hk : Asc k) (hv : GoodT 2 8 vs) : GoodT 3 4 (recL nm k t vs) := by
  refine ⟨fun d hd => ?_, Nat.le_refl _⟩
  unfold recL at hd
  simp only [List.mem_cons, List.not_mem_nil, or_false] at hd
  rcases hd with rfl | rfl | rfl | rfl
  · exact ⟨h.pure (by decide), by have := h.depth; omega⟩
  · exact ⟨pure_str hk, by simp [PyData.depth]⟩
  · exact ⟨rfl, by simp [PyData.depth]⟩
  · exact ⟨hv.pure (by decide), hv.depth⟩
theorem good_sigL {nm : List PyData} {k e s n u : Int} (h : GoodT 0 20 nm) : GoodT 1 6 (sigL nm k e s n u) := by
  refine ⟨fun d hd => ?_, Nat.le_refl _⟩
  unfold sigL at hd
  simp only [List.mem_cons, List.not_mem_nil, or_false] at hd
  rcases hd with rfl | rfl | rfl | rfl | rfl | rfl
  · exact ⟨h.pure (by decide), h.depth⟩
  all_goals exact ⟨rfl, by simp [PyData.depth]⟩
theorem RecD.pd {d : PyData} (h : RecD d) : pureD d = true ∧ d.depth ≤ 4 := by
  obtain ⟨nm, k, t, vs, rfl, h1, h2, h3⟩ := h
  exact ⟨(good_recL h1 h2 h3).pure (by decide), (good_recL h1 h2 h3).depth⟩
theorem SigD.pd {d : PyData} (h : SigD d) : pureD d = true ∧ d.depth ≤ 2 := by
  obtain ⟨nm, k, e, s, n, u, rfl, h1, h2⟩ := h
  exact ⟨(good_sigL h1).pure (by decide), (good_sigL h1).depth⟩
theorem NmD.pd {d : PyData} (h : NmD d) : pureD d = true ∧ d.depth ≤ 1 := by
  obtain ⟨nm, rfl, h⟩ := h
  exact ⟨h.pure (by decide), h.depth⟩
theorem nameD.good {d : PyData} (h : nameD d) : ∃ nm, d = .tuple nm ∧ GoodT 0 12 nm := by
  obtain ⟨zs, rfl, h1, h2⟩ := h
  refine ⟨_, rfl, fun x hx => ?_, by rw [List.length_map]; exact h2⟩
  obtain ⟨z, hz, rfl⟩ := List.mem_map.mp hx
  exact ⟨pure_str (h1 z hz), by simp [PyData.depth]⟩
theorem ok__law_record_set (T : Txt K mg) : Fn P w K mg base 5 "_law_record_set" ["source"] (fun vs H Q _ => ∃ a : Addr, vs = [.ref a] ∧ Src H a ∧ ∀ H' v d, But a H H' → Src H' a → Dp K H' v d → RecD d → Q v H') := by
  refine T.d__law_record_set.ok sc__law_record_set (by rintro vs H Q E ⟨_, rfl, _⟩; rfl) (fun f cdv A outer s H vs Q E hr h => ?_)
  obtain ⟨a, rfl, hS, k⟩ := h
  refine ⟨_, (pss_cons (ps_set (i := 1) sc__law_record_set.nd rfl (.inl rfl) (pe_ix ix_list (pe_fn0 (ok__law_kinds T) (hr.mono (by decide)) (by rfl)) (pe_fn (ok__law_draw T) (hr.mono (by decide)) (by rfl) (pa_cons (pv 0) (pa_cons pe_int pa_nil))) (fun _ _ => rfl)))
  (pss_cons (ps_set (i := 2) sc__law_record_set.nd rfl (.inl rfl) (pe_lst (pa_cons (pe_fn (ok__law_value T) hr (by rfl) (pa_cons (pv 1) (pa_cons (pv 0) pa_nil))) pa_nil)))
  (pss_cut (ps_if (pt_cmpR op_notIn_seq (pv 1) (pe_lst (pa_cons pe_str (pa_cons pe_str (pa_cons pe_str pa_nil)))) (by first | rfl | with_unfolding_all rfl))
  (pss_one (ps_for PassesOwn.never rfl (pi_range1 rfl T.m_range (pa_cons (pe_fn (ok__law_draw T) (hr.mono (by decide)) (by rfl) (pa_cons (pv 0) (pa_cons pe_int pa_nil))) pa_nil)) (pg_name (i := 3) sc__law_record_set.nd rfl (.inl rfl))
  (pss_one (ps_expr (pe_bm PySem.F.plainAttrs_list PySem.F.slot_list_append PySem.F.type_list_append mt_append (pv 2) (pa_cons (pe_fn (ok__law_value T) hr (by rfl) (pa_cons (pv 1) (pa_cons (pv 0) pa_nil))) pa_nil))))))
  pss_nil)
  (pss_cons (ps_set (i := 4) sc__law_record_set.nd rfl (.inl rfl) (pe_fn (ok__law_name T) (hr.mono (by decide)) (by rfl) (pa_cons (pv 0) pa_nil)))
  (pss_one (ps_ret (pe_tup (pa_cons (pv 4) (pa_cons (pv 1) (pa_cons (pe_fn (ok__law_word T) (hr.mono (by decide)) (by rfl) (pa_cons (pv 0) pa_nil)) (pa_cons (pe_callTy cTupOf (by rfl) T.m_tuple (by decide +kernel) (pa_cons (pe_fn (ok__law_sorted T) (hr.mono (by decide)) (by rfl) (pa_cons (pv 2) pa_nil)) pa_nil)) pa_nil))))))))))), ?_⟩
  walk_at "en"
  refine ⟨rfl, fun H1 q e1 nq hq => ?_⟩
  have hqa : q ≠ a := by
    rintro rfl
    obtain ⟨xs, h⟩ := hS.lst
    rw [nq] at h; cases h
  walk_at "rd"
  refine r_draw (hS.ex e1) (by decide) (by decide) fun H2 d b2 s2 d0 d1 => ?_
  obtain ⟨v, hv, ha, _⟩ := atI_in (xs := KS9.map V.str) d0 d1
  refine r_ixL (SqL.of (b2 _ _ hqa hq)) ha ?_
  obtain ⟨κ, hκ, rfl⟩ := List.mem_map.mp hv
  walk_at "rd"
  refine ⟨κ, a, rfl, s2, fun H3 v d b3 s3 hv hvd => ?_⟩
  walk_at "rd"
  intro p H4 n4 e4 hp
  have b04 : But a H H4 := ((But.pre e1 b2).trans b3).same' e4
  have s4 := s3.ex e4
  have hpa : p ≠ a := by
    rintro rfl
    obtain ⟨xs, h⟩ := s3.lst
    rw [n4] at h; cases h
  have np : H p = none := but_fresh ((But.pre e1 b2).trans b3) hpa n4
  have vp : ∀ e, valK κ e → pureD e = true := fun e h => h.pure.1
  have ls : LsAt K H4 p (valK κ) 1 := ⟨_, [d], hp, .cons (dp_ex e4 _ _ hv) .nil, fun e he => by rw [List.mem_singleton.mp he]; exact hvd, Nat.le_refl _⟩
  walk_at "rd"
  refine r_cut (fun σ' H' => (∃ v3 v4 : Option V, σ' = [some (.ref a), some (.str κ), some (.ref p), v3, v4]) ∧ But a H H' ∧ Src H' a ∧ LsAt K H' p (valK κ) 8) ?_ ?_
  · walk_at "rd"
    intro p5 H5 n5 e5 hp5
    walk_at "rd"
    refine r_notInF (.inl (SqL.of hp5)) rfl rfl ?_
    walk_at "rd"
    have ls5 := ls.ex e5
    cases hin : (!inV (V.str κ) [V.str "alias", V.str "start", V.str "gap"]) with
    | true =>
      walk_at "rd"
      refine r_draw (s4.ex e5) (by decide) (by decide) fun H6 c b6 s6 c0 c1 => ?_
      walk_at "rd"
      obtain ⟨sl, hsl⟩ := (s4.ex e5).lst
      refine loopR (fun i σ' H' => (∃ v3 v4 : Option V, σ' = [some (.ref a), some (.str κ), some (.ref p), v3, v4]) ∧ But a H H' ∧ Src H' a ∧ LsAt K H' p (valK κ) (1 + i)) ⟨⟨_, _, rfl⟩, (b04.same' e5).trans b6, s6, ls5.but vp b6 (noTup_l hsl) hpa⟩ ?_ ?_
      · rintro i σ' H' hi ⟨⟨v3, v4, rfl⟩, b', s', ls'⟩
        walk_at "rd"
        refine r_isP ls' ?_
        walk_at "rd"
        refine ⟨κ, a, rfl, s', fun H7 v d b7 s7 hv hvd => ?_⟩
        obtain ⟨sl', hsl'⟩ := s'.lst
        walk_at "rd"
        refine r_appP vp (ls'.but vp b7 (noTup_l hsl') hpa) (by omega) hv hvd fun H8 b8 _ ls8 => ?_
        exact ⟨⟨_, _, rfl⟩, (b'.trans b7).step b8 np, s7.but b8 hpa.symm, ls8⟩
      · rintro σ' H' ⟨⟨v3, v4, rfl⟩, b', s', ls'⟩
        walk_at "rd"
        exact ⟨⟨_, _, rfl⟩, b', s', ls'.mono (by omega)⟩
    | false =>
      walk_at "rd"
      exact ⟨⟨_, _, rfl⟩, b04.same' e5, s4.ex e5, ls5.mono (by decide)⟩
  rintro σ' H5 ⟨⟨v3, v4, rfl⟩, b5, s5, ls5⟩
  obtain ⟨sl, hsl⟩ := s5.lst
  walk_at "rd"
  refine r_drawn s5 fun H6 v b6 s6 hv => ?_
  obtain ⟨nd, hnd, hn⟩ := hv.d
  obtain ⟨nm, rfl, gn⟩ := hn.good
  have ls6 := ls5.but vp b6 (noTup_l hsl) hpa
  obtain ⟨sl6, hsl6⟩ := s6.lst
  walk_at "rd"
  refine r_drawn s6 fun H7 v7 b7 s7 hv7 => ?_
  obtain ⟨tt, rfl, _⟩ := hv7
  have hnd7 := dp_but b7 (noTup_l hsl6) _ _ (gn.pure (by decide)) hnd
  obtain ⟨outs, es, hp7, hd7, hes, hel⟩ := ls6.but vp b7 (noTup_l hsl6) hpa
  walk_at "rd"
  refine ⟨p, outs, es, rfl, SqL.of hp7, hd7, fun d hd => ⟨⟨(hes d hd).pure.1, by have := (hes d hd).pure.2; omega⟩, fun e he => (hes d hd).alike (hes e he)⟩, by omega, fun H8 q8 out8 es8 e8 hq8 hd8 hm8 hl8 => ?_⟩
  walk_at "rd"
  refine r_tupOf (SqL.of hq8) fun t9 H9 n9 e9 ht9 => ?_
  walk_at "rd"
  intro t10 H10 n10 e10 ht10
  have g8 : GoodT 2 8 es8 := ⟨fun e he => (hes e (hm8 e he)).pure, by omega⟩
  refine k H10 _ _ ((((b5.trans b6).trans b7).same' (e8.trans e9)).same' e10) (((s7.ex e8).ex e9).ex e10) (.tup (SqT.of ht10) (.cons (dp_ex ((e8.trans e9).trans e10) _ _ hnd7) (.cons (.str κ) (.cons (.int tt) (.cons (.tup (SqT.of (e10 _ _ ht9)) (dpAll_ex (e9.trans e10) _ _ hd8)) .nil))))) ⟨nm, κ, tt, es8, rfl, gn, (KS9_asc κ hκ).1, g8⟩

theorem ok__law_window (T : Txt K mg) : Fn P w K mg base 3 "_law_window" ["source"] (fun vs H Q _ => ∃ a : Addr, vs = [.ref a] ∧ Src H a ∧ ∀ H' p (x y : Int), But a H H' → Src H' a → H p = none → H' p = some (.lst [.int x, .int y]) → Q (.ref p) H') := by
  refine T.d__law_window.ok sc__law_window (by rintro vs H Q E ⟨_, rfl, _⟩; rfl) (fun f cdv A outer s H vs Q E hr h => ?_)
  obtain ⟨a, rfl, hS, k⟩ := h
  refine ⟨_, (pss_cons (ps_set (i := 1) sc__law_window.nd rfl (.inl rfl) (pe_fn (ok__law_word T) hr (by rfl) (pa_cons (pv 0) pa_nil)))
  (pss_cons (ps_set (i := 2) sc__law_window.nd rfl (.inl rfl) (pe_fn (ok__law_draw T) (hr.mono (by decide)) (by rfl) (pa_cons (pv 0) (pa_cons pe_int pa_nil))))
  (pss_cons (ps_set (i := 3) sc__law_window.nd rfl (.inl rfl) (pv 1))
  (pss_cut (ps_if (pt_cmpR op_eq (pv 2) pe_int (nomark _))
  (pss_one (ps_set (i := 3) sc__law_window.nd rfl (.inl rfl) (pe_callB (cMin2 rfl) (by rfl) T.m_min (by decide +kernel) (pa_cons (pe_op op_add (pv 1) (pe_fn (ok__law_draw T) (hr.mono (by decide)) (by rfl) (pa_cons (pv 0) (pa_cons pe_int pa_nil)))) (pa_cons pe_int pa_nil)))))
  pss_nil)
  (pss_cut (ps_if (pt_cmpR op_eq (pv 2) pe_int (nomark _))
  (pss_one (ps_set (i := 3) sc__law_window.nd rfl (.inl rfl) (pe_fn (ok__law_word T) hr (by rfl) (pa_cons (pv 0) pa_nil))))
  pss_nil)
  (pss_cut (ps_if (pt_cmpR op_eq (pv 2) pe_int (nomark _))
  (pss_one (ps_set (i := 3) sc__law_window.nd rfl (.inl rfl) (pe_callB (cMax2 rfl) (by rfl) T.m_max (by decide +kernel) (pa_cons (pe_op op_sub (pe_op op_sub (pv 1) pe_int) (pe_fn (ok__law_draw T) (hr.mono (by decide)) (by rfl) (pa_cons (pv 0) (pa_cons pe_int pa_nil)))) (pa_cons pe_int pa_nil)))))
  pss_nil)
  (pss_one (ps_ret (pe_lst (pa_cons (pv 1) (pa_cons (pv 3) pa_nil))))))))))), ?_⟩
  walk_at "en"
  refine r_drawn hS fun H1 v b1 s1 hv => ?_
  obtain ⟨low, rfl, _⟩ := hv
  walk_at "rd"
  refine r_draw s1 (by decide) (by decide) fun H2 c b2 s2 _ _ => ?_
  walk_at "rd"
  have W : ∀ {H0 : Hp} {x : Int}, But a H H0 → Src H0 a → But a H H0 ∧ Src H0 a ∧ ∃ n : Int, [some (V.ref a), some (V.int low), some (V.int c), some (V.int x)] = [some (V.ref a), some (V.int low), some (V.int c), some (V.int n)] := fun b s => ⟨b, s, _, rfl⟩
  refine r_cut (fun σ' H' => But a H H' ∧ Src H' a ∧ ∃ n : Int, σ' = [some (.ref a), some (.int low), some (.int c), some (.int n)]) ?_ ?_
  · walk_at "rd"
    walk_at "sp" <;> intro h0
    · walk_at "rd"
      refine r_draw s2 (by decide) (by decide) fun H3 d b3 s3 _ _ => ?_
      walk_at "rd"
      exact W ((b1.trans b2).trans b3) s3
    · walk_at "rd"
      exact W (b1.trans b2) s2
  rintro σ' H3 ⟨b3, s3, n, rfl⟩
  refine r_cut (fun σ' H' => But a H H' ∧ Src H' a ∧ ∃ n : Int, σ' = [some (.ref a), some (.int low), some (.int c), some (.int n)]) ?_ ?_
  · walk_at "rd"
    walk_at "sp" <;> intro h0
    · walk_at "rd"
      refine r_drawn s3 fun H4 v b4 s4 hv => ?_
      obtain ⟨i, rfl, _⟩ := hv
      walk_at "rd"
      exact W (b3.trans b4) s4
    · walk_at "rd"
      exact W b3 s3
  rintro σ' H4 ⟨b4, s4, n, rfl⟩
  refine r_cut (fun σ' H' => But a H H' ∧ Src H' a ∧ ∃ n : Int, σ' = [some (.ref a), some (.int low), some (.int c), some (.int n)]) ?_ ?_
  · walk_at "rd"
    walk_at "sp" <;> intro h0
    · walk_at "rd"
      refine r_draw s4 (by decide) (by decide) fun H5 d b5 s5 _ _ => ?_
      walk_at "rd"
      exact W (b4.trans b5) s5
    · walk_at "rd"
      exact W b4 s4
  rintro σ' H5 ⟨b5, s5, n, rfl⟩
  walk_at "rd"
  intro p H6 n6 e6 hp
  have hpa : p ≠ a := by
    rintro rfl
    obtain ⟨xs, h⟩ := s5.lst
    rw [n6] at h; cases h
  exact k H6 p low n (b5.same' e6) (s5.ex e6) (but_fresh b5 hpa n6) hp
theorem ok__law_near_words (T : Txt K mg) : Fn P w K mg base 1 "_law_near_words" ["number"] (fun vs H Q _ => ∃ n : Int, vs = [.int n] ∧ ∀ H' p (ns : List Int), Same H H' → H p = none → H' p = some (.lst (ns.map V.int)) → ns.length ≤ 3 → (∀ x ∈ ns, 0 ≤ x) → Q (.ref p) H') := by
  refine T.d__law_near_words.ok sc__law_near_words (by rintro vs H Q E ⟨_, rfl, _⟩; rfl) (fun f cdv A outer s H vs Q E hr h => ?_)
  obtain ⟨n, rfl, k⟩ := h
  refine ⟨_, (pss_one (ps_ret (pe_lc (own := [("each", 1)]) (g := gName 1) rfl sc__law_near_words.nd (pi_list (pe_lst (pa_cons (pe_op op_sub (pv 0) pe_int) (pa_cons (pe_op op_add (pv 0) pe_int) (pa_cons pe_int pa_nil))))) (blkOk_by (N := ["number", "each"]) (sc := defScope s__law_near_words) (by decide +kernel)) (fun _ _ _ _ _ => pg_name (i := 1) sc__law_near_words.nd rfl (Or.inl rfl)) (fun _ _ _ _ _ => (pts_one (PW.pt (pw_and (pt_cmpR op_le pe_int (pv 1) (nomark _)) (pw_and1 (pt_cmpR op_le (pv 1) pe_int (nomark _))))))) (fun _ _ _ _ _ => (pv 1))))), ?_⟩
  walk_at "en"
  intro p H1 n1 e1 hp
  walk_at "rd"
  refine lcL (xs := [n - 1, n + 1, 0].map V.int) (fun D i H' => Same H1 H' ∧ H1 D = none ∧ ∃ ns : List Int, H' D = some (.lst (ns.map V.int)) ∧ ns.length ≤ i ∧ ∀ x ∈ ns, 0 ≤ x) (fun D H2 hD e2 h2 => ⟨e2, hD, [], h2, Nat.le_refl _, (fun _ h => by cases h)⟩) (fun D i H' _ h => SqL.of (h.1 _ _ hp)) ?_ ?_
  · rintro D i x H' hi ⟨e2, nD, ns, hD, hl, hz⟩
    obtain ⟨z, rfl⟩ := ints_mem hi
    have hi3 : i < 3 := (List.getElem?_eq_some_iff.mp hi).1
    walk_at "rd"
    refine ⟨rfl, ?_⟩
    walk_at "rd"
    walk_at "sp" <;> intro h0
    · walk_at "rd"
      walk_at "sp" <;> intro h1
      · walk_at "rd"
        refine r_yield hD (by simp; omega) fun H3 b3 h3 => ?_
        refine ⟨same_but e2 b3 nD, nD, ns ++ [z], by rw [h3, List.map_append]; rfl, by simp; omega, fun x hx => ?_⟩
        rcases List.mem_append.mp hx with hx | hx
        · exact hz x hx
        · rw [List.mem_singleton.mp hx]; exact h0
      · walk_at "rd"
        exact ⟨e2, nD, ns, hD, by omega, hz⟩
    · walk_at "rd"
      exact ⟨e2, nD, ns, hD, by omega, hz⟩
  · rintro D H' ⟨e2, nD, ns, hD, hl, hz⟩
    exact k H' D ns (e1.trans e2) (fresh_back e1 nD) hD (by simpa using hl) hz
theorem ok__law_near_names (T : Txt K mg) : Fn P w K mg base 1 "_law_near_names" ["name"] (fun vs H Q _ => ∃ (a : Addr) (ds : List PyData), vs = [.ref a] ∧ PT K H a ds ∧ GoodT 0 17 ds ∧ ∀ H' p, Same H H' → H p = none → LsAt K H' p NmD 4 → Q (.ref p) H') := by
  refine T.d__law_near_names.ok sc__law_near_names (by rintro vs H Q E ⟨_, _, rfl, _⟩; rfl) (fun f cdv A outer s H vs Q E hr h => ?_)
  obtain ⟨a, ds, rfl, hP, hG, k⟩ := h
  refine ⟨_, (pss_cons (ps_set (i := 1) sc__law_near_names.nd rfl (.inl rfl) (pe_lst (pa_cons (pe_tup pa_nil) pa_nil)))
  (pss_cut (ps_if (pt_cmpR op_gt (pe_callB cLenQ (by rfl) T.m_len PySem.boot_len (pa_cons (pv 0) pa_nil)) pe_int (nomark _))
  (pss_cons (ps_expr (pe_bm PySem.F.plainAttrs_list PySem.F.slot_list_append PySem.F.type_list_append mt_append (pv 1) (pa_cons (pe_slice sl_tupA (pv 0) po_none (po_some (pe_un un_neg pe_int))) pa_nil)))
  (pss_cons (ps_expr (pe_bm PySem.F.plainAttrs_list PySem.F.slot_list_append PySem.F.type_list_append mt_append (pv 1) (pa_cons (pe_op op_catA (pe_slice sl_tupA (pv 0) po_none (po_some (pe_un un_neg pe_int))) (pe_tup (pa_cons pe_str pa_nil))) pa_nil)))
  (pss_one (ps_expr (pe_bm PySem.F.plainAttrs_list PySem.F.slot_list_append PySem.F.type_list_append mt_append (pv 1) (pa_cons (pe_op op_catA (pe_op op_catA (pe_tup (pa_cons pe_str pa_nil)) (pe_slice sl_tupA (pv 0) (po_some pe_int) (po_some (pe_un un_neg pe_int)))) (pe_tup (pa_cons pe_str pa_nil))) pa_nil))))))
  pss_nil)
  (pss_one (ps_ret (pv 1))))), ?_⟩
  have vp : ∀ e, NmD e → pureD e = true := fun e h => h.pd.1
  have hl := hG.2
  obtain ⟨vs0, hv0, hd0⟩ := id hP
  have hvl := dpAll_len hd0
  have gs : ∀ z : Str, z.length ≤ 1 → Asc z → GoodT 0 1 [PyData.str z] := fun z _ h => GoodT.one (pure_str h) (by simp [PyData.depth])
  have aa : Asc "a" := by decide +kernel
  have ab : Asc "b" := by decide +kernel
  have ac : Asc "*" := by decide +kernel
  walk_at "en"
  intro t1 H1 n1 e1 ht1
  walk_at "rd"
  intro p H2 n2 e2 hp
  have np : H p = none := fresh_back e1 n2
  have ls2 : LsAt K H2 p NmD 1 := ⟨_, [.tuple []], hp, .cons (.tup (SqT.of (e2 _ _ ht1)) .nil) .nil, fun e he => by rw [List.mem_singleton.mp he]; exact ⟨[], rfl, GoodT.nil _ _⟩, Nat.le_refl _⟩
  have e02 := e1.trans e2
  walk_at "rd"
  refine r_cut (fun σ' H' => σ' = [some (.ref a), some (.ref p)] ∧ Same H H' ∧ LsAt K H' p NmD 4) ?_ ?_
  · walk_at "rd"
    rw [hvl]
    walk_at "sp" <;> intro h0
    · walk_at "rd"
      refine r_isP ls2 ?_
      walk_at "rd"
      refine r_slPT (hP.ex e02) fun q1 H3 e3 hq1 => ?_
      walk_at "rd"
      have c1 := hG.cut none (some (-1))
      refine r_appP vp (ls2.ex e3) (by decide) hq1.dp ⟨_, rfl, c1.mono (Nat.le_refl _) (by decide)⟩ fun H4 b4 nt4 ls4 => ?_
      have e04 : Same H H4 := same_but (e02.trans e3) b4 np
      walk_at "rd"
      refine r_isP ls4 ?_
      walk_at "rd"
      refine r_slPT (hP.ex e04) fun q2 H5 e5 hq2 => ?_
      walk_at "rd"
      intro t6 H6 n6 e6 ht6
      refine r_catPT (hq2.ex e6) (pt_one ht6 (.str _)) (by have := c1.2; simp; omega) fun q3 H7 e7 hq3 => ?_
      walk_at "rd"
      have e47 := (e5.trans e6).trans e7
      refine r_appP vp (ls4.ex e47) (by decide) hq3.dp ⟨_, rfl, (c1.app (gs "a" (by decide) aa)).mono (Nat.le_refl _) (by decide)⟩ fun H8 b8 nt8 ls8 => ?_
      have e08 : Same H H8 := same_but (e04.trans e47) b8 np
      walk_at "rd"
      refine r_isP ls8 ?_
      walk_at "rd"
      intro t9 H9 n9 e9 ht9
      walk_at "rd"
      refine r_slPT (hP.ex (e08.trans e9)) fun q4 H10 e10 hq4 => ?_
      have c2 := hG.cut (some 1) (some (-1))
      refine r_catPT ((pt_one ht9 (.str _)).ex e10) hq4 (by have := c2.2; simp; omega) fun q5 H11 e11 hq5 => ?_
      walk_at "rd"
      intro t12 H12 n12 e12 ht12
      refine r_catPT (hq5.ex e12) (pt_one ht12 (.str _)) (by have := c2.2; simp; omega) fun q6 H13 e13 hq6 => ?_
      walk_at "rd"
      have e813 := (((e9.trans e10).trans e11).trans e12).trans e13
      refine r_appP vp (ls8.ex e813) (by decide) hq6.dp ⟨_, rfl, (((gs "b" (by decide) ab).app c2).app (gs "*" (by decide) ac)).mono (Nat.le_refl _) (by decide)⟩ fun H14 b14 nt14 ls14 => ?_
      walk_at "rd"
      exact ⟨rfl, same_but (e08.trans e813) b14 np, ls14⟩
    · walk_at "rd"
      exact ⟨rfl, e02, ls2.mono (by decide)⟩
  rintro σ' H' ⟨rfl, e', ls'⟩
  walk_at "rd"
  exact k H' p e' np ls'

theorem NmD.vp : ∀ e, NmD e → pureD e = true := fun e h => h.pd.1
theorem SigD.vp : ∀ e, SigD e → pureD e = true := fun e h => h.pd.1
theorem PD8.vp : ∀ e, PD8 e → pureD e = true := fun e h => h.1
theorem sig_set {nm : List PyData} {k e s n u : Int} (g : GoodT 0 20 nm) (hu : 0 ≤ u) {i : Nat} (hi : i < 5) : ∃ z : Int, (sigL nm k e s n u)[1 + i]? = some (.int z) ∧
    ∀ x : Int, 0 ≤ x → SigD (.tuple ((cutD (sigL nm k e s n u) none (some ((1 + i : Nat) : Int)) ++ [.int x]) ++ cutD (sigL nm k e s n u) (some ((1 + i + 1 : Nat) : Int)) none)) := by
  rcases (show i = 0 ∨ i = 1 ∨ i = 2 ∨ i = 3 ∨ i = 4 by omega) with rfl | rfl | rfl | rfl | rfl
  · exact ⟨k, rfl, fun x hx => ⟨nm, x, e, s, n, u, rfl, g, hu⟩⟩
  · exact ⟨e, rfl, fun x hx => ⟨nm, k, x, s, n, u, rfl, g, hu⟩⟩
  · exact ⟨s, rfl, fun x hx => ⟨nm, k, e, x, n, u, rfl, g, hu⟩⟩
  · exact ⟨n, rfl, fun x hx => ⟨nm, k, e, s, x, u, rfl, g, hu⟩⟩
  · exact ⟨u, rfl, fun x hx => ⟨nm, k, e, s, n, x, rfl, g, hx⟩⟩
theorem ok__law_near_signatures (T : Txt K mg) : Fn P w K mg base 2 "_law_near_signatures" ["made"] (fun vs H Q _ => ∃ (a : Addr) (nm : List PyData) (c e s n u : Int), vs = [.ref a] ∧ PT K H a (sigL nm c e s n u) ∧ GoodT 0 17 nm ∧ 0 ≤ u ∧ ∀ H' p, Same H H' → H p = none → LsAt K H' p SigD 30 → Q (.ref p) H') := by
  refine T.d__law_near_signatures.ok sc__law_near_signatures (by rintro vs H Q E ⟨_, _, _, _, _, _, _, rfl, _⟩; rfl) (fun f cdv A outer s H vs Q E hr h => ?_)
  obtain ⟨a, nm, c, e, st, n, u, rfl, hP, hG, hu, k⟩ := h
  refine ⟨_, (pss_cons (ps_set (i := 1) sc__law_near_signatures.nd rfl (.inl rfl) (pe_lst pa_nil))
  (pss_cons (ps_for PassesOwn.never rfl (pi_list (pe_fn (ok__law_near_names T) hr (by rfl) (pa_cons (pe_ix ix_tup (pv 0) pe_int (fun _ _ => rfl)) pa_nil))) (pg_name (i := 2) sc__law_near_signatures.nd rfl (.inl rfl))
  (pss_one (ps_expr (pe_bm PySem.F.plainAttrs_list PySem.F.slot_list_append PySem.F.type_list_append mt_append (pv 1) (pa_cons (pe_op op_catA (pe_tup (pa_cons (pv 2) pa_nil)) (pe_slice sl_tupA (pv 0) (po_some pe_int) po_none)) pa_nil)))))
  (pss_cons (ps_for PassesOwn.never rfl (pi_range2 rfl T.m_range (pa_cons pe_int (pa_cons pe_int pa_nil))) (pg_name (i := 3) sc__law_near_signatures.nd rfl (.inl rfl))
  (pss_one (ps_for PassesOwn.never rfl (pi_list (pe_fn (ok__law_near_words T) hr (by rfl) (pa_cons (pe_ix ix_tup (pv 0) (pv 3) (fun _ _ => rfl)) pa_nil))) (pg_name (i := 4) sc__law_near_signatures.nd rfl (.inl rfl))
  (pss_one (ps_expr (pe_bm PySem.F.plainAttrs_list PySem.F.slot_list_append PySem.F.type_list_append mt_append (pv 1) (pa_cons (pe_op op_catA (pe_op op_catA (pe_slice sl_tupA (pv 0) po_none (po_some (pv 3))) (pe_tup (pa_cons (pv 4) pa_nil))) (pe_slice sl_tupA (pv 0) (po_some (pe_op op_add (pv 3) pe_int)) po_none)) pa_nil)))))))
  (pss_cons (ps_expr (pe_bm PySem.F.plainAttrs_list PySem.F.slot_list_append PySem.F.type_list_append mt_append (pv 1) (pa_cons (pe_op op_catA (pe_tup (pa_cons (pe_ix ix_tup (pv 0) pe_int (fun _ _ => rfl)) (pa_cons (pe_ix ix_tup (pv 0) pe_int (fun _ _ => rfl)) (pa_cons (pe_ix ix_tup (pv 0) pe_int (fun _ _ => rfl)) pa_nil)))) (pe_slice sl_tupA (pv 0) (po_some pe_int) po_none)) pa_nil)))
  (pss_one (ps_ret (pv 1))))))), ?_⟩
  have hG20 : GoodT 0 20 nm := hG.mono (Nat.le_refl _) (by decide)
  have pS : pureAll (sigL nm c e st n u) = true := (good_sigL hG20).all
  have lcS : ∀ lo hi, (cutD (sigL nm c e st n u) lo hi).length ≤ 6 := fun lo hi => cutD_mem.2
  walk_at "en"
  intro p H1 n1 e1 hp
  have np : H p = none := n1
  walk_at "rd"
  refine r_ixPT (i := 0) (hP.ex e1) rfl fun v hv => ?_
  obtain ⟨an, rfl, hA⟩ := dp_pt hv
  walk_at "rd"
  refine ⟨an, nm, rfl, hA, hG, fun H2 q e2 nq ls => ?_⟩
  have hqp : q ≠ p := by rintro rfl; rw [nq] at hp; cases hp
  have hp2 := e2 _ _ hp
  obtain ⟨outs, es, hq, hd, hes, hel⟩ := ls
  have hol := dpAll_len hd
  have pes : pureAll es = true := (pureAll_iff es).mpr fun x hx => (hes x hx).pd.1
  walk_at "rd"
  refine loopL (xs := outs) (fun i σ' H' => (∃ v2 v3 v4 : Option V, σ' = [some (.ref a), some (.ref p), v2, v3, v4]) ∧ But p H2 H' ∧ NoTup H2 p ∧ LsAt K H' p SigD i) ⟨⟨_, _, _, rfl⟩, But.refl _ _, noTup_l hp2, ⟨[], [], hp2, .nil, (fun _ h => by cases h), Nat.le_refl _⟩⟩ (by rintro i σ' H' _ ⟨_, b, _⟩; exact SqL.of (b _ _ hqp hq)) ?_ ?_
  · rintro i v σ' H' hi ⟨⟨v2, v3, v4, rfl⟩, b, nt, ls⟩
    obtain ⟨d, hd', hv⟩ := dpAll_mem hd hi
    obtain ⟨nm', rfl, g'⟩ := hes d (List.mem_of_getElem? hd')
    have hi' : i < outs.length := (List.getElem?_eq_some_iff.mp hi).1
    have hv' := dp_but b nt _ _ (g'.pure (by decide)) hv
    have hP' : PT K H' a (sigL nm c e st n u) := (hP.ex (e1.trans e2)).but b nt pS
    walk_at "rd"
    refine r_isP ls ?_
    walk_at "rd"
    intro t H3 n3 e3 ht
    walk_at "rd"
    refine r_slPT (hP'.ex e3) fun q4 H4 e4 hq4 => ?_
    refine r_catPT ((pt_one ht (dp_ex e3 _ _ hv')).ex e4) hq4 (by have := lcS (some 1) none; simp; omega) fun q5 H5 e5 hq5 => ?_
    walk_at "rd"
    have e35 := (e3.trans e4).trans e5
    refine r_appP SigD.vp (ls.ex e35) (by omega) hq5.dp ⟨nm', c, e, st, n, u, rfl, g', hu⟩ fun H6 b6 nt6 ls6 => ?_
    exact ⟨⟨_, _, _, rfl⟩, (But.same' b e35).trans b6, nt, ls6⟩
  rintro σ' H3 ⟨⟨v2, v3, v4, rfl⟩, b3, nt3, ls3⟩
  have e03 : Same H H3 := same_but (e1.trans e2) b3 np
  walk_at "rd"
  refine loopR (fun i σ' H' => (∃ v3 v4 : Option V, σ' = [some (.ref a), some (.ref p), v2, v3, v4]) ∧ Same H H' ∧ LsAt K H' p SigD (4 + 3 * i)) ⟨⟨_, _, rfl⟩, e03, ls3.mono (by omega)⟩ ?_ ?_
  · rintro i σ' H4 hi ⟨⟨w3, w4, rfl⟩, e4, ls4⟩
    have hi5 : i < 5 := by omega
    obtain ⟨z, hz, hset⟩ := sig_set (k := c) (e := e) (s := st) (n := n) hG20 hu hi5
    have ei : (1 + (i : Int)) = ((1 + i : Nat) : Int) := by omega
    rw [ei]
    walk_at "rd"
    refine r_ixPT (hP.ex e4) hz fun v hv => ?_
    cases hv
    walk_at "rd"
    refine ⟨z, rfl, fun H5 q5 ns e5 nq5 hq5 hl5 hns => ?_⟩
    have hq5p : q5 ≠ p := by
      rintro rfl
      obtain ⟨o, _, ho, _⟩ := ls4
      rw [nq5] at ho; cases ho
    have ls5 := ls4.ex e5
    walk_at "rd"
    refine loopL (xs := ns.map V.int) (fun j σ' H' => (∃ v4 : Option V, σ' = [some (.ref a), some (.ref p), v2, some (.int ((1 + i : Nat) : Int)), v4]) ∧ But p H5 H' ∧ LsAt K H' p SigD (4 + 3 * i + j)) ⟨⟨_, rfl⟩, But.refl _ _, ls5⟩ (by rintro j σ' H' _ ⟨_, b, _⟩; exact SqL.of (b _ _ hq5p hq5)) ?_ ?_
    · rintro j x σ' H6 hj ⟨⟨u4, rfl⟩, b6, ls6⟩
      obtain ⟨y, hy, rfl⟩ := map_get hj
      have hy0 := hns y (List.mem_of_getElem? hy)
      have hjl : j < ns.length := (List.getElem?_eq_some_iff.mp hy).1
      have e06 : Same H H6 := same_but (e4.trans e5) b6 np
      walk_at "rd"
      refine r_isP ls6 ?_
      walk_at "rd"
      refine r_slPT (hP.ex e06) fun q7 H7 e7 hq7 => ?_
      walk_at "rd"
      intro t8 H8 n8 e8 ht8
      refine r_catPT (hq7.ex e8) (pt_one ht8 (.int y)) (by have := lcS none (some ((1 + i : Nat) : Int)); rw [List.length_singleton]; omega) fun q9 H9 e9 hq9 => ?_
      walk_at "rd"
      refine r_slPT (hP.ex (((e06.trans e7).trans e8).trans e9)) fun q10 H10 e10 hq10 => ?_
      refine r_catPT (hq9.ex e10) hq10 (by have l1 := lcS none (some ((1 + i : Nat) : Int)); have l2 := lcS (some (((1 + i : Nat) : Int) + 1)) none; rw [List.length_append, List.length_singleton]; omega) fun q11 H11 e11 hq11 => ?_
      walk_at "rd"
      have e611 := (((e7.trans e8).trans e9).trans e10).trans e11
      have ee : (((1 + i : Nat) : Int) + 1) = ((1 + i + 1 : Nat) : Int) := by omega
      rw [ee] at hq11
      refine r_appP SigD.vp (ls6.ex e611) (by omega) hq11.dp (hset y hy0) fun H12 b12 nt12 ls12 => ?_
      exact ⟨⟨_, rfl⟩, (But.same' b6 e611).trans b12, ls12⟩
    · rintro σ' H6 ⟨⟨u4, rfl⟩, b6, ls6⟩
      refine ⟨⟨_, _, rfl⟩, same_but (e4.trans e5) b6 np, ls6.mono ?_⟩
      rw [List.length_map]
      omega
  rintro σ' H4 ⟨⟨w3, w4, rfl⟩, e4, ls4⟩
  have ls19 : LsAt K H4 p SigD 19 := ls4.mono (by omega)
  have hP4 := hP.ex e4
  walk_at "rd"
  refine r_isP ls19 ?_
  walk_at "rd"
  refine r_ixPT (i := 0) hP4 rfl fun v0 hv0 => ?_
  walk_at "rd"
  refine r_ixPT (i := 2) hP4 rfl fun v1 hv1 => ?_
  cases hv1
  walk_at "rd"
  refine r_ixPT (i := 1) hP4 rfl fun v2' hv2 => ?_
  cases hv2
  walk_at "rd"
  intro t5 H5 n5 e5 ht5
  walk_at "rd"
  refine r_slPT (hP4.ex e5) fun q6 H6 e6 hq6 => ?_
  refine r_catPT (ds := [.tuple nm, .int e, .int c]) ⟨_, SqT.of (e6 _ _ ht5), .cons (dp_ex (e5.trans e6) _ _ hv0) (.cons (.int e) (.cons (.int c) .nil))⟩ hq6 (by have := lcS (some 3) none; simp; omega) fun q7 H7 e7 hq7 => ?_
  walk_at "rd"
  have e57 := (e5.trans e6).trans e7
  refine r_appP SigD.vp (ls19.ex e57) (by decide) hq7.dp ⟨nm, e, c, st, n, u, rfl, hG20, hu⟩ fun H8 b8 nt8 ls8 => ?_
  walk_at "rd"
  exact k H8 p (same_but (e4.trans e57) b8 np) np (ls8.mono (by decide))
theorem ok__law_times (T : Txt K mg) : Fn P w K mg base 2 "_law_times" ["made"] (fun vs H Q _ => ∃ (a : Addr) (nm : List PyData) (c e s n u : Int), vs = [.ref a] ∧ PT K H a (sigL nm c e s n u) ∧ ∀ H' p (ns : List Int), Same H H' → H p = none → H' p = some (.lst (ns.map V.int)) → Q (.ref p) H') := by
  refine T.d__law_times.ok sc__law_times (by rintro vs H Q E ⟨_, _, _, _, _, _, _, rfl, _⟩; rfl) (fun f cdv A outer s H vs Q E hr h => ?_)
  obtain ⟨a, nm, c, e, st, n, u, rfl, hP, k⟩ := h
  refine ⟨_, (pss_cons (ps_set (i := 1) sc__law_times.nd rfl (.inl rfl) (pe_lst (pa_cons pe_int (pa_cons pe_int pa_nil))))
  (pss_cons (ps_for PassesOwn.never rfl (pi_list (pe_lst (pa_cons (pe_ix ix_tup (pv 0) pe_int (fun _ _ => rfl)) (pa_cons (pe_ix ix_tup (pv 0) pe_int (fun _ _ => rfl)) pa_nil)))) (pg_name (i := 2) sc__law_times.nd rfl (.inl rfl))
  (pss_one (ps_set (i := 1) sc__law_times.nd rfl (.inl rfl) (pe_op op_cat (pe_op op_cat (pv 1) (pe_lst (pa_cons (pv 2) pa_nil))) (pe_fn (ok__law_near_words T) hr (by rfl) (pa_cons (pv 2) pa_nil))))))
  (pss_one (ps_ret (pv 1))))), ?_⟩
  walk_at "en"
  intro p H1 n1 e1 hp
  walk_at "rd"
  refine r_ixPT (i := 3) (hP.ex e1) rfl fun v hv => ?_
  cases hv
  walk_at "rd"
  refine r_ixPT (i := 4) (hP.ex e1) rfl fun v hv => ?_
  cases hv
  walk_at "rd"
  intro q H2 n2 e2 hq
  walk_at "rd"
  refine loopL (xs := [st, n].map V.int) (fun i σ' H' => (∃ (v : Option V) (t : Addr) (ns : List Int), σ' = [some (.ref a), some (.ref t), v] ∧ H t = none ∧ H' t = some (.lst (ns.map V.int)) ∧ ns.length ≤ 2 + 4 * i) ∧ Same H2 H') ⟨⟨_, p, [0, 4294967295], rfl, n1, e2 _ _ hp, by decide⟩, Same.refl _⟩ (by rintro i σ' H' _ ⟨_, e⟩; exact SqL.of (e _ _ hq)) ?_ ?_
  · rintro i x σ' H3 hi ⟨⟨v, t, ns, rfl, nt, ht, hl⟩, e3⟩
    obtain ⟨z, rfl⟩ := ints_mem hi
    have hi2 : i < 2 := (List.getElem?_eq_some_iff.mp hi).1
    have e03 := (e1.trans e2).trans e3
    walk_at "rd"
    intro r H4 n4 e4 hr4
    refine r_cat (e4 _ _ ht) hr4 (by simp; omega) fun r5 H5 n5 e5 hr5 => ?_
    walk_at "rd"
    refine ⟨z, rfl, fun H6 r6 ms e6 n6 hr6 hl6 _ => ?_⟩
    refine r_cat (e6 _ _ hr5) hr6 (by simp; omega) fun r7 H7 n7 e7 hr7 => ?_
    walk_at "rd"
    have e37 := ((e4.trans e5).trans e6).trans e7
    exact ⟨⟨_, r7, (ns ++ [z]) ++ ms, rfl, fresh_back (((e03.trans e4).trans e5).trans e6) n7, by rw [hr7]; simp, by simp; omega⟩, e3.trans e37⟩
  · rintro σ' H3 ⟨⟨v, t, ns, rfl, nt, ht, hl⟩, e3⟩
    walk_at "rd"
    exact k H3 t ns ((e1.trans e2).trans e3) nt ht
theorem ok__law_near_sets (T : Txt K mg) : Fn P w K mg base 2 "_law_near_sets" ["record_set"] (fun vs H Q _ => ∃ (a : Addr) (nm : List PyData) (κ : Str) (t : Int) (us : List PyData), vs = [.ref a] ∧ PT K H a (recL nm κ t us) ∧ GoodT 0 12 nm ∧ Asc κ ∧ GoodT 2 8 us ∧ ∀ H' p, Same H H' → H p = none → LsAt K H' p PD8 30 → Q (.ref p) H') := by
  refine T.d__law_near_sets.ok sc__law_near_sets (by rintro vs H Q E ⟨_, _, _, _, _, rfl, _⟩; rfl) (fun f cdv A outer s H vs Q E hr h => ?_)
  obtain ⟨a, nm, κ, t, us, rfl, hP, hG, hκ, hU, k⟩ := h
  refine ⟨_, (pss_cons (ps_set (i := 1) sc__law_near_sets.nd rfl (.inl rfl) (pe_lst pa_nil))
  (pss_cons (ps_for PassesOwn.never rfl (pi_list (pe_fn (ok__law_near_names T) hr (by rfl) (pa_cons (pe_ix ix_tup (pv 0) pe_int (fun _ _ => rfl)) pa_nil))) (pg_name (i := 2) sc__law_near_sets.nd rfl (.inl rfl))
  (pss_one (ps_expr (pe_bm PySem.F.plainAttrs_list PySem.F.slot_list_append PySem.F.type_list_append mt_append (pv 1) (pa_cons (pe_op op_catA (pe_tup (pa_cons (pv 2) pa_nil)) (pe_slice sl_tupA (pv 0) (po_some pe_int) po_none)) pa_nil)))))
  (pss_cons (ps_for PassesOwn.never rfl (pi_list (pe_fn (ok__law_near_words T) hr (by rfl) (pa_cons (pe_ix ix_tup (pv 0) pe_int (fun _ _ => rfl)) pa_nil))) (pg_name (i := 3) sc__law_near_sets.nd rfl (.inl rfl))
  (pss_one (ps_expr (pe_bm PySem.F.plainAttrs_list PySem.F.slot_list_append PySem.F.type_list_append mt_append (pv 1) (pa_cons (pe_op op_catA (pe_slice sl_tupA (pv 0) po_none (po_some pe_int)) (pe_tup (pa_cons (pv 3) (pa_cons (pe_ix ix_tup (pv 0) pe_int (fun _ _ => rfl)) pa_nil)))) pa_nil)))))
  (pss_cut (ps_if (pt_cmpR op_gt (pe_callB cLenQ (by rfl) T.m_len PySem.boot_len (pa_cons (pe_ix ix_tup (pv 0) pe_int (fun _ _ => rfl)) pa_nil)) pe_int (nomark _))
  (pss_cons (ps_expr (pe_bm PySem.F.plainAttrs_list PySem.F.slot_list_append PySem.F.type_list_append mt_append (pv 1) (pa_cons (pe_op op_catA (pe_slice sl_tupA (pv 0) po_none (po_some pe_int)) (pe_tup (pa_cons (pe_slice sl_tupA (pe_ix ix_tup (pv 0) pe_int (fun _ _ => rfl)) (po_some pe_int) po_none) pa_nil))) pa_nil)))
  (pss_one (ps_expr (pe_bm PySem.F.plainAttrs_list PySem.F.slot_list_append PySem.F.type_list_append mt_append (pv 1) (pa_cons (pe_op op_catA (pe_slice sl_tupA (pv 0) po_none (po_some pe_int)) (pe_tup (pa_cons (pe_slice sl_tupA (pe_ix ix_tup (pv 0) pe_int (fun _ _ => rfl)) po_none (po_some (pe_un un_neg pe_int))) pa_nil))) pa_nil)))))
  pss_nil)
  (pss_cut (ps_if (pt_cmpR op_in_seq (pe_ix ix_tup (pv 0) pe_int (fun _ _ => rfl)) (pe_lst (pa_cons pe_str (pa_cons pe_str (pa_cons pe_str pa_nil)))) (by first | rfl | with_unfolding_all rfl))
  (pss_one (ps_for PassesOwn.never rfl (pi_list (pe_lst (pa_cons pe_str (pa_cons pe_str (pa_cons pe_str pa_nil))))) (pg_name (i := 4) sc__law_near_sets.nd rfl (.inl rfl))
  (pss_one (ps_expr (pe_bm PySem.F.plainAttrs_list PySem.F.slot_list_append PySem.F.type_list_append mt_append (pv 1) (pa_cons (pe_op op_catA (pe_tup (pa_cons (pe_ix ix_tup (pv 0) pe_int (fun _ _ => rfl)) (pa_cons (pv 4) pa_nil))) (pe_slice sl_tupA (pv 0) (po_some pe_int) po_none)) pa_nil))))))
  pss_nil)
  (pss_cut (ps_if (pt_cmpR op_eq (pe_ix ix_tup (pv 0) pe_int (fun _ _ => rfl)) pe_str (nomark _))
  (pss_one (ps_expr (pe_bm PySem.F.plainAttrs_list PySem.F.slot_list_append PySem.F.type_list_append mt_append (pv 1) (pa_cons (pe_op op_catA (pe_tup (pa_cons (pe_ix ix_tup (pv 0) pe_int (fun _ _ => rfl)) (pa_cons pe_str pa_nil))) (pe_slice sl_tupA (pv 0) (po_some pe_int) po_none)) pa_nil))))
  pss_nil)
  (pss_one (ps_ret (pv 1))))))))), ?_⟩
  have gR := good_recL (t := t) hG hκ hU
  have pR := gR.all
  have p8 : ∀ {ds : List PyData}, GoodT 4 20 ds → PD8 (.tuple ds) := fun g => ⟨g.pure (by decide), by have := g.depth; omega⟩
  have gc : ∀ lo hi, GoodT 4 4 (cutD (recL nm κ t us) lo hi) := fun lo hi => (gR.cut lo hi).mono (by decide) (Nat.le_refl _)
  have lc : ∀ lo hi, (cutD (recL nm κ t us) lo hi).length ≤ 4 := fun lo hi => cutD_mem.2
  have g1 : ∀ {d : PyData}, pureD d = true → d.depth ≤ 4 → GoodT 4 1 [d] := fun h h2 => GoodT.one h h2
  have pU := hU.pure (by decide)
  have dU := hU.depth
  walk_at "en"
  intro p H1 n1 e1 hp
  have np : H p = none := n1
  walk_at "rd"
  refine r_ixPT (i := 0) (hP.ex e1) rfl fun v hv => ?_
  obtain ⟨an, rfl, hA⟩ := dp_pt hv
  walk_at "rd"
  refine ⟨an, nm, rfl, hA, hG.mono (Nat.le_refl _) (by decide), fun H2 q e2 nq ls => ?_⟩
  have hqp : q ≠ p := by rintro rfl; rw [nq] at hp; cases hp
  have hp2 := e2 _ _ hp
  obtain ⟨outs, es, hq, hd, hes, hel⟩ := ls
  have hol := dpAll_len hd
  walk_at "rd"
  refine loopL (xs := outs) (fun i σ' H' => (∃ v2 v3 v4 : Option V, σ' = [some (.ref a), some (.ref p), v2, v3, v4]) ∧ But p H2 H' ∧ NoTup H2 p ∧ LsAt K H' p PD8 i) ⟨⟨_, _, _, rfl⟩, But.refl _ _, noTup_l hp2, ⟨[], [], hp2, .nil, (fun _ h => by cases h), Nat.le_refl _⟩⟩ (by rintro i σ' H' _ ⟨_, b, _⟩; exact SqL.of (b _ _ hqp hq)) ?_ ?_
  · rintro i v σ' H' hi ⟨⟨v2, v3, v4, rfl⟩, b, nt, ls⟩
    obtain ⟨d, hd', hv⟩ := dpAll_mem hd hi
    have nd := hes d (List.mem_of_getElem? hd')
    have hi' : i < outs.length := (List.getElem?_eq_some_iff.mp hi).1
    have hv' := dp_but b nt _ _ nd.pd.1 hv
    have hP' : PT K H' a (recL nm κ t us) := (hP.ex (e1.trans e2)).but b nt pR
    walk_at "rd"
    refine r_isP ls ?_
    walk_at "rd"
    intro t3 H3 n3 e3 ht
    walk_at "rd"
    refine r_slPT (hP'.ex e3) fun q4 H4 e4 hq4 => ?_
    refine r_catPT ((pt_one ht (dp_ex e3 _ _ hv')).ex e4) hq4 (by have := lc (some 1) none; simp; omega) fun q5 H5 e5 hq5 => ?_
    walk_at "rd"
    have e35 := (e3.trans e4).trans e5
    refine r_appP PD8.vp (ls.ex e35) (by omega) hq5.dp (p8 (((g1 nd.pd.1 (by have := nd.pd.2; omega)).app (gc _ _)).mono (Nat.le_refl _) (by decide))) fun H6 b6 nt6 ls6 => ?_
    exact ⟨⟨_, _, _, rfl⟩, (But.same' b e35).trans b6, nt, ls6⟩
  rintro σ' H3 ⟨⟨v2, v3, v4, rfl⟩, b3, nt3, ls3⟩
  have e03 : Same H H3 := same_but (e1.trans e2) b3 np
  have ls34 : LsAt K H3 p PD8 4 := ls3.mono (by omega)
  walk_at "rd"
  refine r_ixPT (i := 2) (hP.ex e03) rfl fun v hv => ?_
  cases hv
  walk_at "rd"
  refine ⟨t, rfl, fun H5 q5 ns e5 nq5 hq5 hl5 hns => ?_⟩
  have hq5p : q5 ≠ p := by
    rintro rfl
    obtain ⟨o, _, ho, _⟩ := ls34
    rw [nq5] at ho; cases ho
  have e05 := e03.trans e5
  walk_at "rd"
  refine loopL (xs := ns.map V.int) (fun j σ' H' => (∃ v3 v4 : Option V, σ' = [some (.ref a), some (.ref p), v2, v3, v4]) ∧ But p H5 H' ∧ LsAt K H' p PD8 (4 + j)) ⟨⟨_, _, rfl⟩, But.refl _ _, ls34.ex e5⟩ (by rintro j σ' H' _ ⟨_, b, _⟩; exact SqL.of (b _ _ hq5p hq5)) ?_ ?_
  · rintro j x σ' H6 hj ⟨⟨u3, u4, rfl⟩, b6, ls6⟩
    obtain ⟨y, hy, rfl⟩ := map_get hj
    have hjl : j < ns.length := (List.getElem?_eq_some_iff.mp hy).1
    have e06 : Same H H6 := same_but e05 b6 np
    walk_at "rd"
    refine r_isP ls6 ?_
    walk_at "rd"
    refine r_slPT (hP.ex e06) fun q7 H7 e7 hq7 => ?_
    walk_at "rd"
    refine r_ixPT (i := 3) (hP.ex (e06.trans e7)) rfl fun v hv => ?_
    walk_at "rd"
    intro t8 H8 n8 e8 ht8
    refine r_catPT (es := [.int y, .tuple us]) (hq7.ex e8) ⟨_, SqT.of ht8, .cons (.int y) (.cons (dp_ex e8 _ _ hv) .nil)⟩ (by have := lc none (some 2); simp; omega) fun q9 H9 e9 hq9 => ?_
    walk_at "rd"
    have e69 := (e7.trans e8).trans e9
    refine r_appP PD8.vp (ls6.ex e69) (by omega) hq9.dp (p8 (((gc _ _).app ((g1 (d := .int y) rfl (by simp [PyData.depth])).app (g1 pU (by omega)))).mono (Nat.le_refl _) (by decide))) fun H10 b10 nt10 ls10 => ?_
    exact ⟨⟨_, _, rfl⟩, (But.same' b6 e69).trans b10, ls10⟩
  rintro σ' H6 ⟨⟨w3, w4, rfl⟩, b6, ls6⟩
  have e06 : Same H H6 := same_but e05 b6 np
  have ls67 : LsAt K H6 p PD8 7 := ls6.mono (by rw [List.length_map]; omega)
  refine r_cut (fun σ' H' => (σ' = [some (.ref a), some (.ref p), v2, w3, w4]) ∧ Same H H' ∧ LsAt K H' p PD8 9) ?_ ?_
  · walk_at "rd"
    refine r_ixPT (i := 3) (hP.ex e06) rfl fun v hv => ?_
    obtain ⟨au, rfl, hUP⟩ := dp_pt hv
    walk_at "rd"
    refine r_lenPT hUP ?_
    walk_at "rd"
    walk_at "sp" <;> intro h0
    · walk_at "rd"
      refine r_isP ls67 ?_
      walk_at "rd"
      refine r_slPT (hP.ex e06) fun q7 H7 e7 hq7 => ?_
      walk_at "rd"
      refine r_ixPT (i := 3) (hP.ex (e06.trans e7)) rfl fun v hv => ?_
      obtain ⟨au7, rfl, hUP7⟩ := dp_pt hv
      walk_at "rd"
      refine r_slPT hUP7 fun q8 H8 e8 hq8 => ?_
      walk_at "rd"
      intro t9 H9 n9 e9 ht9
      have c1 := hU.cut (some 1) none
      refine r_catPT (hq7.ex (e8.trans e9)) (pt_one ht9 (hq8.ex e9).dp) (by have := lc none (some 3); simp; omega) fun q10 H10 e10 hq10 => ?_
      walk_at "rd"
      have e610 := ((e7.trans e8).trans e9).trans e10
      refine r_appP PD8.vp (ls67.ex e610) (by decide) hq10.dp (p8 (((gc _ _).app (g1 (c1.pure (by decide)) (by have := c1.depth; omega))).mono (Nat.le_refl _) (by decide))) fun H11 b11 nt11 ls11 => ?_
      have e011 : Same H H11 := same_but (e06.trans e610) b11 np
      walk_at "rd"
      refine r_isP ls11 ?_
      walk_at "rd"
      refine r_slPT (hP.ex e011) fun q12 H12 e12 hq12 => ?_
      walk_at "rd"
      refine r_ixPT (i := 3) (hP.ex (e011.trans e12)) rfl fun v hv => ?_
      obtain ⟨au8, rfl, hUP8⟩ := dp_pt hv
      walk_at "rd"
      refine r_slPT hUP8 fun q13 H13 e13 hq13 => ?_
      walk_at "rd"
      intro t14 H14 n14 e14 ht14
      have c2 := hU.cut none (some (-1))
      refine r_catPT (hq12.ex (e13.trans e14)) (pt_one ht14 (hq13.ex e14).dp) (by have := lc none (some 3); simp; omega) fun q15 H15 e15 hq15 => ?_
      walk_at "rd"
      have e1115 := ((e12.trans e13).trans e14).trans e15
      refine r_appP PD8.vp (ls11.ex e1115) (by decide) hq15.dp (p8 (((gc _ _).app (g1 (c2.pure (by decide)) (by have := c2.depth; omega))).mono (Nat.le_refl _) (by decide))) fun H16 b16 nt16 ls16 => ?_
      walk_at "rd"
      exact ⟨rfl, same_but (e011.trans e1115) b16 np, ls16⟩
    · walk_at "rd"
      exact ⟨rfl, e06, ls67.mono (by decide)⟩
  rintro σ' H7 ⟨rfl, e7, ls7⟩
  refine r_cut (fun σ' H' => (∃ v : Option V, σ' = [some (.ref a), some (.ref p), v2, w3, v]) ∧ Same H H' ∧ LsAt K H' p PD8 12) ?_ ?_
  · walk_at "rd"
    refine r_ixPT (i := 1) (hP.ex e7) rfl fun v hv => ?_
    cases hv
    walk_at "rd"
    intro p8' H8 n8 e8 hp8
    walk_at "rd"
    refine r_inF (.inl (SqL.of hp8)) rfl rfl ?_
    walk_at "rd"
    cases hin : inV (V.str κ) [V.str "address", V.str "key", V.str "link"] with
    | true =>
      walk_at "rd"
      intro p9 H9 n9 e9 hp9
      have ls9 := (ls7.ex e8).ex e9
      have hp9p : p9 ≠ p := by
        rintro rfl
        obtain ⟨o, _, ho, _⟩ := ls7.ex e8
        rw [n9] at ho; cases ho
      walk_at "rd"
      refine loopL (xs := [("address" : Str), "key", "link"].map V.str) (fun j σ' H' => (∃ v4 : Option V, σ' = [some (.ref a), some (.ref p), v2, w3, v4]) ∧ But p H9 H' ∧ LsAt K H' p PD8 (9 + j)) ⟨⟨_, rfl⟩, But.refl _ _, ls9⟩ (by rintro j σ' H' _ ⟨_, b, _⟩; exact SqL.of (b _ _ hp9p hp9)) ?_ ?_
      · rintro j x σ' H10 hj ⟨⟨u4, rfl⟩, b10, ls10⟩
        obtain ⟨y, hy, rfl⟩ := map_get hj
        have hjl : j < 3 := (List.getElem?_eq_some_iff.mp hy).1
        have ya : Asc y := by
          have : ∀ y ∈ [("address" : Str), "key", "link"], Asc y := by decide +kernel
          exact this y (List.mem_of_getElem? hy)
        have e010 : Same H H10 := same_but ((e7.trans e8).trans e9) b10 np
        walk_at "rd"
        refine r_isP ls10 ?_
        walk_at "rd"
        refine r_ixPT (i := 0) (hP.ex e010) rfl fun v hv => ?_
        walk_at "rd"
        intro t11 H11 n11 e11 ht11
        walk_at "rd"
        refine r_slPT (hP.ex (e010.trans e11)) fun q12 H12 e12 hq12 => ?_
        refine r_catPT (ds := [.tuple nm, .str y]) ⟨_, SqT.of (e12 _ _ ht11), .cons (dp_ex (e11.trans e12) _ _ hv) (.cons (.str y) .nil)⟩ hq12 (by have := lc (some 2) none; simp; omega) fun q13 H13 e13 hq13 => ?_
        walk_at "rd"
        have e1013 := (e11.trans e12).trans e13
        refine r_appP PD8.vp (ls10.ex e1013) (by omega) hq13.dp (p8 ((((g1 (hG.pure (by decide)) (by have := hG.depth; omega)).app (g1 (pure_str ya) (by simp [PyData.depth]))).app (gc _ _)).mono (Nat.le_refl _) (by decide))) fun H14 b14 nt14 ls14 => ?_
        exact ⟨⟨_, rfl⟩, (But.same' b10 e1013).trans b14, ls14⟩
      · rintro σ' H10 ⟨⟨u4, rfl⟩, b10, ls10⟩
        walk_at "rd"
        exact ⟨⟨_, rfl⟩, same_but ((e7.trans e8).trans e9) b10 np, ls10⟩
    | false =>
      walk_at "rd"
      exact ⟨⟨_, rfl⟩, e7.trans e8, (ls7.ex e8).mono (by decide)⟩
  rintro σ' H8 ⟨⟨x4, rfl⟩, e8, ls8⟩
  refine r_cut (fun σ' H' => (∃ v : Option V, σ' = [some (.ref a), some (.ref p), v2, w3, v]) ∧ Same H H' ∧ LsAt K H' p PD8 13) ?_ ?_
  · walk_at "rd"
    refine r_ixPT (i := 1) (hP.ex e8) rfl fun v hv => ?_
    cases hv
    walk_at "rd"
    walk_at "sp" <;> intro h0
    · walk_at "rd"
      refine r_isP ls8 ?_
      walk_at "rd"
      refine r_ixPT (i := 0) (hP.ex e8) rfl fun v hv => ?_
      walk_at "rd"
      intro t11 H11 n11 e11 ht11
      walk_at "rd"
      refine r_slPT (hP.ex (e8.trans e11)) fun q12 H12 e12 hq12 => ?_
      refine r_catPT (ds := [.tuple nm, .str "server"]) ⟨_, SqT.of (e12 _ _ ht11), .cons (dp_ex (e11.trans e12) _ _ hv) (.cons (.str _) .nil)⟩ hq12 (by have := lc (some 2) none; simp; omega) fun q13 H13 e13 hq13 => ?_
      walk_at "rd"
      have e813 := (e11.trans e12).trans e13
      have ya : Asc "server" := by decide +kernel
      refine r_appP PD8.vp (ls8.ex e813) (by decide) hq13.dp (p8 ((((g1 (hG.pure (by decide)) (by have := hG.depth; omega)).app (g1 (pure_str ya) (by simp [PyData.depth]))).app (gc _ _)).mono (Nat.le_refl _) (by decide))) fun H14 b14 nt14 ls14 => ?_
      walk_at "rd"
      exact ⟨⟨_, rfl⟩, same_but (e8.trans e813) b14 np, ls14⟩
    · walk_at "rd"
      exact ⟨⟨_, rfl⟩, e8, ls8.mono (by decide)⟩
  rintro σ' H9 ⟨⟨y4, rfl⟩, e9, ls9⟩
  walk_at "rd"
  exact k H9 p e9 np (ls9.mono (by decide))

/-! ### the notary and its signers -/
def sgF (k : Int) (l : Addr) : List (Str × V) := [("_key", .int k), ("_signings", .ref l)]
def ntF (m : Int) (l : Addr) : List (Str × V) := [("_many_signers", .int m), ("_signings", .ref l)]
theorem n_ks : ¬ ("_key" : Str) = "_signings" := by decide +kernel
theorem n_sk : ¬ ("_signings" : Str) = "_key" := by decide +kernel
theorem n_ms : ¬ ("_many_signers" : Str) = "_signings" := by decide +kernel
theorem n_sm : ¬ ("_signings" : Str) = "_many_signers" := by decide +kernel
theorem sg_key (k : Int) (l : Addr) : (sgF k l).lookup ("_key" : Str) = some (.int k) := look_same _ _ _
theorem sg_sgs (k : Int) (l : Addr) : (sgF k l).lookup ("_signings" : Str) = some (.ref l) := by unfold sgF; rw [look_other n_sk, look_same]
theorem nt_many (m : Int) (l : Addr) : (ntF m l).lookup ("_many_signers" : Str) = some (.int m) := look_same _ _ _
theorem nt_sgs (m : Int) (l : Addr) : (ntF m l).lookup ("_signings" : Str) = some (.ref l) := by unfold ntF; rw [look_other n_sm, look_same]
theorem nt_no {x : Str} (m : Int) (l : Addr) (h1 : ¬ x = "_many_signers") (h2 : ¬ x = "_signings") : (ntF m l).lookup x = none := by
  unfold ntF; rw [look_other h1, look_other h2]; rfl
theorem sg_no {x : Str} (k : Int) (l : Addr) (h1 : ¬ x = "_key") (h2 : ¬ x = "_signings") : (sgF k l).lookup x = none := by
  unfold sgF; rw [look_other h1, look_other h2]; rfl
theorem ok_Signer___init__ (T : Txt K mg) : FnI P w K mg base CX0 1 T.a_Signer ["self", "key", "signings"] (fun vs H Q _ => ∃ (x dx l : Addr) (k : Int), vs = [.ref x, .int k, .ref l] ∧ H x = some (.ins T.a_Signer dx []) ∧ ∀ H', But x H H' → H' x = some (.ins T.a_Signer dx (sgF k l)) → Q .non H') := by
  refine T.d_Signer___init__.ok sc_Signer___init__ (by rintro vs H Q E ⟨_, _, _, _, rfl, _⟩; rfl) (fun f cdv A outer s H vs Q E hr h => ?_)
  obtain ⟨x, dx, l, k, rfl, hx, q⟩ := h
  refine ⟨_, (pss_cons (ps_fld (pv 0) (pv 1) rfl)
  (pss_one (ps_fld (pv 0) (pv 2) rfl))), ?_⟩
  walk_at "en"
  refine r_sFld1 hx T.cl_Signer T.n_Signer__key (by decide) fun H1 b1 h1 => ?_
  walk_at "rd"
  refine r_sFld1 h1 T.cl_Signer T.n_Signer__signings (Nat.lt_of_le_of_lt (length_putF _ _ _) (by decide)) fun H2 b2 h2 => ?_
  walk_at "rd"
  refine q _ (b1.trans b2) ?_
  rw [h2, putF_nil, putF_other n_ks, putF_nil]
  rfl
theorem ok_Signer_key (T : Txt K mg) : FnP P w K mg base 1 T.a_Signer "key" (fun vs H Q _ => ∃ (x dx l : Addr) (k : Int), vs = [.ref x] ∧ H x = some (.ins T.a_Signer dx (sgF k l)) ∧ Q (.int k) H) := by
  refine T.d_Signer_key.ok sc_Signer_key (by rintro vs H Q E ⟨_, _, _, _, rfl, _⟩; rfl) (fun f cdv A outer s H vs Q E hr h => ?_)
  obtain ⟨x, dx, l, k, rfl, hx, q⟩ := h
  refine ⟨_, (pss_one (ps_ret (pe_fld (pv 0) rfl))), ?_⟩
  walk_at "en"
  refine r_fld1 hx T.cl_Signer T.n_Signer__key (sg_key k l) ?_
  exact q
theorem ok_Signer_sign (T : Txt K mg) : FnM P w K mg base CX0 1 T.a_Signer "sign" ["self", "content"] (fun vs H Q _ => ∃ (x dx l : Addr) (k : Int) (es : List V) (v : V), vs = [.ref x, v] ∧ H x = some (.ins T.a_Signer dx (sgF k l)) ∧ H l = some (.lst es) ∧ es.length ≤ 1000 ∧
    ∀ H' t, But l H H' → H' l = some (.lst (es ++ [.ref t])) → H' t = some (.tup [.int k, v]) → H t = none → Q (.int (es.length : Nat)) H') := by
  refine T.d_Signer_sign.ok sc_Signer_sign (by rintro vs H Q E ⟨_, _, _, _, _, _, rfl, _⟩; rfl) (fun f cdv A outer s H vs Q E hr h => ?_)
  obtain ⟨x, dx, l, k, es, v, rfl, hx, hl, hn, q⟩ := h
  refine ⟨_, (pss_cons (ps_expr (pe_bm PySem.F.plainAttrs_list PySem.F.slot_list_append PySem.F.type_list_append mt_append (pe_fld (pv 0) rfl) (pa_cons (pe_tup (pa_cons (pe_fld (pv 0) rfl) (pa_cons (pv 1) pa_nil))) pa_nil)))
  (pss_one (ps_ret (pe_op op_sub (pe_callB cLenQ (by rfl) T.m_len PySem.boot_len (pa_cons (pe_fld (pv 0) rfl) pa_nil)) pe_int)))), ?_⟩
  walk_at "en"
  refine r_fld1 hx T.cl_Signer T.n_Signer__signings (sg_sgs k l) ?_
  refine r_append hl ?_
  walk_at "rd"
  refine r_fld1 hx T.cl_Signer T.n_Signer__key (sg_key k l) ?_
  walk_at "rd"
  intro t H1 n1 e1 ht
  walk_at "rd"
  refine r_append1 (e1 _ _ hl) (by omega) fun H2 b2 h2 => ?_
  have xl : x ≠ l := by rintro rfl; rw [hx] at hl; cases hl
  have tl : t ≠ l := by rintro rfl; rw [n1] at hl; cases hl
  walk_at "rd"
  refine r_fld1 (b2 _ _ xl (e1 _ _ hx)) T.cl_Signer T.n_Signer__signings (sg_sgs k l) ?_
  walk_at "rd"
  have := q H2 t (But.pre e1 b2) h2 (b2 _ _ tl ht) n1
  rw [List.length_append]
  have e : (((es.length + [V.ref t].length : Nat) : Int) - 1) = ((es.length : Nat) : Int) := by simp
  rw [e]
  exact this
theorem ok_Notary___init__ (T : Txt K mg) : FnI P w K mg base CX0 1 T.a_Notary ["self"] (fun vs H Q _ => ∃ (x dx : Addr), vs = [.ref x] ∧ H x = some (.ins T.a_Notary dx []) ∧ ∀ H' l, But x H H' → H l = none → H' x = some (.ins T.a_Notary dx (ntF 0 l)) → H' l = some (.lst []) → Q .non H') := by
  refine T.d_Notary___init__.ok sc_Notary___init__ (by rintro vs H Q E ⟨_, _, rfl, _⟩; rfl) (fun f cdv A outer s H vs Q E hr h => ?_)
  obtain ⟨x, dx, rfl, hx, q⟩ := h
  refine ⟨_, (pss_cons (ps_fld (pv 0) pe_int rfl)
  (pss_one (ps_fld (pv 0) (pe_lst pa_nil) rfl))), ?_⟩
  walk_at "en"
  refine r_sFld1 hx T.cl_Notary T.n_Notary__many_signers (by decide) fun H1 b1 h1 => ?_
  walk_at "rd"
  intro l H2 n2 e2 hl
  walk_at "rd"
  refine r_sFld1 (e2 _ _ h1) T.cl_Notary T.n_Notary__signings (Nat.lt_of_le_of_lt (length_putF _ _ _) (by decide)) fun H3 b3 h3 => ?_
  walk_at "rd"
  have xl : l ≠ x := by rintro rfl; rw [n2] at h1; cases h1
  refine q _ l ((b1.same' e2).trans b3) (but_fresh b1 xl n2) ?_ (b3 _ _ xl hl)
  rw [h3, putF_nil, putF_other n_ms, putF_nil]
  rfl
theorem ok_Notary_new_signer (T : Txt K mg) : FnM P w K mg base CX0 3 T.a_Notary "new_signer" ["self"] (fun vs H Q _ => ∃ (x dx l : Addr) (m : Int), vs = [.ref x] ∧ H x = some (.ins T.a_Notary dx (ntF m l)) ∧
    ∀ H' y dy, But x H H' → H y = none → H' y = some (.ins T.a_Signer dy (sgF m l)) → H' x = some (.ins T.a_Notary dx (ntF (m + 1) l)) → Q (.ref y) H') := by
  refine T.d_Notary_new_signer.ok sc_Notary_new_signer (by rintro vs H Q E ⟨_, _, _, _, rfl, _⟩; rfl) (fun f cdv A outer s H vs Q E hr h => ?_)
  obtain ⟨x, dx, l, m, rfl, hx, q⟩ := h
  refine ⟨_, (pss_cons (ps_set (i := 1) sc_Notary_new_signer.nd rfl (.inl rfl) (pe_mk (ok_Signer___init__ T) (hr.mono (by decide)) (by rfl) T.g_Signer (pa_cons (pe_fld (pv 0) rfl) (pa_cons (pe_fld (pv 0) rfl) pa_nil))))
  (pss_cons (ps_fldaug (pv 0) pe_int in_add)
  (pss_one (ps_ret (pv 1))))), ?_⟩
  walk_at "en"
  refine r_fld1 hx T.cl_Notary T.n_Notary__many_signers (nt_many m l) ?_
  walk_at "rd"
  refine r_fld1 hx T.cl_Notary T.n_Notary__signings (nt_sgs m l) ?_
  walk_at "rd"
  refine r_made fun y dy H1 n1 e1 hy => ?_
  refine ⟨y, dy, l, m, rfl, hy, fun H2 b2 h2 => ⟨rfl, ?_⟩⟩
  have e2 : Same H H2 := same_but e1 b2 n1
  have xy : y ≠ x := by rintro rfl; rw [n1] at hx; cases hx
  walk_at "rd"
  refine r_aFld1 (e2 _ _ hx) T.cl_Notary T.n_Notary__many_signers (nt_many m l) (by show 2 < 1000; decide) fun H3 b3 h3 => ?_
  walk_at "rd"
  refine q _ y dy (But.pre e2 b3) n1 (b3 _ _ xy h2) ?_
  rw [h3]
  unfold ntF
  rw [putF_same]

def GoodS (G : List PyData) : Prop := (∀ e ∈ G, pureD e = true ∧ e.depth ≤ 12) ∧ G.length ≤ 1000
def holdsB (G : List PyData) (k : Int) (d : PyData) (n : Int) : Bool := if 0 ≤ n ∧ n < (G.length : Int) then PyData.eqv (G.getD n.toNat .none) (.tuple [.int k, d]) else false
theorem sgs_get {H : Hp} {l : Addr} {G : List PyData} {n : Int} (h : SgsAt K H l G) (h0 : 0 ≤ n) (h1 : n < (G.length : Int)) : ∃ es v, SqL K H l es ∧ atI es n = some v ∧ Dp K H v (G.getD n.toNat .none) ∧ G.getD n.toNat .none ∈ G ∧ es.length = G.length := by
  obtain ⟨es, h2, h3⟩ := h
  have hl := dpAll_len h3
  have hlt : n.toNat < G.length := by omega
  have hz := List.getElem?_eq_getElem hlt
  obtain ⟨v, hv, hd⟩ := dpAll_get h3 hz
  have e : G.getD n.toNat .none = G[n.toNat] := by rw [List.getD_eq_getElem?_getD, hz]; rfl
  refine ⟨es, v, h2, ?_, by rw [e]; exact hd, by rw [e]; exact List.getElem_mem hlt, hl⟩
  unfold atI
  rw [ixN_in h0 (by omega)]
  exact hv
theorem sgs_eq {H : Hp} {Q : VK} {G : List PyData} {n k : Int} {v u : V} {d : PyData} {t : Addr} (hG : GoodS G) (h0 : 0 ≤ n) (h1 : n < (G.length : Int)) (hv : Dp K H v (G.getD n.toNat .none)) (hm : G.getD n.toNat .none ∈ G) (ht : SqT K H t [.int k, u]) (hu : Dp K H u d) (p : pureD d = true) (hd : d.depth ≤ 11)
    (q : Q (.bl (holdsB G k d n)) H) : rEqD K v (.ref t) H Q := by
  have g2 := hG.1 _ hm
  refine r_eqP hv (.tup ht (.cons (.int k) (.cons hu .nil))) g2.1 (pure_two rfl p) (by omega) (by have := depth_two (d := .int k) (e := d) (n := 11) (by simp [PyData.depth]) hd; omega) ?_
  unfold holdsB at q
  rw [if_pos ⟨h0, h1⟩] at q
  exact q
def NotR (T : Txt K mg) (H : Hp) (x l : Addr) : Prop := ∃ dx m, H x = some (.ins T.a_Notary dx (ntF m l))
theorem ok_Notary_holds (T : Txt K mg) : FnM P w K mg base CX0 1 T.a_Notary "holds" ["self", "key", "content", "number"] (fun vs H Q _ => ∃ (x l : Addr) (G : List PyData) (k n : Int) (v : V) (d : PyData), vs = [.ref x, .int k, v, .int n] ∧ NotR T H x l ∧ SgsAt K H l G ∧ GoodS G ∧ Dp K H v d ∧ pureD d = true ∧ d.depth ≤ 11 ∧
    ∀ H', Same H H' → Q (.bl (holdsB G k d n)) H') := by
  refine T.d_Notary_holds.ok sc_Notary_holds (by rintro vs H Q E ⟨_, _, _, _, _, _, _, rfl, _⟩; rfl) (fun f cdv A outer s H vs Q E hr h => ?_)
  obtain ⟨x, l, G, k, n, v, d, rfl, ⟨dx, m, hx⟩, hl, hG, hv, hp, hd, q⟩ := h
  refine ⟨_, (pss_cons (ps_if (pt_not (pt_chain op_le op_lt pe_int (pv 3) (pe_callB cLenQ (by rfl) T.m_len PySem.boot_len (pa_cons (pe_fld (pv 0) rfl) pa_nil))))
  (pss_one (ps_ret pe_bl))
  pss_nil)
  (pss_one (ps_ret (pe_cmpR (op_eqD hr.units) (pe_ix ix_list (pe_fld (pv 0) rfl) (pv 3) (fun _ _ => rfl)) (pe_tup (pa_cons (pv 1) (pa_cons (pv 2) pa_nil))) (nomark _))))), ?_⟩
  obtain ⟨es0, hs0, ha0⟩ := id hl
  have hlen := dpAll_len ha0
  walk_at "en"
  walk_at "sp" <;> intro h0
  · walk_at "rd"
    refine r_fld1 hx T.cl_Notary T.n_Notary__signings (nt_sgs m l) ?_
    walk_at "rd"
    rw [hlen]
    walk_at "sp" <;> intro h1
    · walk_at "rd"
      have := q _ (Same.refl _)
      unfold holdsB at this
      rw [if_neg (fun z => h1 z.2)] at this
      exact this
    · walk_at "rd"
      refine r_fld1 hx T.cl_Notary T.n_Notary__signings (nt_sgs m l) ?_
      walk_at "rd"
      obtain ⟨es, u, g1, g2, g3, g4, _⟩ := sgs_get hl h0 h1
      refine r_ixL g1 g2 ?_
      walk_at "rd"
      intro t H1 n1 e1 ht
      exact sgs_eq hG h0 h1 (dp_ex e1 _ _ g3) g4 (SqT.of ht) (dp_ex e1 _ _ hv) hp hd (q _ e1)
  · walk_at "rd"
    have := q _ (Same.refl _)
    unfold holdsB at this
    rw [if_neg (fun z => h0 z.1)] at this
    exact this
theorem ok_Notary___len__ (T : Txt K mg) : FnM P w K mg base CX0 1 T.a_Notary "__len__" ["self"] (fun vs H Q _ => ∃ (x l : Addr) (G : List PyData), vs = [.ref x] ∧ NotR T H x l ∧ SgsAt K H l G ∧ Q (.int (G.length : Nat)) H) := by
  refine T.d_Notary___len__.ok sc_Notary___len__ (by rintro vs H Q E ⟨_, _, _, rfl, _⟩; rfl) (fun f cdv A outer s H vs Q E hr h => ?_)
  obtain ⟨x, l, G, rfl, ⟨dx, m, hx⟩, ⟨es, hs, ha⟩, q⟩ := h
  refine ⟨_, (pss_one (ps_ret (pe_callB cLenQ (by rfl) T.m_len PySem.boot_len (pa_cons (pe_fld (pv 0) rfl) pa_nil)))), ?_⟩
  walk_at "en"
  refine r_fld1 hx T.cl_Notary T.n_Notary__signings (nt_sgs m l) ?_
  walk_at "rd"
  rw [dpAll_len ha]
  exact q
/-- what a signer signs for a signature and a record set -/
def contD (nm : List PyData) (e s n : Int) (r : PyData) : PyData := .tuple [.tuple nm, .int e, .int s, .int n, r]
theorem good_contD {nm : List PyData} {e s n : Int} {r : PyData} (h : GoodT 0 20 nm) (hr : PD8 r) : pureD (contD nm e s n r) = true ∧ (contD nm e s n r).depth ≤ 9 := by
  have g : GoodT 8 5 [PyData.tuple nm, .int e, .int s, .int n, r] := by
    refine ⟨fun d hd => ?_, Nat.le_refl _⟩
    simp only [List.mem_cons, List.not_mem_nil, or_false] at hd
    rcases hd with rfl | rfl | rfl | rfl | rfl
    · exact ⟨h.pure (by decide), by have := h.depth; omega⟩
    · exact ⟨rfl, by simp [PyData.depth]⟩
    · exact ⟨rfl, by simp [PyData.depth]⟩
    · exact ⟨rfl, by simp [PyData.depth]⟩
    · exact hr
  exact ⟨g.pure (by decide), g.depth⟩
def validB (G : List PyData) (nm : List PyData) (c e s n u : Int) (r : PyData) (t : Int) : Bool := decide (s ≤ t) && decide (t ≤ n) && holdsB G c (contD nm e s n r) u
theorem ok_is_valid (T : Txt K mg) : Fn P w K mg base 2 "is_valid" ["notary", "signature", "record_set", "time"] (fun vs H Q _ => ∃ (x l a : Addr) (G : List PyData) (nm : List PyData) (c e s n u t : Int) (v : V) (r : PyData), vs = [.ref x, .ref a, v, .int t] ∧ NotR T H x l ∧ SgsAt K H l G ∧ GoodS G ∧ PT K H a (sigL nm c e s n u) ∧ GoodT 0 20 nm ∧ Dp K H v r ∧ PD8 r ∧
    ∀ H', Same H H' → Q (.bl (validB G nm c e s n u r t)) H') := by
  refine T.d_is_valid.ok sc_is_valid (by rintro vs H Q E ⟨_, _, _, _, _, _, _, _, _, _, _, _, _, rfl, _⟩; rfl) (fun f cdv A outer s H vs Q E hr h => ?_)
  obtain ⟨x, l, a, G, nm, c, e, st, n, u, t, v, r, rfl, hx, hl, hG, ⟨vs, hs, hd⟩, gn, hv, pr, q⟩ := h
  refine ⟨_, (pss_cons (ps_asg (pv 1) (pg_tup (by rfl) (pgs_cons (pg_name (i := 4) sc_is_valid.nd rfl (.inl rfl)) (pgs_cons (pg_name (i := 5) sc_is_valid.nd rfl (.inl rfl)) (pgs_cons (pg_name (i := 6) sc_is_valid.nd rfl (.inl rfl)) (pgs_cons (pg_name (i := 7) sc_is_valid.nd rfl (.inl rfl)) (pgs_cons (pg_name (i := 8) sc_is_valid.nd rfl (.inl rfl)) (pgs_cons (pg_name (i := 9) sc_is_valid.nd rfl (.inl rfl)) pgs_nil))))))))
  (pss_cons (ps_if (pt_not (pt_chain op_le op_le (pv 7) (pv 3) (pv 8)))
  (pss_one (ps_ret pe_bl))
  pss_nil)
  (pss_one (ps_ret (pe_mth (ok_Notary_holds T) T.cl_Notary hr (pv 0) (pa_cons (pv 5) (pa_cons (pe_tup (pa_cons (pv 4) (pa_cons (pv 6) (pa_cons (pv 7) (pa_cons (pv 8) (pa_cons (pv 2) pa_nil)))))) (pa_cons (pv 9) pa_nil)))))))), ?_⟩
  have hlen := dpAll_len hd
  obtain ⟨v0, rfl, hv0⟩ : ∃ v0, vs = [v0, .int c, .int e, .int st, .int n, .int u] ∧ Dp K H v0 (.tuple nm) := by
    cases hd with
    | cons h0 t => cases t with
      | cons h1 t => cases t with
        | cons h2 t => cases t with
          | cons h3 t => cases t with
            | cons h4 t => cases t with
              | cons h5 t =>
                cases t; cases h1; cases h2; cases h3; cases h4; cases h5
                exact ⟨_, rfl, h0⟩
  walk_at "en"
  refine r_gTupN hs rfl ?_
  walk_at "rd"
  have qf : (decide (st ≤ t) && decide (t ≤ n)) = false → Q (.bl false) H := fun h => by
    have := q _ (Same.refl _)
    unfold validB at this
    rw [h, Bool.false_and] at this
    exact this
  walk_at "sp" <;> intro h0
  · walk_at "rd"
    walk_at "sp" <;> intro h1
    · walk_at "rd"
      exact qf (by rw [decide_eq_true h0, decide_eq_false h1]; rfl)
    · walk_at "rd"
      obtain ⟨dx, m, hx0⟩ := id hx
      refine r_mth1 hx0 (nt_no _ _ (by decide +kernel) (by decide +kernel)) ?_
      walk_at "rd"
      intro tt H1 n1 e1 ht
      walk_at "rd"
      have gc := good_contD (e := e) (s := st) (n := n) gn pr
      refine ⟨x, l, G, c, u, _, contD nm e st n r, rfl, ⟨dx, m, e1 _ _ hx0⟩, hl.ex e1, hG, .tup (SqT.of ht) (.cons (dp_ex e1 _ _ hv0) (.cons (.int _) (.cons (.int _) (.cons (.int _) (.cons (dp_ex e1 _ _ hv) .nil))))), gc.1, by omega, fun H2 e2 => ?_⟩
      have := q _ (e1.trans e2)
      unfold validB at this
      rw [decide_eq_true h0, decide_eq_true h1] at this
      exact this
  · walk_at "rd"
    exact qf (by rw [decide_eq_false h0]; rfl)
theorem ok__law_asks (T : Txt K mg) : Fn P w K mg base 3 "_law_asks" ["notary", "signings", "made", "record_set", "time"] (fun vs H Q _ => ∃ (x l g a : Addr) (G : List PyData) (d : PyData) (t : Int) (v : V) (r : PyData), vs = [.ref x, .ref g, .ref a, v, .int t] ∧ NotR T H x l ∧ SgsAt K H l G ∧ SgsAt K H g G ∧ GoodS G ∧ Dp K H (.ref a) d ∧ SigD d ∧ Dp K H v r ∧ PD8 r ∧
    ∀ H', Same H H' → Q (.bl true) H') := by
  refine T.d__law_asks.ok sc__law_asks (by rintro vs H Q E ⟨_, _, _, _, _, _, _, _, _, rfl, _⟩; rfl) (fun f cdv A outer s H vs Q E hr h => ?_)
  obtain ⟨x, l, g, a, G, d, t, v, r, rfl, hx, hl, hg, hG, hd, ⟨nm, c, e, st, n, u, rfl, gn, hu⟩, hv, pr, q⟩ := h
  refine ⟨_, (pss_cons (ps_set (i := 5) sc__law_asks.nd rfl (.inl rfl) (pe_cut (pe_and (pe_cmpR op_le (pe_ix ix_tup (pv 2) pe_int (fun _ _ => rfl)) (pv 4) (nomark _)) (pe_and (pe_cmpR op_le (pv 4) (pe_ix ix_tup (pv 2) pe_int (fun _ _ => rfl)) (nomark _)) (pe_one (pe_cmpR op_lt (pe_ix ix_tup (pv 2) pe_int (fun _ _ => rfl)) (pe_callB cLenQ (by rfl) T.m_len PySem.boot_len (pa_cons (pv 1) pa_nil)) (nomark _)))))))
  (pss_cut (ps_if (pt_val (pv 5))
  (pss_one (ps_set (i := 5) sc__law_asks.nd rfl (.inl rfl) (pe_cmpR (op_eqD hr.units) (pe_ix ix_list (pv 1) (pe_ix ix_tup (pv 2) pe_int (fun _ _ => rfl)) (fun _ _ => rfl)) (pe_tup (pa_cons (pe_ix ix_tup (pv 2) pe_int (fun _ _ => rfl)) (pa_cons (pe_tup (pa_cons (pe_ix ix_tup (pv 2) pe_int (fun _ _ => rfl)) (pa_cons (pe_ix ix_tup (pv 2) pe_int (fun _ _ => rfl)) (pa_cons (pe_ix ix_tup (pv 2) pe_int (fun _ _ => rfl)) (pa_cons (pe_ix ix_tup (pv 2) pe_int (fun _ _ => rfl)) (pa_cons (pv 3) pa_nil)))))) pa_nil))) (nomark _))))
  pss_nil)
  (pss_cons (ps_set (i := 6) sc__law_asks.nd rfl (.inl rfl) (pe_fn (ok_is_valid T) hr (by rfl) (pa_cons (pv 0) (pa_cons (pv 2) (pa_cons (pv 3) (pa_cons (pv 4) pa_nil))))))
  (pss_one (ps_ret (pe_and (pe_callB call_isi (by rfl) T.m_isinstance (by decide +kernel) (pa_cons (pv 6) (pa_cons (pe_bltn (v := .ty "bool") rfl T.m_bool (by decide +kernel) rfl) pa_nil))) (pe_one (pe_cmpR op_eq (pv 6) (pv 5) (nomark _))))))))), ?_⟩
  obtain ⟨a', ea, hP⟩ := dp_pt hd
  cases ea
  obtain ⟨es0, hs0, ha0⟩ := id hg
  have hlen := dpAll_len ha0
  walk_at "en"
  refine r_cutE (fun v H' => H' = H ∧ v = .bl (decide (st ≤ t) && decide (t ≤ n) && decide (u < (G.length : Int)))) ?_ ?_
  · walk_at "rd"
    refine r_ixPT (i := 3) hP rfl fun v3 hv3 => ?_
    cases hv3
    walk_at "rd"
    walk_at "sp" <;> intro h0
    · walk_at "rd"
      refine r_ixPT (i := 4) hP rfl fun v4 hv4 => ?_
      cases hv4
      walk_at "rd"
      walk_at "sp" <;> intro h1
      · walk_at "rd"
        refine r_ixPT (i := 5) hP rfl fun v5 hv5 => ?_
        cases hv5
        walk_at "rd"
        rw [hlen]
        refine ⟨rfl, ?_⟩
        rw [decide_eq_true h0, decide_eq_true h1]
        rfl
      · walk_at "rd"
        refine ⟨rfl, ?_⟩
        rw [decide_eq_true h0, decide_eq_false h1]
        rfl
    · walk_at "rd"
      refine ⟨rfl, ?_⟩
      rw [decide_eq_false h0]
      rfl
  rintro v6 H1 ⟨rfl, rfl⟩
  walk_at "rd"
  refine r_cut (fun σ' H' => Same H1 H' ∧ σ' = [some (.ref x), some (.ref g), some (.ref a), some v, some (.int t), some (.bl (validB G nm c e st n u r t)), none]) ?_ ?_
  · walk_at "rd"
    cases hb : (decide (st ≤ t) && decide (t ≤ n) && decide (u < (G.length : Int))) with
    | true =>
      have hu1 : u < (G.length : Int) := by
        rw [Bool.and_eq_true] at hb
        exact of_decide_eq_true hb.2
      have hw : (decide (st ≤ t) && decide (t ≤ n)) = true := by
        rw [Bool.and_eq_true] at hb
        exact hb.1
      walk_at "rd"
      refine r_ixPT (i := 5) hP rfl fun v5 hv5 => ?_
      cases hv5
      walk_at "rd"
      obtain ⟨es, w', g1, g2, g3, g4, _⟩ := sgs_get hg hu hu1
      refine r_ixL g1 g2 ?_
      walk_at "rd"
      refine r_ixPT (i := 1) hP rfl fun v1 hv1 => ?_
      cases hv1
      walk_at "rd"
      refine r_ixPT (i := 0) hP rfl fun v0 hv0 => ?_
      walk_at "rd"
      refine r_ixPT (i := 2) hP rfl fun v2 hv2 => ?_
      cases hv2
      walk_at "rd"
      refine r_ixPT (i := 3) hP rfl fun v3 hv3 => ?_
      cases hv3
      walk_at "rd"
      refine r_ixPT (i := 4) hP rfl fun v4 hv4 => ?_
      cases hv4
      walk_at "rd"
      intro t2 H2 n2 e2 ht2
      walk_at "rd"
      intro t3 H3 n3 e3 ht3
      have e13 := e2.trans e3
      have gc := good_contD (e := e) (s := st) (n := n) gn pr
      refine sgs_eq hG hu hu1 (dp_ex e13 _ _ g3) g4 (SqT.of ht3) (d := contD nm e st n r) (.tup (SqT.of (e3 _ _ ht2)) (.cons (dp_ex e13 _ _ hv0) (.cons (.int _) (.cons (.int _) (.cons (.int _) (.cons (dp_ex e13 _ _ hv) .nil)))))) gc.1 (by omega) ?_
      walk_at "rd"
      refine ⟨e13, ?_⟩
      unfold validB
      rw [hw]
      rfl
    | false =>
      walk_at "rd"
      refine ⟨Same.refl _, ?_⟩
      have : validB G nm c e st n u r t = false := by
        unfold validB
        cases hw : (decide (st ≤ t) && decide (t ≤ n)) with
        | false => rfl
        | true =>
          rw [hw, Bool.true_and] at hb
          have hu1 := of_decide_eq_false hb
          unfold holdsB
          rw [if_neg (fun z => hu1 z.2)]
          rfl
      rw [this]
      rfl
  rintro σ' H2 ⟨e2, rfl⟩
  walk_at "rd"
  refine ⟨x, l, a, G, nm, c, e, st, n, u, t, v, r, rfl, ?_, hl.ex e2, hG, hP.ex e2, gn, dp_ex e2 _ _ hv, pr, fun H3 e3 => ?_⟩
  · obtain ⟨dx, m, hx0⟩ := hx
    exact ⟨dx, m, e2 _ _ hx0⟩
  walk_at "rd"
  rw [decide_eq_true rfl]
  exact q _ (e2.trans e3)

theorem pt_cut5 {nm : List PyData} {c e s n u : Int} : cutD (sigL nm c e s n u) none (some 5) ++ [.int u] = sigL nm c e s n u := rfl
theorem ok_sign_set (T : Txt K mg) : FnK P w K mg base 3 "sign_set" 2 ["zone", "edition", "start", "end"] ["signer", "record_set", "zone", "edition", "start", "end"] (fun vs H Q _ => ∃ (q dq l : Addr) (k e s n : Int) (es : List V) (z v : V) (nm : List PyData) (r : PyData), vs = [.ref q, v, z, .int e, .int s, .int n] ∧ H q = some (.ins T.a_Signer dq (sgF k l)) ∧ H l = some (.lst es) ∧ es.length ≤ 1000 ∧
    Dp K H z (.tuple nm) ∧ GoodT 0 20 nm ∧ Dp K H v r ∧ PD8 r ∧ ∀ H' t a, But l H H' → H' l = some (.lst (es ++ [.ref t])) → Dp K H' (.ref t) (.tuple [.int k, contD nm e s n r]) → PT K H' a (sigL nm k e s n (es.length : Nat)) → Q (.ref a) H') := by
  refine T.d_sign_set.ok sc_sign_set (by rintro vs H Q E ⟨_, _, _, _, _, _, _, _, _, _, _, _, rfl, _⟩; rfl) (fun f cdv A outer s0 H vs Q E hr h => ?_)
  obtain ⟨q, dq, l, k, e, s, n, es, z, v, nm, r, rfl, hq, hl, hn, hz, gn, hv, pr, kk⟩ := h
  refine ⟨_, (pss_cons (ps_set (i := 6) sc_sign_set.nd rfl (.inl rfl) (pe_mth (ok_Signer_sign T) T.cl_Signer (hr.mono (by decide)) (pv 0) (pa_cons (pe_tup (pa_cons (pv 2) (pa_cons (pv 3) (pa_cons (pv 4) (pa_cons (pv 5) (pa_cons (pv 1) pa_nil)))))) pa_nil)))
  (pss_one (ps_ret (pe_tup (pa_cons (pv 2) (pa_cons (pe_prp (ok_Signer_key T) T.cl_Signer (hr.mono (by decide)) (pv 0)) (pa_cons (pv 3) (pa_cons (pv 4) (pa_cons (pv 5) (pa_cons (pv 6) pa_nil)))))))))), ?_⟩
  walk_at "en"
  refine r_mth1 hq (sg_no _ _ (by decide +kernel) (by decide +kernel)) ?_
  walk_at "rd"
  intro t H1 n1 e1 ht
  walk_at "rd"
  refine ⟨q, dq, l, k, es, _, rfl, e1 _ _ hq, e1 _ _ hl, hn, fun H2 t2 b2 h2 ht2 n2 => ?_⟩
  have nt := noTup_l (e1 _ _ hl)
  have hql : q ≠ l := by rintro rfl; rw [hq] at hl; cases hl
  have gc := good_contD (e := e) (s := s) (n := n) gn pr
  have hc1 : Dp K H1 (.ref t) (contD nm e s n r) := .tup (SqT.of ht) (.cons (dp_ex e1 _ _ hz) (.cons (.int _) (.cons (.int _) (.cons (.int _) (.cons (dp_ex e1 _ _ hv) .nil)))))
  have hc2 := dp_but b2 nt _ _ gc.1 hc1
  have hz2 := dp_but b2 nt _ _ (gn.pure (by decide)) (dp_ex e1 _ _ hz)
  have hq2 := b2 _ _ hql (e1 _ _ hq)
  walk_at "rd"
  refine r_prp1 hq2 ?_
  refine ⟨q, dq, l, k, rfl, hq2, ?_⟩
  walk_at "rd"
  intro a H3 n3 e3 ha
  exact kk H3 t2 a ((But.pre e1 b2).same' e3) (e3 _ _ h2) (dp_ex e3 _ _ (.tup (SqT.of ht2) (.cons (.int k) (.cons hc2 .nil)))) ⟨_, SqT.of ha, .cons (dp_ex e3 _ _ hz2) (.cons (.int _) (.cons (.int _) (.cons (.int _) (.cons (.int _) (.cons (.int _) .nil)))))⟩
theorem ok__law_signed (T : Txt K mg) : Fn P w K mg base 4 "_law_signed" ["signer", "how", "made", "record_set"] (fun vs H Q _ => ∃ (q dq l a : Addr) (how k e s n : Int) (es : List V) (v : V) (nm : List PyData) (r : PyData), vs = [.ref q, .int how, .ref a, v] ∧ H q = some (.ins T.a_Signer dq (sgF k l)) ∧ H l = some (.lst es) ∧ es.length ≤ 1000 ∧
    PT K H a (sigL nm k e s n (es.length : Nat)) ∧ GoodT 0 20 nm ∧ Dp K H v r ∧ PD8 r ∧ ∀ H' t a', But l H H' → H' l = some (.lst (es ++ [.ref t])) → Dp K H' (.ref t) (.tuple [.int k, if how ≤ 3 then contD nm e s n r else r]) → PT K H' a' (sigL nm k e s n (es.length : Nat)) → Q (.ref a') H') := by
  refine T.d__law_signed.ok sc__law_signed (by rintro vs H Q E ⟨_, _, _, _, _, _, _, _, _, _, _, _, _, rfl, _⟩; rfl) (fun f cdv A outer s0 H vs Q E hr h => ?_)
  obtain ⟨q, dq, l, a, how, k, e, s, n, es, v, nm, r, rfl, hq, hl, hn, hP, gn, hv, pr, kk⟩ := h
  refine ⟨_, (pss_cons (ps_if (pt_cmpR op_lt (pv 1) pe_int (nomark _))
  (pss_one (ps_ret (pe_fnK (ok_sign_set T) hr (by rfl) (pa_cons (pv 0) (pa_cons (pv 3) pa_nil)) (pk_cons (pe_ix ix_tup (pv 2) pe_int (fun _ _ => rfl)) (pk_cons (pe_ix ix_tup (pv 2) pe_int (fun _ _ => rfl)) (pk_cons (pe_ix ix_tup (pv 2) pe_int (fun _ _ => rfl)) (pk_cons (pe_ix ix_tup (pv 2) pe_int (fun _ _ => rfl)) pk_nil)))))))
  pss_nil)
  (pss_cons (ps_if (pt_cmpR op_eq (pv 1) pe_int (nomark _))
  (pss_one (ps_ret (pe_op op_catA (pe_slice sl_tupA (pv 2) po_none (po_some pe_int)) (pe_tup (pa_cons (pe_mth (ok_Signer_sign T) T.cl_Signer (hr.mono (by decide)) (pv 0) (pa_cons (pe_tup (pa_cons (pe_ix ix_tup (pv 2) pe_int (fun _ _ => rfl)) (pa_cons (pe_ix ix_tup (pv 2) pe_int (fun _ _ => rfl)) (pa_cons (pe_ix ix_tup (pv 2) pe_int (fun _ _ => rfl)) (pa_cons (pe_ix ix_tup (pv 2) pe_int (fun _ _ => rfl)) (pa_cons (pv 3) pa_nil)))))) pa_nil)) pa_nil)))))
  pss_nil)
  (pss_one (ps_ret (pe_op op_catA (pe_slice sl_tupA (pv 2) po_none (po_some pe_int)) (pe_tup (pa_cons (pe_mth (ok_Signer_sign T) T.cl_Signer (hr.mono (by decide)) (pv 0) (pa_cons (pv 3) pa_nil)) pa_nil))))))), ?_⟩
  have nt := noTup_l hl
  have gc := good_contD (e := e) (s := s) (n := n) gn pr
  have gS := good_sigL (k := k) (e := e) (s := s) (n := n) (u := (es.length : Nat)) gn
  walk_at "en"
  walk_at "sp" <;> intro h0
  · walk_at "rd"
    refine r_ixPT (i := 0) hP rfl fun v0 hv0 => ?_
    walk_at "rd"
    refine r_ixPT (i := 2) hP rfl fun v2 hv2 => ?_
    cases hv2
    walk_at "rd"
    refine r_ixPT (i := 3) hP rfl fun v3 hv3 => ?_
    cases hv3
    walk_at "rd"
    refine r_ixPT (i := 4) hP rfl fun v4 hv4 => ?_
    cases hv4
    walk_at "rd"
    refine r_kw rfl rfl ?_
    refine ⟨q, dq, l, k, e, s, n, es, v0, v, nm, r, rfl, hq, hl, hn, hv0, gn, hv, pr, fun H' t a' b1 h1 h2 h3 => kk H' t a' b1 h1 ?_ h3⟩
    rw [if_pos (by omega)]
    exact h2
  walk_at "rd"
  walk_at "sp" <;> intro h1
  · walk_at "rd"
    refine r_slPT hP fun q1 H1 e1 hq1 => ?_
    walk_at "rd"
    refine r_mth1 (e1 _ _ hq) (sg_no _ _ (by decide +kernel) (by decide +kernel)) ?_
    walk_at "rd"
    have hP1 := hP.ex e1
    refine r_ixPT (i := 0) hP1 rfl fun v0 hv0 => ?_
    walk_at "rd"
    refine r_ixPT (i := 2) hP1 rfl fun v2 hv2 => ?_
    cases hv2
    walk_at "rd"
    refine r_ixPT (i := 3) hP1 rfl fun v3 hv3 => ?_
    cases hv3
    walk_at "rd"
    refine r_ixPT (i := 4) hP1 rfl fun v4 hv4 => ?_
    cases hv4
    walk_at "rd"
    intro t H2 n2 e2 ht
    walk_at "rd"
    have e02 := e1.trans e2
    have hl2 := e02 _ _ hl
    refine ⟨q, dq, l, k, es, _, rfl, e02 _ _ hq, hl2, hn, fun H3 t3 b3 h3 ht3 n3 => ?_⟩
    have hc2 : Dp K H2 (.ref t) (contD nm e s n r) := .tup (SqT.of ht) (.cons (dp_ex e2 _ _ hv0) (.cons (.int _) (.cons (.int _) (.cons (.int _) (.cons (dp_ex e02 _ _ hv) .nil)))))
    have hc3 := dp_but b3 (noTup_l hl2) _ _ gc.1 hc2
    have hq3 := (hq1.ex e2).but b3 (noTup_l hl2) (gS.cut _ _).all
    walk_at "rd"
    intro t4 H4 n4 e4 ht4
    refine r_catPT (hq3.ex e4) (pt_one ht4 (.int _)) (by have := (gS.cut none (some 5)).2; simp; omega) fun q5 H5 e5 hq5 => ?_
    rw [pt_cut5] at hq5
    have e45 := e4.trans e5
    refine kk H5 t3 q5 ((But.pre e02 b3).same' e45) (e45 _ _ h3) ?_ hq5
    rw [if_pos (by omega)]
    exact dp_ex e45 _ _ (.tup (SqT.of ht3) (.cons (.int k) (.cons hc3 .nil)))
  · walk_at "rd"
    refine r_slPT hP fun q1 H1 e1 hq1 => ?_
    walk_at "rd"
    refine r_mth1 (e1 _ _ hq) (sg_no _ _ (by decide +kernel) (by decide +kernel)) ?_
    walk_at "rd"
    have hl2 := e1 _ _ hl
    refine ⟨q, dq, l, k, es, _, rfl, e1 _ _ hq, hl2, hn, fun H3 t3 b3 h3 ht3 n3 => ?_⟩
    have hv3 := dp_but b3 (noTup_l hl2) _ _ pr.1 (dp_ex e1 _ _ hv)
    have hq3 := hq1.but b3 (noTup_l hl2) (gS.cut _ _).all
    walk_at "rd"
    intro t4 H4 n4 e4 ht4
    refine r_catPT (hq3.ex e4) (pt_one ht4 (.int _)) (by have := (gS.cut none (some 5)).2; simp; omega) fun q5 H5 e5 hq5 => ?_
    rw [pt_cut5] at hq5
    have e45 := e4.trans e5
    refine kk H5 t3 q5 ((But.pre e1 b3).same' e45) (e45 _ _ h3) ?_ hq5
    rw [if_neg (by omega)]
    exact dp_ex e45 _ _ (.tup (SqT.of ht3) (.cons (.int k) (.cons hv3 .nil)))
theorem ok__law_chosen (T : Txt K mg) : Fn P w K mg base 2 "_law_chosen" ["earlier", "fresh", "source"] (fun vs H Q _ => ∃ (p a : Addr) (v : V) (d : PyData) (cs : List V) (ES : List PyData), vs = [.ref p, v, .ref a] ∧ H p = some (.lst cs) ∧ p ≠ a ∧ DpAll K H cs ES ∧ pureAll ES = true ∧ Dp K H v d ∧ pureD d = true ∧ Src H a ∧
    ∀ H' v' d', But a H H' → Src H' a → Dp K H' v' d' → (d' = d ∨ d' ∈ ES) → Q v' H') := by
  refine T.d__law_chosen.ok sc__law_chosen (by rintro vs H Q E ⟨_, _, _, _, _, _, rfl, _⟩; rfl) (fun f cdv A outer s0 H vs Q E hr h => ?_)
  obtain ⟨p, a, v, d, cs, ES, rfl, hp, hpa, hD, pE, hv, pd, hS, k⟩ := h
  refine ⟨_, (pss_cons (ps_if (PW.pt (pw_and (pt_cmpR op_gt (pe_callB cLenQ (by rfl) T.m_len PySem.boot_len (pa_cons (pv 0) pa_nil)) pe_int (nomark _)) (pw_and1 (pt_cmpR op_eq (pe_fn (ok__law_draw T) hr (by rfl) (pa_cons (pv 2) (pa_cons pe_int pa_nil))) pe_int (nomark _)))))
  (pss_one (ps_ret (pe_ix ix_list (pv 0) (pe_op op_mod (pe_callTy cInt (by rfl) T.m_int (by decide +kernel) (pa_cons (pe_fn (ok__law_draw T) hr (by rfl) (pa_cons (pv 2) (pa_cons pe_int pa_nil))) pa_nil)) (pe_callB cLenQ (by rfl) T.m_len PySem.boot_len (pa_cons (pv 0) pa_nil))) (fun _ _ => rfl))))
  pss_nil)
  (pss_one (ps_ret (pv 1)))), ?_⟩
  obtain ⟨sl, hsl⟩ := hS.lst
  have nt := noTup_l hsl
  walk_at "en"
  walk_at "sp" <;> intro h0
  rotate_left
  · walk_at "rd"
    exact k _ _ _ (But.refl _ _) hS hv (.inl rfl)
  · walk_at "rd"
    refine r_draw hS (by decide) (by decide) fun H2 c b2 s2 _ _ => ?_
    walk_at "rd"
    walk_at "sp" <;> intro h1
    rotate_left
    · walk_at "rd"
      exact k _ _ _ b2 s2 (dp_but b2 nt _ _ pd hv) (.inl rfl)
    · walk_at "rd"
      refine r_draw s2 (by decide) (by decide) fun H3 c3 b3 s3 _ _ => ?_
      walk_at "rd"
      have b03 := b2.trans b3
      have hp3 := b03 _ _ hpa hp
      refine r_lenL (SqL.of hp3) ?_
      walk_at "rd"
      have q1 := Int.emod_nonneg c3 (show (cs.length : Int) ≠ 0 by omega)
      have q2 := Int.emod_lt_of_pos c3 (show (0 : Int) < (cs.length : Int) by omega)
      obtain ⟨u, _, ha, hg⟩ := atI_in (xs := cs) q1 q2
      refine r_ixL (SqL.of hp3) ha ?_
      obtain ⟨e, he, hu⟩ := dpAll_mem hD hg
      have hm := List.mem_of_getElem? he
      exact k _ _ _ b03 s3 (dp_but b03 nt _ _ ((pureAll_iff ES).mp pE e hm) hu) (.inr hm)
def SigE (d : PyData) : Prop := ∃ nm k e s n u, d = .tuple (sigL nm k e s n u) ∧ GoodT 0 12 nm ∧ 0 ≤ u
theorem SigE.d {d : PyData} (h : SigE d) : SigD d := by
  obtain ⟨nm, k, e, s, n, u, rfl, g, hu⟩ := h
  exact ⟨nm, k, e, s, n, u, rfl, g.mono (Nat.le_refl _) (by decide), hu⟩
theorem RecD.p8 {d : PyData} (h : RecD d) : PD8 d := ⟨h.pd.1, by have := h.pd.2; omega⟩
theorem ok__law_all (T : Txt K mg) : Fn P w K mg base 4 "_law_all" ["notary", "signings", "signatures", "sets"] (fun vs H Q _ => ∃ (x l g p q : Addr) (G SL RL : List PyData) (so ro : List V), vs = [.ref x, .ref g, .ref p, .ref q] ∧ NotR T H x l ∧ SgsAt K H l G ∧ SgsAt K H g G ∧ GoodS G ∧ SqL K H p so ∧ DpAll K H so SL ∧ SqL K H q ro ∧ DpAll K H ro RL ∧ SL.length = RL.length ∧ SL.length ≤ 1000 ∧
    (∀ e ∈ SL, SigE e) ∧ (∀ e ∈ RL, RecD e) ∧ ∀ H', Same H H' → Q (.bl true) H') := by
  refine T.d__law_all.ok sc__law_all (by rintro vs H Q E ⟨_, _, _, _, _, _, _, _, _, _, rfl, _⟩; rfl) (fun f cdv A outer s0 H vs Q E hr h => ?_)
  obtain ⟨x, l, g, p, q, G, SL, RL, so, ro, rfl, hx, hl, hg, hG, hp, hsd, hq, hrd, hlen, hl1000, hS, hR, k⟩ := h
  refine ⟨_, (pss_cons (ps_for PassesOwn.never rfl (pi_range1 rfl T.m_range (pa_cons (pe_callB cLenQ (by rfl) T.m_len PySem.boot_len (pa_cons (pv 2) pa_nil)) pa_nil)) (pg_name (i := 4) sc__law_all.nd rfl (.inl rfl))
  (pss_cons (ps_set (i := 5) sc__law_all.nd rfl (.inl rfl) (pe_ix ix_list (pv 2) (pv 4) (fun _ _ => rfl)))
  (pss_cons (ps_for PassesOwn.never rfl (pi_list (pe_fn (ok__law_times T) (hr.mono (by decide)) (by rfl) (pa_cons (pv 5) pa_nil))) (pg_name (i := 6) sc__law_all.nd rfl (.inl rfl))
  (pss_one (ps_for PassesOwn.never rfl (pi_list (pv 3)) (pg_name (i := 7) sc__law_all.nd rfl (.inl rfl))
  (pss_one (ps_if (pt_not (pt_val (pe_fn (ok__law_asks T) hr (by rfl) (pa_cons (pv 0) (pa_cons (pv 1) (pa_cons (pv 5) (pa_cons (pv 7) (pa_cons (pv 6) pa_nil))))))))
  (pss_one (ps_ret pe_bl))
  pss_nil)))))
  (pss_one (ps_for PassesOwn.never rfl (pi_list (pe_lst (pa_cons (pe_ix ix_tup (pv 5) pe_int (fun _ _ => rfl)) (pa_cons (pe_ix ix_tup (pv 5) pe_int (fun _ _ => rfl)) pa_nil)))) (pg_name (i := 6) sc__law_all.nd rfl (.inl rfl))
  (pss_cons (ps_for PassesOwn.never rfl (pi_list (pe_fn (ok__law_near_signatures T) (hr.mono (by decide)) (by rfl) (pa_cons (pv 5) pa_nil))) (pg_name (i := 8) sc__law_all.nd rfl (.inl rfl))
  (pss_one (ps_if (pt_not (pt_val (pe_fn (ok__law_asks T) hr (by rfl) (pa_cons (pv 0) (pa_cons (pv 1) (pa_cons (pv 8) (pa_cons (pe_ix ix_list (pv 3) (pv 4) (fun _ _ => rfl)) (pa_cons (pv 6) pa_nil))))))))
  (pss_one (ps_ret pe_bl))
  pss_nil)))
  (pss_one (ps_for PassesOwn.never rfl (pi_list (pe_fn (ok__law_near_sets T) (hr.mono (by decide)) (by rfl) (pa_cons (pe_ix ix_list (pv 3) (pv 4) (fun _ _ => rfl)) pa_nil))) (pg_name (i := 8) sc__law_all.nd rfl (.inl rfl))
  (pss_one (ps_if (pt_not (pt_val (pe_fn (ok__law_asks T) hr (by rfl) (pa_cons (pv 0) (pa_cons (pv 1) (pa_cons (pv 5) (pa_cons (pv 8) (pa_cons (pv 6) pa_nil))))))))
  (pss_one (ps_ret pe_bl))
  pss_nil))))))))))
  (pss_one (ps_ret (pe_cmpR op_eq (pe_callB (call_lenO (ok_Notary___len__ T) (hr.mono (by decide))) (by rfl) T.m_len PySem.boot_len (pa_cons (pv 0) pa_nil)) (pe_callB cLenQ (by rfl) T.m_len PySem.boot_len (pa_cons (pv 1) pa_nil)) (nomark _))))), ?_⟩
  have sol := dpAll_len hsd
  have rol := dpAll_len hrd
  obtain ⟨dx, mm, hx0⟩ := id hx
  have nx : ∀ {H' : Hp}, Same H H' → NotR T H' x l := fun e => ⟨dx, mm, e _ _ hx0⟩
  walk_at "en"
  rw [sol]
  walk_at "rd"
  refine loopR (fun i σ' H' => (∃ v4 v5 v6 v7 v8 : Option V, σ' = [some (.ref x), some (.ref g), some (.ref p), some (.ref q), v4, v5, v6, v7, v8]) ∧ Same H H') ⟨⟨_, _, _, _, _, rfl⟩, Same.refl _⟩ ?_ ?_
  · rintro i σ' H1 hi ⟨⟨v4, v5, v6, v7, v8, rfl⟩, e1⟩
    have hi' : i < SL.length := by omega
    have ei : (0 + (i : Int)) = ((i : Nat) : Int) := by omega
    rw [ei]
    walk_at "rd"
    have hz := List.getElem?_eq_getElem hi'
    obtain ⟨v, hv, hvd⟩ := dpAll_get hsd hz
    refine r_ixL (ex_l e1 hp) (atI_nat hv) ?_
    obtain ⟨nm, c, e, st, n, u, eS, gn, hu⟩ := hS _ (List.getElem_mem hi')
    have hSD : SigD SL[i] := (hS _ (List.getElem_mem hi')).d
    rw [eS] at hvd
    obtain ⟨a, rfl, hP⟩ := dp_pt hvd
    have hdS : Dp K H (.ref a) SL[i] := by rw [eS]; exact hvd
    walk_at "rd"
    refine ⟨a, nm, c, e, st, n, u, rfl, hP.ex e1, fun H2 p2 ns e2 n2 hp2 => ?_⟩
    walk_at "rd"
    refine loopL (xs := ns.map V.int) (fun j σ' H' => (∃ v6 v7 : Option V, σ' = [some (.ref x), some (.ref g), some (.ref p), some (.ref q), some (.int (i : Nat)), some (.ref a), v6, v7, v8]) ∧ Same H2 H') ⟨⟨_, _, rfl⟩, Same.refl _⟩ (by rintro j σ' H' _ ⟨_, e⟩; exact SqL.of (e _ _ hp2)) ?_ ?_
    · rintro j y σ' H3 hj ⟨⟨w6, w7, rfl⟩, e3⟩
      obtain ⟨t, rfl⟩ := ints_mem hj
      have e03 := (e1.trans e2).trans e3
      walk_at "rd"
      refine loopL (xs := ro) (fun j σ' H' => (∃ v7 : Option V, σ' = [some (.ref x), some (.ref g), some (.ref p), some (.ref q), some (.int (i : Nat)), some (.ref a), some (.int t), v7, v8]) ∧ Same H3 H') ⟨⟨_, rfl⟩, Same.refl _⟩ (by rintro j σ' H' _ ⟨_, e⟩; exact ex_l (e03.trans e) hq) ?_ ?_
      · rintro m y σ' H4 hm ⟨⟨u7, rfl⟩, e4⟩
        obtain ⟨d, hd, hy⟩ := dpAll_mem hrd hm
        have hrec := hR d (List.mem_of_getElem? hd)
        have e04 := e03.trans e4
        walk_at "rd"
        refine ⟨x, l, g, a, G, SL[i], t, y, d, rfl, nx e04, hl.ex e04, hg.ex e04, hG, dp_ex e04 _ _ hdS, hSD, dp_ex e04 _ _ hy, hrec.p8, fun H5 e5 => ?_⟩
        walk_at "rd"
        exact ⟨⟨_, rfl⟩, e4.trans e5⟩
      · rintro σ' H4 ⟨⟨u7, rfl⟩, e4⟩
        walk_at "rd"
        exact ⟨⟨_, _, rfl⟩, e3.trans e4⟩
    rintro σ' H3 ⟨⟨w6, w7, rfl⟩, e3⟩
    have e03 := (e1.trans e2).trans e3
    have hP3 := hP.ex e03
    walk_at "rd"
    refine r_ixPT (i := 3) hP3 rfl fun v3 hv3 => ?_
    cases hv3
    walk_at "rd"
    refine r_ixPT (i := 4) hP3 rfl fun v4 hv4 => ?_
    cases hv4
    walk_at "rd"
    intro p4 H4 n4 e4 hp4
    walk_at "rd"
    refine loopL (xs := [st, n].map V.int) (fun j σ' H' => (∃ v6 v8 : Option V, σ' = [some (.ref x), some (.ref g), some (.ref p), some (.ref q), some (.int (i : Nat)), some (.ref a), v6, w7, v8]) ∧ Same H4 H') ⟨⟨_, _, rfl⟩, Same.refl _⟩ (by rintro j σ' H' _ ⟨_, e⟩; exact SqL.of (e _ _ hp4)) ?_ ?_
    · rintro j y σ' H5 hj ⟨⟨u6, u8, rfl⟩, e5⟩
      obtain ⟨t, rfl⟩ := ints_mem hj
      have e05 := (e03.trans e4).trans e5
      have hi2 : i < RL.length := by omega
      have hz2 := List.getElem?_eq_getElem hi2
      obtain ⟨rv, hrv, hrvd⟩ := dpAll_get hrd hz2
      have hrec := hR _ (List.getElem_mem hi2)
      walk_at "rd"
      refine ⟨a, nm, c, e, st, n, u, rfl, hP.ex e05, gn.mono (Nat.le_refl _) (by decide), hu, fun H6 p6 e6 n6 ls6 => ?_⟩
      obtain ⟨o6, es6, hp6, hd6, hes6, _⟩ := ls6
      walk_at "rd"
      refine loopL (xs := o6) (fun j σ' H' => (∃ v8 : Option V, σ' = [some (.ref x), some (.ref g), some (.ref p), some (.ref q), some (.int (i : Nat)), some (.ref a), some (.int t), w7, v8]) ∧ Same H6 H') ⟨⟨_, rfl⟩, Same.refl _⟩ (by rintro j σ' H' _ ⟨_, e⟩; exact SqL.of (e _ _ hp6)) ?_ ?_
      · rintro m y σ' H7 hm ⟨⟨z8, rfl⟩, e7⟩
        obtain ⟨d, hd, hy⟩ := dpAll_mem hd6 hm
        have hsd' := hes6 d (List.mem_of_getElem? hd)
        have e07 := (e05.trans e6).trans e7
        have hy7 := dp_ex e7 _ _ hy
        obtain ⟨nm', c', e', s', n', u', eD, _⟩ := id hsd'
        rw [eD] at hy7
        obtain ⟨a', rfl, hP'⟩ := dp_pt hy7
        walk_at "rd"
        refine r_ixL (ex_l e07 hq) (atI_nat hrv) ?_
        walk_at "rd"
        refine ⟨x, l, g, a', G, d, t, rv, RL[i], rfl, nx e07, hl.ex e07, hg.ex e07, hG, by rw [eD]; exact hy7, hsd', dp_ex e07 _ _ hrvd, hrec.p8, fun H8 e8 => ?_⟩
        walk_at "rd"
        exact ⟨⟨_, rfl⟩, e7.trans e8⟩
      rintro σ' H7 ⟨⟨z8, rfl⟩, e7⟩
      have e07 := (e05.trans e6).trans e7
      walk_at "rd"
      refine r_ixL (ex_l e07 hq) (atI_nat hrv) ?_
      obtain ⟨nm2, κ2, t2, us2, eR, gn2, hκ2, gu2⟩ := id hrec
      have hrv7 := dp_ex e07 _ _ hrvd
      rw [eR] at hrv7
      obtain ⟨ra, rfl, hPr⟩ := dp_pt hrv7
      walk_at "rd"
      refine ⟨ra, nm2, κ2, t2, us2, rfl, hPr, gn2, hκ2, gu2, fun H8 p8 e8 n8 ls8 => ?_⟩
      obtain ⟨o8, es8, hp8, hd8, hes8, _⟩ := ls8
      walk_at "rd"
      refine loopL (xs := o8) (fun j σ' H' => (∃ v8 : Option V, σ' = [some (.ref x), some (.ref g), some (.ref p), some (.ref q), some (.int (i : Nat)), some (.ref a), some (.int t), w7, v8]) ∧ Same H8 H') ⟨⟨_, rfl⟩, Same.refl _⟩ (by rintro j σ' H' _ ⟨_, e⟩; exact SqL.of (e _ _ hp8)) ?_ ?_
      · rintro m y σ' H9 hm ⟨⟨y8, rfl⟩, e9⟩
        obtain ⟨d, hd, hy⟩ := dpAll_mem hd8 hm
        have hpd := hes8 d (List.mem_of_getElem? hd)
        have e09 := (e07.trans e8).trans e9
        walk_at "rd"
        refine ⟨x, l, g, a, G, SL[i], t, y, d, rfl, nx e09, hl.ex e09, hg.ex e09, hG, dp_ex e09 _ _ hdS, hSD, dp_ex e9 _ _ hy, hpd, fun H10 e10 => ?_⟩
        walk_at "rd"
        exact ⟨⟨_, rfl⟩, e9.trans e10⟩
      · rintro σ' H9 ⟨⟨y8, rfl⟩, e9⟩
        walk_at "rd"
        exact ⟨⟨_, _, rfl⟩, (((e5.trans e6).trans e7).trans e8).trans e9⟩
    · rintro σ' H5 ⟨⟨u6, u8, rfl⟩, e5⟩
      walk_at "rd"
      exact ⟨⟨_, _, _, _, _, rfl⟩, (e03.trans e4).trans e5⟩
  · rintro σ' H1 ⟨⟨v4, v5, v6, v7, v8, rfl⟩, e1⟩
    obtain ⟨ge, hge, hged⟩ := id hg
    walk_at "rd"
    refine r_lenO (e1 _ _ hx0) ?_
    refine ⟨x, l, G, rfl, nx e1, hl.ex e1, G.length, rfl, by have := hG.2; omega, ?_⟩
    walk_at "rd"
    rw [dpAll_len hged, decide_eq_true rfl]
    exact k _ e1

theorem ntF_ne (m k : Int) (l l' : Addr) : ntF m l ≠ sgF k l' := by
  intro h
  have h1 := congrArg (fun r => (r.map Prod.fst).head?) h
  have h2 : ("_many_signers" : Str) = "_key" := Option.some.inj h1
  exact absurd h2 (by decide +kernel)
theorem Src.nt {H : Hp} {a : Addr} (h : Src H a) : NoTup H a := by
  obtain ⟨xs, h⟩ := h.lst
  exact noTup_l h
def up {α : Type} (f : Nat → α) (b : Nat) (v : α) : Nat → α := fun c => if c = b then v else f c
theorem up_same {α : Type} {f : Nat → α} {b : Nat} {v : α} : up f b v b = v := if_pos rfl
theorem up_other {α : Type} {f : Nat → α} {b c : Nat} {v : α} (h : c ≠ b) : up f b v c = f c := if_neg h
/-- the law's four lists at A 0 .. A 3 (one of them, x, left open), the notary, its signers -/
structure S9 (x : Nat) (T : Txt K mg) (H0 H : Hp) (A : Nat → Addr) (D : Nat → List PyData) (p sn : Addr) (qs : List Addr) : Prop where
  inj : ∀ i j, i < 4 → j < 4 → A i = A j → i = j
  sm : Same H0 H
  nw : ∀ i, i < 4 → H0 (A i) = none
  ls : ∀ i, i < 4 → i ≠ x → ∃ es, H (A i) = some (.lst es) ∧ DpAll K H es (D i)
  pu : ∀ i, i < 4 → pureAll (D i) = true
  np : NotR T H p (A 0)
  sn_ : H sn = some (.lst (qs.map V.ref))
  sne : ∀ i, i < 4 → sn ≠ A i
  sq : ∀ i q, qs[i]? = some q → ∃ dq, H q = some (.ins T.a_Signer dq (sgF (i : Nat) (A 0)))
section
variable {x : Nat} {T : Txt K mg} {H0 H H' : Hp} {A : Nat → Addr} {D : Nat → List PyData} {p sn : Addr} {qs : List Addr}
theorem S9.ex (h : S9 x T H0 H A D p sn qs) (e : Same H H') : S9 x T H0 H' A D p sn qs where
  inj := h.inj
  sm := h.sm.trans e
  nw := h.nw
  ls i hi n := by obtain ⟨cs, h1, h2⟩ := h.ls i hi n; exact ⟨cs, e _ _ h1, dpAll_ex e _ _ h2⟩
  pu := h.pu
  np := by obtain ⟨dx, m, h1⟩ := h.np; exact ⟨dx, m, e _ _ h1⟩
  sn_ := e _ _ h.sn_
  sne := h.sne
  sq i q hq := by obtain ⟨dq, hd⟩ := h.sq i q hq; exact ⟨dq, e _ _ hd⟩
theorem S9.but {y : Nat} {xs : List V} (h : S9 99 T H0 H A D p sn qs) (hy : y < 4) (e : But (A y) H H') (hl : H (A y) = some (.lst xs)) : S9 y T H0 H' A D p sn qs where
  inj := h.inj
  sm := fun c o hc => e c o (fun z => by subst z; rw [h.nw y hy] at hc; cases hc) (h.sm c o hc)
  nw := h.nw
  ls i hi n := by obtain ⟨cs, h1, h2⟩ := h.ls i hi (by omega); exact ⟨cs, e _ _ (fun z => n (h.inj _ _ hi hy z)) h1, dpAll_but e (noTup_l hl) _ _ (h.pu i hi) h2⟩
  pu := h.pu
  np := by obtain ⟨dx, m, h1⟩ := h.np; exact ⟨dx, m, e _ _ (fun z => by subst z; rw [hl] at h1; cases h1) h1⟩
  sn_ := e _ _ (h.sne y hy) h.sn_
  sne := h.sne
  sq i q hq := by obtain ⟨dq, hd⟩ := h.sq i q hq; exact ⟨dq, e _ _ (fun z => by subst z; rw [hl] at hd; cases hd) hd⟩
theorem S9.set {y : Nat} {L : List PyData} (h : S9 y T H0 H A D p sn qs) (hl : ∃ es, H (A y) = some (.lst es) ∧ DpAll K H es L) (pL : pureAll L = true) : S9 99 T H0 H A (up D y L) p sn qs where
  inj := h.inj
  sm := h.sm
  nw := h.nw
  ls i hi _ := by
    by_cases e : i = y
    · subst e; rw [up_same]; exact hl
    · rw [up_other e]; exact h.ls i hi e
  pu i hi := by
    by_cases e : i = y
    · subst e; rw [up_same]; exact pL
    · rw [up_other e]; exact h.pu i hi
  np := h.np
  sn_ := h.sn_
  sne := h.sne
  sq := h.sq
theorem S9.any (h : S9 99 T H0 H A D p sn qs) {i : Nat} (hi : i < 4) : ∃ o, H (A i) = some o := by
  obtain ⟨es, h1, _⟩ := h.ls i hi (by omega)
  exact ⟨_, h1⟩
theorem S9.sg {i : Nat} (h : S9 99 T H0 H A D p sn qs) (hi : i < 4) : SgsAt K H (A i) (D i) := by
  obtain ⟨es, h1, h2⟩ := h.ls i hi (by omega)
  exact ⟨es, SqL.of h1, h2⟩
end
theorem pureAll_app {xs ys : List PyData} (h : pureAll xs = true) (g : pureAll ys = true) : pureAll (xs ++ ys) = true := (pureAll_iff _).mpr fun e he => (List.mem_append.mp he).elim ((pureAll_iff xs).mp h e) ((pureAll_iff ys).mp g e)
mutual
theorem eqv_pure : ∀ d : PyData, pureD d = true → PyData.eqv d d = true
  | .int _, _ => by simp [PyData.eqv]
  | .str _, _ => by simp [PyData.eqv]
  | .tuple ds, h => by
    simp only [PyData.eqv]
    exact eqvAll_pure ds (by simp [pureD] at h; exact h.2)
  | .none, h => by simp [pureD] at h
  | .bool _, h => by simp [pureD] at h
  | .list _, h => by simp [pureD] at h
  | .dict _, h => by simp [pureD] at h
theorem eqvAll_pure : ∀ ds : List PyData, pureAll ds = true → PyData.eqvAll ds ds = true
  | [], _ => by simp [PyData.eqvAll]
  | d :: ds, h => by
    have h' : pureD d = true ∧ pureAll ds = true := by simpa [pureAll] using h
    simp only [PyData.eqvAll, eqv_pure d h'.1, eqvAll_pure ds h'.2, Bool.and_self]
end
def spLaw (K : PySem.W.Frag) : Sp := fun vs H Q _ => ∃ (a : Addr) (ns : List Int), vs = [.ref a] ∧ SqL K H a (ns.map V.int) ∧ ns.length ≤ 63 ∧ ∀ H', Q (.bl true) H'
def NmE (d : PyData) : Prop := ∃ nm, d = .tuple nm ∧ GoodT 0 12 nm
theorem ok_law (T : Txt K mg) : Fn P w K mg base 6 "law" ["script"] (spLaw K) := by
  refine T.d_law.ok sc_law (by rintro vs H Q E ⟨_, _, rfl, _⟩; rfl) (fun f cdv A0 outer s H vs Q E hr h => ?_)
  obtain ⟨a, ns, rfl, hL, hlen, k⟩ := h
  refine ⟨_, (pss_cons (ps_set (i := 1) sc_law.nd rfl (.inl rfl) (pe_fn (ok__law_cell T) (hr.mono (by decide)) (by rfl) (pa_cons (pv 0) (pa_cons pe_int pa_nil))))
  (pss_cons (ps_set (i := 2) sc_law.nd rfl (.inl rfl) (pe_mk0 (ok_Notary___init__ T) (hr.mono (by decide)) (by rfl) T.g_Notary))
  (pss_cons (ps_set (i := 3) sc_law.nd rfl (.inl rfl) (pe_lst pa_nil))
  (pss_cons (ps_for PassesOwn.never rfl (pi_range1 rfl T.m_range (pa_cons (pe_op op_add pe_int (pe_op op_mod (pe_callTy cInt (by rfl) T.m_int (by decide +kernel) (pa_cons (pv 1) pa_nil)) pe_int)) pa_nil)) (pg_name (i := 4) sc_law.nd rfl (.inl rfl))
  (pss_one (ps_expr (pe_bm PySem.F.plainAttrs_list PySem.F.slot_list_append PySem.F.type_list_append mt_append (pv 3) (pa_cons (pe_mth0 (ok_Notary_new_signer T) T.cl_Notary (hr.mono (by decide)) (pv 2)) pa_nil)))))
  (pss_cons (ps_set (i := 5) sc_law.nd rfl (.inl rfl) (pe_lst pa_nil))
  (pss_cons (ps_set (i := 6) sc_law.nd rfl (.inl rfl) (pe_lst pa_nil))
  (pss_cons (ps_set (i := 7) sc_law.nd rfl (.inl rfl) (pe_lst pa_nil))
  (pss_cons (ps_for PassesOwn.never rfl (pi_range1 rfl T.m_range (pa_cons (pe_op op_add pe_int (pe_op op_mod (pe_callTy cInt (by rfl) T.m_int (by decide +kernel) (pa_cons (pe_op op_fdiv (pv 1) pe_int) pa_nil)) pe_int)) pa_nil)) (pg_name (i := 4) sc_law.nd rfl (.inl rfl))
  (pss_cons (ps_set (i := 8) sc_law.nd rfl (.inl rfl) (pe_fn (ok__law_source T) (hr.mono (by decide)) (by rfl) (pa_cons (pe_fn (ok__law_cell T) (hr.mono (by decide)) (by rfl) (pa_cons (pv 0) (pa_cons (pe_op op_add pe_int (pv 4)) pa_nil))) pa_nil)))
  (pss_cons (ps_set (i := 9) sc_law.nd rfl (.inl rfl) (pe_fn (ok__law_chosen T) (hr.mono (by decide)) (by rfl) (pa_cons (pv 7) (pa_cons (pe_fn (ok__law_record_set T) hr (by rfl) (pa_cons (pv 8) pa_nil)) (pa_cons (pv 8) pa_nil)))))
  (pss_cons (ps_set (i := 10) sc_law.nd rfl (.inl rfl) (pe_fn (ok__law_chosen T) (hr.mono (by decide)) (by rfl) (pa_cons (pe_lc (own := [("made", 11)]) (g := gName 11) (tt := tYes) rfl sc_law.nd (pi_list (pv 6)) (blkOk_by (N := ["script", "size", "notary", "signers", "k", "signings", "signatures", "sets", "source", "record_set", "apex", "made", "window", "key", "how", "content"]) (sc := defScope s_law) (by decide +kernel)) (fun _ _ _ _ _ => pg_name (i := 11) sc_law.nd rfl (Or.inl rfl)) (fun _ _ _ _ _ => pts_nil) (fun _ _ _ _ _ => (pe_kix (K := K) (r := rIxT) rfl ix_tup (pv 11) pe_int (fun _ _ => rfl)))) (pa_cons (pe_fn (ok__law_name T) (hr.mono (by decide)) (by rfl) (pa_cons (pv 8) pa_nil)) (pa_cons (pv 8) pa_nil)))))
  (pss_cons (ps_set (i := 12) sc_law.nd rfl (.inl rfl) (pe_fn (ok__law_window T) (hr.mono (by decide)) (by rfl) (pa_cons (pv 8) pa_nil)))
  (pss_cons (ps_set (i := 13) sc_law.nd rfl (.inl rfl) (pe_op op_mod (pe_callTy cInt (by rfl) T.m_int (by decide +kernel) (pa_cons (pe_fn (ok__law_draw T) (hr.mono (by decide)) (by rfl) (pa_cons (pv 8) (pa_cons pe_int pa_nil))) pa_nil)) (pe_callB cLenQ (by rfl) T.m_len PySem.boot_len (pa_cons (pv 3) pa_nil))))
  (pss_cons (ps_set (i := 11) sc_law.nd rfl (.inl rfl) (pe_tup (pa_cons (pv 10) (pa_cons (pv 13) (pa_cons (pe_fn (ok__law_word T) (hr.mono (by decide)) (by rfl) (pa_cons (pv 8) pa_nil)) (pa_cons (pe_ix ix_list (pv 12) pe_int (fun _ _ => rfl)) (pa_cons (pe_ix ix_list (pv 12) pe_int (fun _ _ => rfl)) (pa_cons (pe_callB cLenQ (by rfl) T.m_len PySem.boot_len (pa_cons (pv 5) pa_nil)) pa_nil))))))))
  (pss_cons (ps_set (i := 14) sc_law.nd rfl (.inl rfl) (pe_fn (ok__law_draw T) (hr.mono (by decide)) (by rfl) (pa_cons (pv 8) (pa_cons pe_int pa_nil))))
  (pss_cons (ps_if (pt_not (pt_val (pe_fn (ok__law_same T 3) (hr.mono (by decide)) (by rfl) (pa_cons (pe_fn (ok__law_signed T) (hr.mono (by decide)) (by rfl) (pa_cons (pe_ix ix_list (pv 3) (pv 13) (fun _ _ => rfl)) (pa_cons (pv 14) (pa_cons (pv 11) (pa_cons (pv 9) pa_nil))))) (pa_cons (pv 11) pa_nil)))))
  (pss_one (ps_ret pe_bl))
  pss_nil)
  (pss_cons (ps_set (i := 15) sc_law.nd rfl (.inl rfl) (pe_tup (pa_cons (pe_ix ix_tup (pv 11) pe_int (fun _ _ => rfl)) (pa_cons (pe_ix ix_tup (pv 11) pe_int (fun _ _ => rfl)) (pa_cons (pe_ix ix_tup (pv 11) pe_int (fun _ _ => rfl)) (pa_cons (pe_ix ix_tup (pv 11) pe_int (fun _ _ => rfl)) (pa_cons (pv 9) pa_nil)))))))
  (pss_cut (ps_if (pt_cmpR op_eq (pv 14) pe_int (nomark _))
  (pss_one (ps_set (i := 15) sc_law.nd rfl (.inl rfl) (pv 9)))
  pss_nil)
  (pss_cons (ps_expr (pe_bm PySem.F.plainAttrs_list PySem.F.slot_list_append PySem.F.type_list_append mt_append (pv 5) (pa_cons (pe_tup (pa_cons (pv 13) (pa_cons (pv 15) pa_nil))) pa_nil)))
  (pss_cons (ps_expr (pe_bm PySem.F.plainAttrs_list PySem.F.slot_list_append PySem.F.type_list_append mt_append (pv 6) (pa_cons (pv 11) pa_nil)))
  (pss_cons (ps_expr (pe_bm PySem.F.plainAttrs_list PySem.F.slot_list_append PySem.F.type_list_append mt_append (pv 7) (pa_cons (pv 9) pa_nil)))
  (pss_one (ps_if (pt_not (pt_val (pe_fn (ok__law_asks T) (hr.mono (by decide)) (by rfl) (pa_cons (pv 2) (pa_cons (pv 5) (pa_cons (pv 11) (pa_cons (pv 9) (pa_cons (pe_ix ix_list (pv 12) pe_int (fun _ _ => rfl)) pa_nil))))))))
  (pss_one (ps_ret pe_bl))
  pss_nil))))))))))))))))
  (pss_one (ps_ret (pe_fn (ok__law_all T) (hr.mono (by decide)) (by rfl) (pa_cons (pv 2) (pa_cons (pv 5) (pa_cons (pv 6) (pa_cons (pv 7) pa_nil))))))))))))))), ?_⟩
  walk_at "en"
  refine r_cell hL hlen (by omega) (by omega) fun size => ?_
  walk_at "rd"
  refine r_made fun p d0 H1 n1 e1 h1 => ?_
  refine ⟨p, d0, rfl, h1, fun H2 l b2 nl hp2 hl2 => ⟨rfl, ?_⟩⟩
  have e02 : Same H H2 := same_but e1 b2 n1
  have npl : p ≠ l := by rintro rfl; rw [nl] at h1; cases h1
  walk_at "rd"
  intro sn H3 n3 e3 hsn
  have snp : sn ≠ p := by rintro rfl; rw [n3] at hp2; cases hp2
  have snl : sn ≠ l := by rintro rfl; rw [n3] at hl2; cases hl2
  have e03 := e02.trans e3
  walk_at "rd"
  refine loopR (fun i σ' H' => ∃ (v4 : Option V) (dx : Addr) (qs : List Addr), σ' = [some (.ref a), some (.int size), some (.ref p), some (.ref sn), v4, none, none, none, none, none, none, none, none, none, none, none] ∧ Same H H' ∧ H' p = some (.ins T.a_Notary dx (ntF (i : Nat) l)) ∧ H' l = some (.lst []) ∧ H' sn = some (.lst (qs.map V.ref)) ∧ qs.length = i ∧
    ∀ j q, qs[j]? = some q → ∃ dq, H' q = some (.ins T.a_Signer dq (sgF (j : Nat) l))) ⟨_, d0, [], rfl, e03, e3 _ _ hp2, e3 _ _ hl2, hsn, rfl, (fun j q hq => by cases hq)⟩ ?_ ?_
  · rintro i σ' H4 hi ⟨v4, dx, qs, rfl, e4, hp, hl, hs, ql, hq⟩
    walk_at "rd"
    refine r_append hs ?_
    walk_at "rd"
    refine r_mth1 hp (nt_no _ _ (by decide +kernel) (by decide +kernel)) ?_
    walk_at "rd"
    refine ⟨p, dx, l, _, rfl, hp, fun H5 y dy b5 ny hy hp5 => ?_⟩
    have hs5 := b5 _ _ snp hs
    walk_at "rd"
    refine r_append1 hs5 (by simp; omega) fun H6 b6 h6 => ?_
    have qsn : ∀ q, (∃ C dq fs, H5 q = some (.ins C dq fs)) → q ≠ sn := fun q ⟨C, dq, fs, z⟩ e => by rw [e, hs5] at z; cases z
    have np : H p = none := n1
    have nsn : H sn = none := fresh_back e02 n3
    refine ⟨_, dx, qs ++ [y], rfl, same_but (same_but e4 b5 np) b6 nsn, ?_, b6 _ _ snl.symm (b5 _ _ npl.symm hl), by rw [h6, List.map_append]; rfl, by simp [ql], fun j q hj => ?_⟩
    · have e : ((i + 1 : Nat) : Int) = ((i : Nat) : Int) + 1 := by omega
      rw [e]
      exact b6 _ _ snp.symm hp5
    · by_cases ej : j < qs.length
      · rw [List.getElem?_append_left ej] at hj
        obtain ⟨dq, hd⟩ := hq j q hj
        have qp : q ≠ p := by
          rintro rfl
          rw [hp] at hd
          exact ntF_ne _ _ _ _ (by injection (Option.some.inj hd))
        have hd5 := b5 _ _ qp hd
        exact ⟨dq, b6 _ _ (qsn q ⟨_, _, _, hd5⟩) hd5⟩
      · have hj' := (List.getElem?_eq_some_iff.mp hj).1
        have ej : j = qs.length := by rw [List.length_append, List.length_singleton] at hj'; omega
        subst ej
        have : q = y := by simpa using hj.symm
        subst this
        exact ⟨dy, by rw [ql]; exact b6 _ _ (qsn q ⟨_, _, _, hy⟩) hy⟩
  rintro σ' H4 ⟨v4, dx, qs, rfl, e4, hp, hl, hs, ql, hq⟩
  have hq1 : 1 ≤ qs.length ∧ qs.length ≤ 4 := by omega
  walk_at "rd"
  intro g H5 n5 e5 hg
  walk_at "rd"
  intro sg H6 n6 e6 hsg
  walk_at "rd"
  intro ss H7 n7 e7 hss
  have e67 := e6.trans e7
  have e57 := e5.trans e67
  have gl : g ≠ l := by rintro rfl; rw [n5] at hl; cases hl
  have gsn : g ≠ sn := by rintro rfl; rw [n5] at hs; cases hs
  have sgl : sg ≠ l := by rintro rfl; have := e5 _ _ hl; rw [n6] at this; cases this
  have sgsn : sg ≠ sn := by rintro rfl; have := e5 _ _ hs; rw [n6] at this; cases this
  have sgg : sg ≠ g := by rintro rfl; rw [n6] at hg; cases hg
  have ssl : ss ≠ l := by rintro rfl; have := (e5.trans e6) _ _ hl; rw [n7] at this; cases this
  have sssn : ss ≠ sn := by rintro rfl; have := (e5.trans e6) _ _ hs; rw [n7] at this; cases this
  have ssg : ss ≠ g := by rintro rfl; have := e6 _ _ hg; rw [n7] at this; cases this
  have sssg : ss ≠ sg := by rintro rfl; rw [n7] at hsg; cases hsg
  obtain ⟨A, hA⟩ : ∃ A : Nat → Addr, A = fun i => [l, g, sg, ss].getD i l := ⟨_, rfl⟩
  have f4 : ∀ {R : Nat → Prop}, R 0 → R 1 → R 2 → R 3 → ∀ i, i < 4 → R i := fun h0 h1 h2 h3 i hi => by
    rcases (show i = 0 ∨ i = 1 ∨ i = 2 ∨ i = 3 by omega) with rfl | rfl | rfl | rfl
    · exact h0
    · exact h1
    · exact h2
    · exact h3
  have st0 : S9 99 T H H7 A (fun _ => []) p sn qs := by
    subst hA
    exact {
      inj := fun i j hi hj e => by
        rcases (show i = 0 ∨ i = 1 ∨ i = 2 ∨ i = 3 by omega) with rfl | rfl | rfl | rfl <;> rcases (show j = 0 ∨ j = 1 ∨ j = 2 ∨ j = 3 by omega) with rfl | rfl | rfl | rfl
        · rfl
        · exact absurd e gl.symm
        · exact absurd e sgl.symm
        · exact absurd e ssl.symm
        · exact absurd e gl
        · rfl
        · exact absurd e sgg.symm
        · exact absurd e ssg.symm
        · exact absurd e sgl
        · exact absurd e sgg
        · rfl
        · exact absurd e sssg.symm
        · exact absurd e ssl
        · exact absurd e ssg
        · exact absurd e sssg
        · rfl
      sm := e4.trans e57
      nw := f4 (fresh_back e1 nl) (fresh_back e4 n5) (fresh_back (e4.trans e5) n6) (fresh_back ((e4.trans e5).trans e6) n7)
      ls := fun i hi _ => f4 (R := fun i => ∃ es, H7 ([l, g, sg, ss].getD i l) = some (.lst es) ∧ DpAll K H7 es []) ⟨[], e57 _ _ hl, .nil⟩ ⟨[], e67 _ _ hg, .nil⟩ ⟨[], e7 _ _ hsg, .nil⟩ ⟨[], hss, .nil⟩ i hi
      pu := fun i _ => rfl
      np := ⟨dx, _, e57 _ _ hp⟩
      sn_ := e57 _ _ hs
      sne := f4 snl gsn.symm sgsn.symm sssn.symm
      sq := fun j q hj => by obtain ⟨dq, hd⟩ := hq j q hj; exact ⟨dq, e57 _ _ hd⟩ }
  have eL : l = A 0 := by subst hA; rfl
  have eG : g = A 1 := by subst hA; rfl
  have eS : sg = A 2 := by subst hA; rfl
  have eR : ss = A 3 := by subst hA; rfl
  subst eL eG eS eR
  clear f4 hA hp hl hs hg hsg hss h1 hl2 hp2 hsn npl snp snl gl gsn sgl sgsn sgg ssl sssn ssg sssg
  walk_at "rd"
  refine loopR (fun i σ' H' => ∃ (v4 v8 v9 v10 v11 v12 v13 v14 v15 : Option V) (D : Nat → List PyData), σ' = [some (.ref a), some (.int size), some (.ref p), some (.ref sn), v4, some (.ref (A 1)), some (.ref (A 2)), some (.ref (A 3)), v8, v9, v10, v11, v12, v13, v14, v15] ∧ S9 99 T H H' A D p sn qs ∧ D 1 = D 0 ∧ (D 0).length = i ∧ (D 2).length = i ∧ (D 3).length = i ∧ (∀ e ∈ D 0, pureD e = true ∧ e.depth ≤ 12) ∧ (∀ e ∈ D 2, SigE e) ∧ ∀ e ∈ D 3, RecD e)
    ⟨_, _, _, _, _, _, _, _, _, _, rfl, st0, rfl, rfl, rfl, rfl, (fun _ h => by cases h), (fun _ h => by cases h), (fun _ h => by cases h)⟩ ?_ ?_
  · rintro i σ' H' hi ⟨v4, v8, v9, v10, v11, v12, v13, v14, v15, D, rfl, st, eD, l0, l2, l3, g0, g2, g3⟩
    have hi5 : i < 5 := by omega
    walk_at "rd"
    refine r_cell (ex_l st.sm hL) hlen (by omega) (by omega) fun c1 => ?_
    walk_at "rd"
    refine r_source fun H3 src e3 n3 s3 => ?_
    have hna : ∀ j, j < 4 → A j ≠ src := fun j hj z => by
      obtain ⟨o, ho⟩ := st.any hj
      rw [z, n3] at ho; cases ho
    walk_at "rd"
    refine ⟨src, rfl, s3, fun H4 rv rd b4 s4 hrv hrd => ?_⟩
    have st4 := st.ex (same_src e3 n3 b4)
    obtain ⟨ro, hro, hrod⟩ := st4.ls 3 (by decide) (by decide)
    walk_at "rd"
    refine ⟨A 3, src, rv, rd, ro, D 3, rfl, hro, hna 3 (by decide), hrod, st4.pu 3 (by decide), hrv, hrd.pd.1, s4, fun H5 r d b5 s5 hr5 hd5 => ?_⟩
    have hrec : RecD d := hd5.elim (fun e => e ▸ hrd) (g3 d)
    have st5 := st.ex (same_src e3 n3 (b4.trans b5))
    obtain ⟨so, hso, hsod⟩ := st5.ls 2 (by decide) (by decide)
    have sol := dpAll_len hsod
    walk_at "rd"
    refine lcL (xs := so) (fun P j H' => Same H5 H' ∧ H5 P = none ∧ ∃ outs es, H' P = some (.lst outs) ∧ DpAll K H' outs es ∧ es.length ≤ j ∧ ∀ e ∈ es, NmE e) (fun P H2 hP e2 h2 => ⟨e2, hP, [], [], h2, .nil, Nat.le_refl _, (fun _ h => by cases h)⟩) (fun P j H' _ h => SqL.of (h.1 _ _ hso)) ?_ ?_
    · rintro P j x H6 hj ⟨e6, nP, outs, es, hP, hd6, hel, hne⟩
      obtain ⟨dx6, hdx, hx⟩ := dpAll_mem hsod hj
      obtain ⟨nm, kk, ee, s, n, u, eD6, gn, hu⟩ := g2 _ (List.mem_of_getElem? hdx)
      subst eD6
      obtain ⟨xa, rfl, hxa⟩ := dp_pt hx
      have hj' := (List.getElem?_eq_some_iff.mp hj).1
      walk_at "rd"
      refine ⟨rfl, ?_⟩
      walk_at "rd"
      refine r_ixPT (i := 0) (hxa.ex e6) rfl fun v0 hv0 => ?_
      have eol := dpAll_len hd6
      refine r_yield hP (by omega) fun H7 b7 h7 => ?_
      have pe : pureAll es = true := (pureAll_iff es).mpr fun z hz => by obtain ⟨m, rfl, gm⟩ := hne z hz; exact gm.pure (by decide)
      refine ⟨same_but e6 b7 nP, nP, outs ++ [v0], es ++ [.tuple nm], h7, dpAll_app (dpAll_but b7 (noTup_l hP) _ _ pe hd6) (.cons (dp_but b7 (noTup_l hP) _ _ (gn.pure (by decide)) hv0) .nil), by simp; omega, fun z hz => ?_⟩
      rcases List.mem_append.mp hz with hz | hz
      · exact hne z hz
      · rw [List.mem_singleton.mp hz]; exact ⟨nm, rfl, gn⟩
    rintro P H6 ⟨e6, nP, outs, es, hP, hd6, hel, hne⟩
    have hsrcP : P ≠ src := by
      rintro rfl
      obtain ⟨xs, hxs⟩ := s5.lst
      rw [nP] at hxs; cases hxs
    have pe : pureAll es = true := (pureAll_iff es).mpr fun z hz => by obtain ⟨m, rfl, gm⟩ := hne z hz; exact gm.pure (by decide)
    walk_at "rd"
    refine r_drawn (s5.ex e6) fun H7 v7 b7 s7 hn7 => ?_
    obtain ⟨d7, hd7, hnm7⟩ := hn7.d
    obtain ⟨nm7, rfl, gn7⟩ := hnm7.good
    walk_at "rd"
    refine ⟨P, src, v7, .tuple nm7, outs, es, rfl, b7 _ _ hsrcP hP, hsrcP, dpAll_but b7 (s5.ex e6).nt _ _ pe hd6, pe, hd7, gn7.pure (by decide), s7, fun H8 va da b8 s8 hva hda => ?_⟩
    have hnE : NmE da := hda.elim (fun e => ⟨nm7, e, gn7⟩) (hne da)
    obtain ⟨nm, rfl, gn⟩ := hnE
    have gn20 : GoodT 0 20 nm := gn.mono (Nat.le_refl _) (by decide)
    have e56 : Same H H5 := st5.sm
    walk_at "rd"
    refine ⟨src, rfl, s8, fun H9 wn wx wy b9 s9 nw hw => ?_⟩
    have wns : wn ≠ src := by
      rintro rfl
      obtain ⟨xs, hxs⟩ := s8.lst
      rw [nw] at hxs; cases hxs
    have st8 : S9 99 T H H8 A D p sn qs := st.ex (same_src e3 n3 ((b4.trans b5).trans (((But.pre e6 b7).trans b8))))
    have hwa : ∀ j, j < 4 → wn ≠ A j := fun j hj z => by
      obtain ⟨o, ho⟩ := st8.any hj
      rw [← z, nw] at ho; cases ho
    clear st8
    walk_at "rd"
    refine r_draw s9 (by decide) (by decide) fun H10 d10 b10 s10 k0 k1 => ?_
    have bs : But src H5 H10 := ((But.pre e6 b7).trans b8).trans (b9.trans b10)
    have st10 : S9 99 T H H10 A D p sn qs := st.ex (same_src e3 n3 ((b4.trans b5).trans bs))
    walk_at "rd"
    refine r_lenL (SqL.of st10.sn_) ?_
    walk_at "rd"
    rw [List.length_map]
    have q1 := Int.emod_nonneg d10 (show ((qs.length : Nat) : Int) ≠ 0 by omega)
    have q2 := Int.emod_lt_of_pos d10 (show (0 : Int) < ((qs.length : Nat) : Int) by omega)
    obtain ⟨pl, epl, hpl⟩ := nat_of q1 q2
    rw [epl]
    walk_at "rd"
    refine r_drawn s10 fun H11 vw b11 s11 hvw => ?_
    obtain ⟨wd, rfl, wd0, wd1⟩ := hvw
    have hw11 := b11 _ _ wns (b10 _ _ wns hw)
    have st11 : S9 99 T H H11 A D p sn qs := st.ex (same_src e3 n3 ((b4.trans b5).trans (bs.trans b11)))
    walk_at "rd"
    obtain ⟨gs, hg11, hgd11⟩ := st11.ls 1 (by decide) (by decide)
    have gsl := dpAll_len hgd11
    refine r_lenL (SqL.of hg11) ?_
    walk_at "rd"
    intro m H12 n12 e12 hm
    walk_at "rd"
    refine r_draw (s11.ex e12) (by decide) (by decide) fun H13 how b13 s13 how0 how1 => ?_
    have st13 : S9 99 T H H13 A D p sn qs := st.ex (same_src e3 n3 ((b4.trans b5).trans ((((bs.trans b11).same' e12)).trans b13)))
    have hw13 := b13 _ _ wns (e12 _ _ hw11)
    obtain ⟨gs13, hg13, hgd13⟩ := st13.ls 0 (by decide) (by decide)
    have gsl13 := dpAll_len hgd13
    have hpl' : pl < qs.length := by omega
    have hz := List.getElem?_eq_getElem hpl'
    obtain ⟨dq, hsg⟩ := st13.sq pl _ hz
    have l1 : (D 1).length = i := by rw [eD]; exact l0
    have gS := good_sigL (k := (pl : Nat)) (e := wd) (s := wx) (n := wy) (u := (i : Nat)) gn20
    have rp := hrec.p8
    have gc := good_contD (e := wd) (s := wx) (n := wy) gn20 rp
    have hva12 : Dp K H12 va (.tuple nm) := dp_ex e12 _ _ (dp_but (b9.trans (b10.trans b11)) s8.nt _ _ (gn.pure (by decide)) hva)
    have hP12 : PT K H12 m (sigL nm (pl : Nat) wd wx wy (i : Nat)) := ⟨_, SqT.of hm, .cons hva12 (.cons (.int _) (.cons (.int _) (.cons (.int _) (.cons (.int _) (.cons (by rw [gsl, l1]; exact .int _) .nil)))))⟩
    have nt12 := (s11.ex e12).nt
    have hP13 : PT K H13 m (sigL nm (pl : Nat) wd wx wy (i : Nat)) := hP12.but b13 nt12 gS.all
    have hr13 : Dp K H13 r d := dp_but b13 nt12 _ _ rp.1 (dp_ex e12 _ _ (dp_but (bs.trans b11) s5.nt _ _ rp.1 hr5))
    walk_at "rd"
    refine r_ixL (SqL.of st13.sn_) (v := .ref qs[pl]) (atI_nat (by rw [List.getElem?_map, hz]; rfl)) ?_
    walk_at "rd"
    refine ⟨qs[pl], dq, A 0, m, how, (pl : Nat), wd, wx, wy, gs13, r, nm, d, rfl, hsg, hg13, by omega, by rw [gsl13, l0]; exact hP13, gn20, hr13, rp, fun H14 t a' b14 h14 ht14 ha14 => ?_⟩
    rw [gsl13, l0] at ha14
    have nl14 := noTup_l hg13
    have hP14 := hP13.but b14 nl14 gS.all
    have hr14 := dp_but b14 nl14 _ _ rp.1 hr13
    obtain ⟨C, hC⟩ : ∃ C : PyData, C = if how ≤ 3 then contD nm wd wx wy d else d := ⟨_, rfl⟩
    rw [← hC] at ht14
    have gC : pureD C = true ∧ C.depth ≤ 9 := by
      rw [hC]
      split
      · exact gc
      · exact ⟨rp.1, by have := rp.2; omega⟩
    have gE : pureD (.tuple [.int (pl : Nat), C]) = true ∧ (PyData.tuple [.int (pl : Nat), C]).depth ≤ 12 := ⟨pure_two rfl gC.1, by have := depth_two (d := .int (pl : Nat)) (e := C) (n := 9) (by simp [PyData.depth]) gC.2; omega⟩
    have pD0 : pureAll (D 0 ++ [.tuple [.int (pl : Nat), C]]) = true := pureAll_app (st13.pu 0 (by decide)) (by simp only [pureAll, gE.1, Bool.and_self])
    have st14 := (st13.but (y := 0) (by decide) b14 hg13).set (L := D 0 ++ [.tuple [.int (pl : Nat), C]]) ⟨_, h14, dpAll_app (dpAll_but b14 nl14 _ _ (st13.pu 0 (by decide)) hgd13) (.cons ht14 .nil)⟩ pD0
    have hw14 := b14 _ _ (hwa 0 (by decide)) hw13
    walk_at "rd"
    refine ⟨.ref a', .ref m, _, _, rfl, ha14.dp, hP14.dp, gS.pure (by decide), gS.pure (by decide), gS.depth, ?_⟩
    rw [eqv_pure _ (gS.pure (by decide))]
    walk_at "rd"
    refine r_ixPT (i := 0) hP14 rfl fun v0 hv0 => ?_
    walk_at "rd"
    refine r_ixPT (i := 2) hP14 rfl fun v2 hv2 => ?_
    cases hv2
    walk_at "rd"
    refine r_ixPT (i := 3) hP14 rfl fun v3 hv3 => ?_
    cases hv3
    walk_at "rd"
    refine r_ixPT (i := 4) hP14 rfl fun v4' hv4 => ?_
    cases hv4
    walk_at "rd"
    intro c H15 n15 e15 hc
    walk_at "rd"
    have hr15 := dp_ex e15 _ _ hr14
    have hc15 : Dp K H15 (.ref c) (contD nm wd wx wy d) := .tup (SqT.of hc) (.cons (dp_ex e15 _ _ hv0) (.cons (.int _) (.cons (.int _) (.cons (.int _) (.cons hr15 .nil)))))
    refine r_cut (fun σ' H' => H' = H15 ∧ ∃ vc : V, Dp K H15 vc C ∧ σ' = [some (.ref a), some (.int size), some (.ref p), some (.ref sn), some (.int (0 + (i : Int))), some (.ref (A 1)), some (.ref (A 2)), some (.ref (A 3)), some (.ref src), some r, some va, some (.ref m), some (.ref wn), some (.int (pl : Nat)), some (.int how), some vc]) ?_ ?_
    · walk_at "rd"
      walk_at "sp" <;> intro h0
      · walk_at "rd"
        refine ⟨rfl, r, ?_, rfl⟩
        rw [hC, if_neg (by omega)]
        exact hr15
      · walk_at "rd"
        refine ⟨rfl, .ref c, ?_, rfl⟩
        rw [hC, if_pos (by omega)]
        exact hc15
    rintro σ' H'' ⟨rfl, vc, hvc, rfl⟩
    have st15 := st14.ex e15
    have hP15 := hP14.ex e15
    have hw15 := e15 _ _ hw14
    obtain ⟨gs1, hg1, hgd1⟩ := st15.ls 1 (by decide) (by decide)
    have gs1l := dpAll_len hgd1
    have u1 : up D 0 (D 0 ++ [.tuple [.int (pl : Nat), C]]) 1 = D 1 := rfl
    rw [u1] at hgd1 gs1l
    walk_at "rd"
    refine r_append hg1 ?_
    walk_at "rd"
    intro t1 H16 n16 e16 ht1
    have hg16 := e16 _ _ hg1
    walk_at "rd"
    refine r_append1 hg16 (by omega) fun H17 b17 h17 => ?_
    have nl17 := noTup_l hg16
    have t1n : t1 ≠ A 1 := by rintro rfl; rw [n16] at hg1; cases hg1
    have pD1 := st13.pu 1 (by decide)
    have ht1d : Dp K H17 (.ref t1) (.tuple [.int (pl : Nat), C]) := .tup (SqT.of (b17 _ _ t1n ht1)) (.cons (.int _) (.cons (dp_but b17 nl17 _ _ gC.1 (dp_ex e16 _ _ hvc)) .nil))
    have st17 := ((st15.ex e16).but (y := 1) (by decide) b17 hg16).set (L := D 1 ++ [.tuple [.int (pl : Nat), C]]) ⟨_, h17, dpAll_app (dpAll_but b17 nl17 _ _ pD1 (dpAll_ex e16 _ _ hgd1)) (.cons ht1d .nil)⟩ (pureAll_app pD1 (by simp only [pureAll, gE.1, Bool.and_self]))
    have hP17 := (hP15.ex e16).but b17 nl17 gS.all
    have hr17 := dp_but b17 nl17 _ _ rp.1 (dp_ex e16 _ _ hr15)
    have hw17 := b17 _ _ (hwa 1 (by decide)) (e16 _ _ hw15)
    obtain ⟨gs2, hg2, hgd2⟩ := st17.ls 2 (by decide) (by decide)
    have gs2l := dpAll_len hgd2
    obtain ⟨D17, hD17⟩ : ∃ F : Nat → List PyData, F = up (up D 0 (D 0 ++ [.tuple [.int (pl : Nat), C]])) 1 (D 1 ++ [.tuple [.int (pl : Nat), C]]) := ⟨_, rfl⟩
    rw [← hD17] at st17 hgd2 gs2l
    have w0 : D17 0 = D 0 ++ [.tuple [.int (pl : Nat), C]] := by rw [hD17]; rfl
    have w1 : D17 1 = D 1 ++ [.tuple [.int (pl : Nat), C]] := by rw [hD17]; rfl
    have w2 : D17 2 = D 2 := by rw [hD17]; rfl
    have w3 : D17 3 = D 3 := by rw [hD17]; rfl
    rw [w2] at hgd2 gs2l
    walk_at "rd"
    refine r_append hg2 ?_
    walk_at "rd"
    refine r_append1 hg2 (by omega) fun H18 b18 h18 => ?_
    have nl18 := noTup_l hg2
    have hP18 := hP17.but b18 nl18 gS.all
    have hr18 := dp_but b18 nl18 _ _ rp.1 hr17
    have hw18 := b18 _ _ (hwa 2 (by decide)) hw17
    have pD2 : pureAll (D 2) = true := st13.pu 2 (by decide)
    have pD3 : pureAll (D 3) = true := st13.pu 3 (by decide)
    have st18 := (st17.but (y := 2) (by decide) b18 hg2).set (L := D 2 ++ [.tuple (sigL nm (pl : Nat) wd wx wy (i : Nat))]) ⟨_, h18, dpAll_app (dpAll_but b18 nl18 _ _ pD2 hgd2) (.cons hP18.dp .nil)⟩ (pureAll_app pD2 (by simp only [pureAll, gS.pure (by decide), Bool.and_self]))
    obtain ⟨D18, hD18⟩ : ∃ F : Nat → List PyData, F = up D17 2 (D 2 ++ [.tuple (sigL nm (pl : Nat) wd wx wy (i : Nat))]) := ⟨_, rfl⟩
    rw [← hD18] at st18
    obtain ⟨gs3, hg3, hgd3⟩ := st18.ls 3 (by decide) (by decide)
    have gs3l := dpAll_len hgd3
    have x3 : D18 3 = D 3 := by rw [hD18]; exact w3
    rw [x3] at hgd3 gs3l
    walk_at "rd"
    refine r_append hg3 ?_
    walk_at "rd"
    refine r_append1 hg3 (by omega) fun H19 b19 h19 => ?_
    have nl19 := noTup_l hg3
    have hP19 := hP18.but b19 nl19 gS.all
    have hr19 := dp_but b19 nl19 _ _ rp.1 hr18
    have hw19 := b19 _ _ (hwa 3 (by decide)) hw18
    have st19 := (st18.but (y := 3) (by decide) b19 hg3).set (L := D 3 ++ [d]) ⟨_, h19, dpAll_app (dpAll_but b19 nl19 _ _ pD3 hgd3) (.cons hr19 .nil)⟩ (pureAll_app pD3 (by simp only [pureAll, rp.1, Bool.and_self]))
    obtain ⟨D19, hD19⟩ : ∃ F : Nat → List PyData, F = up D18 3 (D 3 ++ [d]) := ⟨_, rfl⟩
    rw [← hD19] at st19
    have y0 : D19 0 = D 0 ++ [.tuple [.int (pl : Nat), C]] := by rw [hD19, hD18]; exact w0
    have y1 : D19 1 = D19 0 := by rw [y0, ← eD, hD19, hD18]; exact w1
    have y2 : D19 2 = D 2 ++ [.tuple (sigL nm (pl : Nat) wd wx wy (i : Nat))] := by rw [hD19, hD18]; rfl
    have y3 : D19 3 = D 3 ++ [d] := by rw [hD19]; rfl
    have hG0 : ∀ e ∈ D19 0, pureD e = true ∧ e.depth ≤ 12 := fun e he => by
      rw [y0] at he
      rcases List.mem_append.mp he with he | he
      · exact g0 e he
      · rw [List.mem_singleton.mp he]; exact gE
    have z0 : (D19 0).length = i + 1 := by rw [y0, List.length_append, l0]; rfl
    walk_at "rd"
    refine ⟨p, A 0, A 1, m, D19 0, .tuple (sigL nm (pl : Nat) wd wx wy (i : Nat)), wx, r, d, rfl, st19.np, st19.sg (by decide), y1 ▸ st19.sg (i := 1) (by decide), ⟨hG0, by omega⟩, hP19.dp, ⟨nm, _, _, _, _, _, rfl, gn20, by omega⟩, hr19, rp, fun H20 e20 => ?_⟩
    walk_at "rd"
    refine ⟨_, _, _, _, _, _, _, _, _, D19, rfl, st19.ex e20, y1, z0, by rw [y2, List.length_append, l2]; rfl, by rw [y3, List.length_append, l3]; rfl, hG0, fun e he => ?_, fun e he => ?_⟩
    · rw [y2] at he
      rcases List.mem_append.mp he with he | he
      · exact g2 e he
      · rw [List.mem_singleton.mp he]; exact ⟨nm, _, _, _, _, _, rfl, gn, by omega⟩
    · rw [y3] at he
      rcases List.mem_append.mp he with he | he
      · exact g3 e he
      · rw [List.mem_singleton.mp he]; exact hrec
  · rintro σ' H' ⟨v4, v8, v9, v10, v11, v12, v13, v14, v15, D, rfl, st, eD, l0, l2, l3, g0, g2, g3⟩
    walk_at "rd"
    obtain ⟨so, hso, hsod⟩ := st.ls 2 (by decide) (by decide)
    obtain ⟨ro, hro, hrod⟩ := st.ls 3 (by decide) (by decide)
    refine ⟨p, A 0, A 1, A 2, A 3, D 0, D 2, D 3, so, ro, rfl, st.np, st.sg (by decide), eD ▸ st.sg (i := 1) (by decide), ⟨g0, by omega⟩, SqL.of hso, hsod, SqL.of hro, hrod, by omega, by omega, g2, g3, fun H'' e'' => ?_⟩
    exact k _

end
end My
open PySem PySem.W PyProof.Rows
theorem My.law_fin {P : Program} {w : World} {K : PySem.W.Frag} {mg : Str → Option Value} {h : Heap} {fa : Addr} (KX : K.In h) (hmg : mg "law" = some (.ref fa)) (T : My.Txt K mg) :
    ∃ fd : FuncData, (∀ (s : Shared) (u : Value), BindsTo s fd ⟨[u], []⟩ [("script", u)]) ∧ ∀ base : Heap, K.In base → base.Ns mainGlobals mg → L2.FnOk P w K mg base L2.CX0 6 fa fd ["script"] (My.spLaw K) :=
  My.Fn.fin T.d_law hmg (fun _ _ _ _ _ _ _ => rfl) (fun base => My.ok_law T)
theorem My.txt_mk_ok : True := trivial
def My.txt_mk {K : PySem.W.Frag} {mg : Str → Option Value} {a_Signer : Addr} {a_Notary : Addr} (m_bool : mg "bool" = none) (m_int : mg "int" = none) (m_isinstance : mg "isinstance" = none) (m_len : mg "len" = none) (m_max : mg "max" = none) (m_min : mg "min" = none) (m_range : mg "range" = none) (m_str : mg "str" = none) (m_tuple : mg "tuple" = none) (d_sign_set : My.DefK K mg "sign_set" 2 ["zone", "edition", "start", "end"] ["signer", "record_set", "zone", "edition", "start", "end"] My.s_sign_set) (d_is_valid : My.Def1 K mg "is_valid" ["notary", "signature", "record_set", "time"] My.s_is_valid) (d__law_cell : My.Def1 K mg "_law_cell" ["script", "k"] My.s__law_cell) (d__law_source : My.Def1 K mg "_law_source" ["cell"] My.s__law_source) (d__law_draw : My.Def1 K mg "_law_draw" ["source", "many"] My.s__law_draw) (d__law_label : My.Def1 K mg "_law_label" ["source"] My.s__law_label) (d__law_name : My.Def1 K mg "_law_name" ["source"] My.s__law_name) (d__law_kinds : My.Def1 K mg "_law_kinds" [] My.s__law_kinds) (d__law_word : My.Def1 K mg "_law_word" ["source"] My.s__law_word) (d__law_text : My.Def1 K mg "_law_text" ["source"] My.s__law_text) (d__law_value : My.Def1 K mg "_law_value" ["kind", "source"] My.s__law_value) (d__law_same : My.Def1 K mg "_law_same" ["actual", "expected"] My.s__law_same) (d__law_sorted : My.Def1 K mg "_law_sorted" ["values"] My.s__law_sorted) (d__law_record_set : My.Def1 K mg "_law_record_set" ["source"] My.s__law_record_set) (d__law_window : My.Def1 K mg "_law_window" ["source"] My.s__law_window) (d__law_near_words : My.Def1 K mg "_law_near_words" ["number"] My.s__law_near_words) (d__law_near_names : My.Def1 K mg "_law_near_names" ["name"] My.s__law_near_names) (d__law_near_signatures : My.Def1 K mg "_law_near_signatures" ["made"] My.s__law_near_signatures) (d__law_near_sets : My.Def1 K mg "_law_near_sets" ["record_set"] My.s__law_near_sets) (d__law_times : My.Def1 K mg "_law_times" ["made"] My.s__law_times) (d__law_asks : My.Def1 K mg "_law_asks" ["notary", "signings", "made", "record_set", "time"] My.s__law_asks) (d__law_signed : My.Def1 K mg "_law_signed" ["signer", "how", "made", "record_set"] My.s__law_signed) (d__law_chosen : My.Def1 K mg "_law_chosen" ["earlier", "fresh", "source"] My.s__law_chosen) (d__law_all : My.Def1 K mg "_law_all" ["notary", "signings", "signatures", "sets"] My.s__law_all) (d_law : My.Def1 K mg "law" ["script"] My.s_law) (g_Signer : mg "Signer" = some (.ref a_Signer)) (cl_Signer : L2.Cls K a_Signer) (n_Signer__key : L2.NoAttr K a_Signer "_key") (n_Signer__signings : L2.NoAttr K a_Signer "_signings") (g_Notary : mg "Notary" = some (.ref a_Notary)) (cl_Notary : L2.Cls K a_Notary) (n_Notary__many_signers : L2.NoAttr K a_Notary "_many_signers") (n_Notary__signings : L2.NoAttr K a_Notary "_signings") (d_Signer___init__ : My.DefI K a_Signer "Signer.__init__" ["self", "key", "signings"] My.s_Signer___init__) (d_Signer_key : My.DefP K a_Signer "key" "Signer.key" My.s_Signer_key) (d_Signer_sign : My.DefM K a_Signer "sign" "Signer.sign" ["self", "content"] My.s_Signer_sign) (d_Notary___init__ : My.DefI K a_Notary "Notary.__init__" ["self"] My.s_Notary___init__) (d_Notary_new_signer : My.DefM K a_Notary "new_signer" "Notary.new_signer" ["self"] My.s_Notary_new_signer) (d_Notary_holds : My.DefM K a_Notary "holds" "Notary.holds" ["self", "key", "content", "number"] My.s_Notary_holds) (d_Notary___len__ : My.DefM K a_Notary "__len__" "Notary.__len__" ["self"] My.s_Notary___len__) : My.Txt K mg :=
  ⟨m_bool, m_int, m_isinstance, m_len, m_max, m_min, m_range, m_str, m_tuple, d_sign_set, d_is_valid, d__law_cell, d__law_source, d__law_draw, d__law_label, d__law_name, d__law_kinds, d__law_word, d__law_text, d__law_value, d__law_same, d__law_sorted, d__law_record_set, d__law_window, d__law_near_words, d__law_near_names, d__law_near_signatures, d__law_near_sets, d__law_times, d__law_asks, d__law_signed, d__law_chosen, d__law_all, d_law, a_Signer, g_Signer, cl_Signer, n_Signer__key, n_Signer__signings, a_Notary, g_Notary, cl_Notary, n_Notary__many_signers, n_Notary__signings, d_Signer___init__, d_Signer_key, d_Signer_sign, d_Notary___init__, d_Notary_new_signer, d_Notary_holds, d_Notary___len__⟩
set_option maxRecDepth 100000 in
set_option maxHeartbeats 0 in
theorem PySem.Challenge.cw_provenames_k09_signatures_holds : PySem.Challenge.rw_provenames_k09_signatures.Holds := by
  w_on; o_law; k_head; (case hw => w_witness2)
  k_fill
  refine L2.walk_of (l := PySem.Challenge.rw_provenames_k09_signatures) (n := 63) (k := 6) (x := "script") (CX := fun _ => L2.CX0) (sp := fun w => My.spLaw _) rfl (by decide) rfl ⟨rfl, by decide, by decide⟩ (fun w h Y => PySem.W.kIn_of Y) ?F (fun _ _ a ns hl _ hS => ⟨a, ns, rfl, hS, hl, fun _ => rfl⟩) (fun _ _ _ _ _ h => h)
  case F =>
    intro w mg fa h KX G hmg
    refine My.law_fin KX hmg ?T
    case T =>
      refine' My.txt_mk ?m_bool ?m_int ?m_isinstance ?m_len ?m_max ?m_min ?m_range ?m_str ?m_tuple ?d_sign_set ?d_is_valid ?d__law_cell ?d__law_source ?d__law_draw ?d__law_label ?d__law_name ?d__law_kinds ?d__law_word ?d__law_text ?d__law_value ?d__law_same ?d__law_sorted ?d__law_record_set ?d__law_window ?d__law_near_words ?d__law_near_names ?d__law_near_signatures ?d__law_near_sets ?d__law_times ?d__law_asks ?d__law_signed ?d__law_chosen ?d__law_all ?d_law ?g_Signer ?cl_Signer ?n_Signer__key ?n_Signer__signings ?g_Notary ?cl_Notary ?n_Notary__many_signers ?n_Notary__signings ?d_Signer___init__ ?d_Signer_key ?d_Signer_sign ?d_Notary___init__ ?d_Notary_new_signer ?d_Notary_holds ?d_Notary___len__
      (case m_bool => exact PySem.W.mg_none_of KX G (by k_is))
      (case m_int => exact PySem.W.mg_none_of KX G (by k_is))
      (case m_isinstance => exact PySem.W.mg_none_of KX G (by k_is))
      (case m_len => exact PySem.W.mg_none_of KX G (by k_is))
      (case m_max => exact PySem.W.mg_none_of KX G (by k_is))
      (case m_min => exact PySem.W.mg_none_of KX G (by k_is))
      (case m_range => exact PySem.W.mg_none_of KX G (by k_is))
      (case m_str => exact PySem.W.mg_none_of KX G (by k_is))
      (case m_tuple => exact PySem.W.mg_none_of KX G (by k_is))
      (case d_sign_set => (refine' My.defk_mk KX G (fun _ _ _ _ _ _ us ws hl hm => match us, ws, hl, hm with | [_, _], [_, _, _, _], _, _ => rfl) ?a ?l ?c ?k; (case a => k_is); (case l => k_is); (case c => k_is); (case k => k_is)))
      (case d_is_valid => (refine' My.def1_mk KX G (fun _ _ _ _ _ _ us hl => match us, hl with | [_, _, _, _], _ => rfl) ?a ?l ?c ?k; (case a => k_is); (case l => k_is); (case c => k_is); (case k => k_is)))
      (case d__law_cell => (refine' My.def1_mk KX G (fun _ _ _ _ _ _ us hl => match us, hl with | [_, _], _ => rfl) ?a ?l ?c ?k; (case a => k_is); (case l => k_is); (case c => k_is); (case k => k_is)))
      (case d__law_source => (refine' My.def1_mk KX G (fun _ _ _ _ _ _ us hl => match us, hl with | [_], _ => rfl) ?a ?l ?c ?k; (case a => k_is); (case l => k_is); (case c => k_is); (case k => k_is)))
      (case d__law_draw => (refine' My.def1_mk KX G (fun _ _ _ _ _ _ us hl => match us, hl with | [_, _], _ => rfl) ?a ?l ?c ?k; (case a => k_is); (case l => k_is); (case c => k_is); (case k => k_is)))
      (case d__law_label => (refine' My.def1_mk KX G (fun _ _ _ _ _ _ us hl => match us, hl with | [_], _ => rfl) ?a ?l ?c ?k; (case a => k_is); (case l => k_is); (case c => k_is); (case k => k_is)))
      (case d__law_name => (refine' My.def1_mk KX G (fun _ _ _ _ _ _ us hl => match us, hl with | [_], _ => rfl) ?a ?l ?c ?k; (case a => k_is); (case l => k_is); (case c => k_is); (case k => k_is)))
      (case d__law_kinds => (refine' My.def1_mk KX G (fun _ _ _ _ _ _ us hl => match us, hl with | [], _ => rfl) ?a ?l ?c ?k; (case a => k_is); (case l => k_is); (case c => k_is); (case k => k_is)))
      (case d__law_word => (refine' My.def1_mk KX G (fun _ _ _ _ _ _ us hl => match us, hl with | [_], _ => rfl) ?a ?l ?c ?k; (case a => k_is); (case l => k_is); (case c => k_is); (case k => k_is)))
      (case d__law_text => (refine' My.def1_mk KX G (fun _ _ _ _ _ _ us hl => match us, hl with | [_], _ => rfl) ?a ?l ?c ?k; (case a => k_is); (case l => k_is); (case c => k_is); (case k => k_is)))
      (case d__law_value => (refine' My.def1_mk KX G (fun _ _ _ _ _ _ us hl => match us, hl with | [_, _], _ => rfl) ?a ?l ?c ?k; (case a => k_is); (case l => k_is); (case c => k_is); (case k => k_is)))
      (case d__law_same => (refine' My.def1_mk KX G (fun _ _ _ _ _ _ us hl => match us, hl with | [_, _], _ => rfl) ?a ?l ?c ?k; (case a => k_is); (case l => k_is); (case c => k_is); (case k => k_is)))
      (case d__law_sorted => (refine' My.def1_mk KX G (fun _ _ _ _ _ _ us hl => match us, hl with | [_], _ => rfl) ?a ?l ?c ?k; (case a => k_is); (case l => k_is); (case c => k_is); (case k => k_is)))
      (case d__law_record_set => (refine' My.def1_mk KX G (fun _ _ _ _ _ _ us hl => match us, hl with | [_], _ => rfl) ?a ?l ?c ?k; (case a => k_is); (case l => k_is); (case c => k_is); (case k => k_is)))
      (case d__law_window => (refine' My.def1_mk KX G (fun _ _ _ _ _ _ us hl => match us, hl with | [_], _ => rfl) ?a ?l ?c ?k; (case a => k_is); (case l => k_is); (case c => k_is); (case k => k_is)))
      (case d__law_near_words => (refine' My.def1_mk KX G (fun _ _ _ _ _ _ us hl => match us, hl with | [_], _ => rfl) ?a ?l ?c ?k; (case a => k_is); (case l => k_is); (case c => k_is); (case k => k_is)))
      (case d__law_near_names => (refine' My.def1_mk KX G (fun _ _ _ _ _ _ us hl => match us, hl with | [_], _ => rfl) ?a ?l ?c ?k; (case a => k_is); (case l => k_is); (case c => k_is); (case k => k_is)))
      (case d__law_near_signatures => (refine' My.def1_mk KX G (fun _ _ _ _ _ _ us hl => match us, hl with | [_], _ => rfl) ?a ?l ?c ?k; (case a => k_is); (case l => k_is); (case c => k_is); (case k => k_is)))
      (case d__law_near_sets => (refine' My.def1_mk KX G (fun _ _ _ _ _ _ us hl => match us, hl with | [_], _ => rfl) ?a ?l ?c ?k; (case a => k_is); (case l => k_is); (case c => k_is); (case k => k_is)))
      (case d__law_times => (refine' My.def1_mk KX G (fun _ _ _ _ _ _ us hl => match us, hl with | [_], _ => rfl) ?a ?l ?c ?k; (case a => k_is); (case l => k_is); (case c => k_is); (case k => k_is)))
      (case d__law_asks => (refine' My.def1_mk KX G (fun _ _ _ _ _ _ us hl => match us, hl with | [_, _, _, _, _], _ => rfl) ?a ?l ?c ?k; (case a => k_is); (case l => k_is); (case c => k_is); (case k => k_is)))
      (case d__law_signed => (refine' My.def1_mk KX G (fun _ _ _ _ _ _ us hl => match us, hl with | [_, _, _, _], _ => rfl) ?a ?l ?c ?k; (case a => k_is); (case l => k_is); (case c => k_is); (case k => k_is)))
      (case d__law_chosen => (refine' My.def1_mk KX G (fun _ _ _ _ _ _ us hl => match us, hl with | [_, _, _], _ => rfl) ?a ?l ?c ?k; (case a => k_is); (case l => k_is); (case c => k_is); (case k => k_is)))
      (case d__law_all => (refine' My.def1_mk KX G (fun _ _ _ _ _ _ us hl => match us, hl with | [_, _, _, _], _ => rfl) ?a ?l ?c ?k; (case a => k_is); (case l => k_is); (case c => k_is); (case k => k_is)))
      (case d_law => (refine' My.def1_mk KX G (fun _ _ _ _ _ _ us hl => match us, hl with | [_], _ => rfl) ?a ?l ?c ?k; (case a => k_is); (case l => k_is); (case c => k_is); (case k => k_is)))
      (case g_Signer => (refine' PySem.W.mg_of KX G ?z; (case z => k_is)))
      (case cl_Signer => (refine' ⟨?z1, ?z2, ?z3, ?z4⟩; (case z1 => k_is); (case z2 => k_is); (case z3 => k_is); (case z4 => k_is)))
      (case n_Signer__key => (show PySem.W.findIn _ _ _ = some none; k_is))
      (case n_Signer__signings => (show PySem.W.findIn _ _ _ = some none; k_is))
      (case g_Notary => (refine' PySem.W.mg_of KX G ?z; (case z => k_is)))
      (case cl_Notary => (refine' ⟨?z1, ?z2, ?z3, ?z4⟩; (case z1 => k_is); (case z2 => k_is); (case z3 => k_is); (case z4 => k_is)))
      (case n_Notary__many_signers => (show PySem.W.findIn _ _ _ = some none; k_is))
      (case n_Notary__signings => (show PySem.W.findIn _ _ _ = some none; k_is))
      (case d_Signer___init__ => (refine' My.defi_mk (fun _ _ _ _ _ _ us hl => match us, hl with | [_, _, _], _ => rfl) ?a ?i ?l ?c ?k ?mk ?kc; (case a => k_is); (case i => k_is); (case l => k_is); (case c => k_is); (case k => k_is); (case mk => k_is); (case kc => k_is)))
      (case d_Signer_key => (refine' My.defp_mk (fun _ _ _ _ _ _ us hl => match us, hl with | [_], _ => rfl) ?a ?g ?t ?r ?l ?c ?k; (case a => k_is); (case g => k_is); (case t => k_is); (case r => k_is); (case l => k_is); (case c => k_is); (case k => k_is)))
      (case d_Signer_sign => (refine' My.defm_mk (fun _ _ _ _ _ _ us hl => match us, hl with | [_, _], _ => rfl) ?a ?i ?l ?c ?k; (case a => k_is); (case i => k_is); (case l => k_is); (case c => k_is); (case k => k_is)))
      (case d_Notary___init__ => (refine' My.defi_mk (fun _ _ _ _ _ _ us hl => match us, hl with | [_], _ => rfl) ?a ?i ?l ?c ?k ?mk ?kc; (case a => k_is); (case i => k_is); (case l => k_is); (case c => k_is); (case k => k_is); (case mk => k_is); (case kc => k_is)))
      (case d_Notary_new_signer => (refine' My.defm_mk (fun _ _ _ _ _ _ us hl => match us, hl with | [_], _ => rfl) ?a ?i ?l ?c ?k; (case a => k_is); (case i => k_is); (case l => k_is); (case c => k_is); (case k => k_is)))
      (case d_Notary_holds => (refine' My.defm_mk (fun _ _ _ _ _ _ us hl => match us, hl with | [_, _, _, _], _ => rfl) ?a ?i ?l ?c ?k; (case a => k_is); (case i => k_is); (case l => k_is); (case c => k_is); (case k => k_is)))
      (case d_Notary___len__ => (refine' My.defm_mk (fun _ _ _ _ _ _ us hl => match us, hl with | [_], _ => rfl) ?a ?i ?l ?c ?k; (case a => k_is); (case i => k_is); (case l => k_is); (case c => k_is); (case k => k_is)))
#print axioms PySem.Challenge.cw_provenames_k09_signatures_holds

