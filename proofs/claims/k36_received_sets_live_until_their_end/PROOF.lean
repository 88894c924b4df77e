import PyProof.Rows.All
import Wide.All
import OpenK.AllK
import Wide.FinOn
import HandS.ForMost
import HandS.ForExc
import HandS.TupAny
import HandS.IsInst
import HandS.Codes
import HandS.Style
import HandS.StrMore
import HandS.Small
import HandS.ExcIs
import HandS.FStr
import HandS.RaiseMore
import HandS.GenBody
import HandS.Zip
import HandS.GenYield
import HandS.GenCall
import HandS.GenList
import PyProof.GenComp
import KE.SortData
import KE.DataCmp
import HandS.Deep
import HandS.Property
import HandS.Defaults
import HandS.More
import HandS.RevRange
import HandS.WideBits
import HandS.Strs
import HandS.Walk
import KE.GoesComp
import KE.GoesRaise
import HandS.TupSets
import KE.KeyNested
import KE.DataMinKey
import HandS.TryOnly
import HandS.SortKw
import KE.KDictKeyed
import HandS.Iter
import HandS.DictSubView
import HandS.DictTup
import PySem.Challenge.RW_provenames_k36_received_sets_live_until
set_option Elab.async false
set_option linter.all false
set_option maxRecDepth 100000
set_option maxHeartbeats 4000000
namespace My
open PySem PySem.Spec PyProof.Rows L2
open C8 (tCut pss_cut)
/-! ### defs by their names -/
/-- the def st stands at the module's name x -/
def Def1 (K : PySem.W.Frag) (mg : Str → Option Value) (x : Str) (ps : List Str) (st : Stmt) : Prop := ∃ f fd, mg x = some (.ref f) ∧ Fun K x x st f fd ∧ Binds K fd ps []
/-- the def at the module's name x keeps the promise sp -/
def Fn (P : Program) (w : World) (K : PySem.W.Frag) (mg : Str → Option Value) (base : Heap) (k : Nat) (x : Str) (ps : List Str) (sp : Sp) : Prop :=
  ∃ f fd, mg x = some (.ref f) ∧ PySem.W.keepIn K (.ref f) = true ∧ Binds K fd ps [] ∧ FnOk P w K mg base CX0 k f fd ps sp ∧ ∃ oc od osl, K.lookup f = some ⟨oc, od, .func fd, osl⟩
theorem def1_mk {K : PySem.W.Frag} {h : Heap} {mg : Str → Option Value} {x : Str} {ps : List Str} {st : Stmt} {f : Addr} {oc : Value} {od an : Option Addr} {osl : Array (Option Value)} {kV doc pm cdv ct : Value} (X : K.In h) (G : h.Ns mainGlobals mg)
    (hb : ∀ (kV doc pm : Value) (an : Option Addr) (cdv ct : Value) (us : List Value), us.length = ps.length → bindArgs (PySem.W.fnOf x x (defArgs st) (defBody st) (defScope st) .none kV doc pm an cdv ct) ⟨us, []⟩ = pure (ps.zip us))
    (a : PySem.W.nsIn K mainGlobals x = some (some (.ref f))) (l : K.lookup f = some ⟨oc, od, .func (PySem.W.fnOf x x (defArgs st) (defBody st) (defScope st) .none kV doc pm an cdv ct), osl⟩)
    (c : PySem.W.codeIn K cdv x = true) (k : PySem.W.keepIn K (.ref f) = true) : Def1 K mg x ps st :=
  have F := fun_mk (st := st) l c k
  ⟨f, _, PySem.W.mg_of X G a, F, F.binds hb⟩
section
variable {P : Program} {w : World} {K : PySem.W.Frag} {mg : Str → Option Value} {base : Heap}
theorem Def1.ok {x : Str} {ps N : List Str} {st : Stmt} {k : Nat} {sp : Sp} (d : Def1 K mg x ps st) (S : FnScope N ps (defScope st)) (len : ∀ vs H Q E, sp vs H Q E → vs.length = ps.length)
    (hbody : ∀ (f : Addr) (cdv : Value) (A : Around) (outer : List Env) (s : Shared) (H : Hp) (vs : List V) (Q : VK) (E : XK), Room k (A.deeper (envOfC x (defScope st) s.heap.objs.size f cdv)) → sp vs H Q E →
      ∃ t, PSs (cxOf CX0 P w K mg base N x (defScope st) f cdv A outer s H E).nox (defBody st) t ∧ t { nx := fun _ H' => Q .non H', rt := Q } (start N vs) H) : Fn P w K mg base (k + 1) x ps sp := by
  obtain ⟨f, fd, hm, F, b⟩ := d
  refine ⟨f, fd, hm, F.kp, b, F.ok S len (hbody f), ?_⟩
  obtain ⟨oc, od, kV, doc, pm, an, cdv, ct, osl, _, lk, _⟩ := F.ex
  exact ⟨oc, od, osl, lk⟩
/-- the law's def, at the end -/
theorem Fn.fin {x p : Str} {st : Stmt} {k : Nat} {sp : Sp} {fa : Addr} (d : Def1 K mg x [p] st) (hfa : mg x = some (.ref fa))
    (hb : ∀ (kV doc pm : Value) (an : Option Addr) (cdv ct u : Value), bindArgs (PySem.W.fnOf x x (defArgs st) (defBody st) (defScope st) .none kV doc pm an cdv ct) ⟨[u], []⟩ = pure [(p, u)])
    (h : ∀ base : Heap, Fn P w K mg base k x [p] sp) : ∃ fd : FuncData, (∀ (s : Shared) (u : Value), BindsTo s fd ⟨[u], []⟩ [(p, u)]) ∧ ∀ base : Heap, K.In base → base.Ns mainGlobals mg → FnOk P w K mg base CX0 k fa fd [p] sp := by
  obtain ⟨f, fd, hm, F, b⟩ := d
  obtain ⟨oc, od, kV, doc, pm, an, cdv, ct, osl, e, lk, _⟩ := F.ex
  have ef : f = fa := Value.ref.inj (Option.some.inj (hm.symm.trans hfa))
  subst ef
  refine ⟨fd, fun s u => ?_, fun base _ _ => ?_⟩
  · rw [e]
    exact .of_eq (hb _ _ _ _ _ _ _)
  · obtain ⟨f', fd', hm', _, _, ok, oc', od', osl', lk'⟩ := h base
    have ef : f' = f := Value.ref.inj (Option.some.inj (hm'.symm.trans hm))
    subst ef
    rw [lk] at lk'
    have e2 := Option.some.inj lk'
    have e3 : fd = fd' := by
      injection e2 with _ _ e4 _
      injection e4
    rw [e3]
    exact ok
end
section
variable {X : Cx} {k : Nat} {x : Str} {ps : List Str} {sp : Sp}
def tFn (sp : Sp) (t : TA) : TE := fun σ H Q => t σ H fun vs H1 => sp vs H1 Q E0
theorem pe_fn {e : Expr} {es : List Expr} {t : TA} {p pos : Pos} (G : Fn X.prog X.w X.K X.mg X.base k x ps sp) (hr : Room k X.A) (hg : Gl X x) (ha : PA X (e :: es) t) (hdb : (x == ("__debug__" : Str)) = false := by decide)
    (he : starEach (e :: es) X.env = (false, eval e X.env) :: starEach es X.env := by rfl) (hpl : (backTo pos (starEach es X.env)).any (·.1) = false := by rfl) : PE X (.Call (.Name x p) (e :: es) [] pos) (tFn sp t) := by
  obtain ⟨f, fd, hm, hk, hb, F, _⟩ := G
  have h := pe_call (p := p) F hr hg hm hk hb .nil (E := E0) pass0 ha hdb he hpl
  refine ⟨fun pins s σ H Q I q => h.run pins s σ H Q I ?_⟩
  unfold tCall
  simp only [List.append_nil]
  exact q
theorem pe_fn0 {p pos : Pos} (G : Fn X.prog X.w X.K X.mg X.base k x ps sp) (hr : Room k X.A) (hg : Gl X x) (hdb : (x == ("__debug__" : Str)) = false := by decide) : PE X (.Call (.Name x p) [] [] pos) (tFn sp tNil) := by
  obtain ⟨f, fd, hm, hk, hb, F, _⟩ := G
  have h := pe_call0 F hr hg hm hk hb .nil (E := E0) pass0 hdb (p := p) (pos := pos)
  refine ⟨fun pins s σ H Q I q => h.run pins s σ H Q I ?_⟩
  unfold tCall
  simp only [List.append_nil]
  exact q
/-- a constant of the module -/
def GC (mg : Str → Option Value) (x : Str) (v : V) : Prop := ∃ u, mg x = some u ∧ RelV v u
theorem pe_gc {x : Str} {v : V} {pos : Pos} (h : GC X.mg x v) (hg : Gl X x) (hd : (x == ("__debug__" : Str)) = false := by decide) : PE X (.Name x pos) (tC v) := by
  obtain ⟨u, hm, r⟩ := h
  exact pe_glob hg hm r hd
end

/-! ### a statement, then the rest, with a word between them -/
section
variable {X : Cx}
theorem r_cut {t u : TS} {a c d : L2.St → Hp → Prop} {b : VK} {σ : L2.St} {H : Hp} (Mid : L2.St → Hp → Prop) (h : t ⟨Mid, b, c, d⟩ σ H) (k : ∀ σ' H', Mid σ' H' → u ⟨a, b, c, d⟩ σ' H') : tCut t u ⟨a, b, c, d⟩ σ H := ⟨Mid, h, k⟩
end
section
variable {X : Cx}
/-- an expression's value, told by a word between it and what follows -/
def tCutE (t : TE) : TE := fun σ H Q => ∃ Mid : VK, t σ H Mid ∧ ∀ v H', Mid v H' → Q v H'
theorem pe_cut {e : Expr} {t : TE} (h : PE X e t) : PE X e (tCutE t) := by
  refine ⟨fun pins s σ H Q I q => ?_⟩
  obtain ⟨Mid, hm, hk⟩ := q
  refine thn (h.run pins s σ H Mid I hm) fun v s1 q1 => ?_
  obtain ⟨x, H', I', r, m⟩ := q1
  exact ⟨x, H', I', r, hk _ _ m⟩
theorem r_cutE {t : TE} {σ : L2.St} {H : Hp} {Q : VK} (Mid : VK) (h : t σ H Mid) (k : ∀ v H', Mid v H' → Q v H') : tCutE t σ H Q := ⟨Mid, h, k⟩
end
/-! ### the rules under names of their own -/
section
variable {X : Cx} {to te : TE}
def rLenS : List V → Hp → VK → Prop := fun xs H Q => ∃ z, xs = [.str z] ∧ z.length ≤ sizeLine ∧ Q (.int z.length) H
theorem cLenS : CallR X (.builtin "len") rLenS := call_len_str
def rLenQ (K : PySem.W.Frag) : List V → Hp → VK → Prop := fun xs H Q => ∃ p ys, xs = [.ref p] ∧ (SqL K H p ys ∨ SqT K H p ys) ∧ Q (.int ys.length) H
theorem cLenQ : CallR X (.builtin "len") (rLenQ X.K) := call_len_seq
def rInt : List V → Hp → VK → Prop := fun xs H Q => (∃ i, xs = [.int i] ∧ Q (.int i) H) ∨ ∃ k, xs = [.bl k] ∧ Q (.int (if k then 1 else 0)) H
theorem cInt : CallR X (.type "int") rInt := call_int1
def rAddS : R2 := fun x y H Q => ∃ i j, x = .str i ∧ y = .str j ∧ i.length + j.length ≤ sizeLine ∧ Q (.str (i ++ j)) H
theorem oAddS : OpR X (binaryOp .Add) rAddS := op_add_str
def rInS : R2 := fun x y H Q => ∃ (c : Nat) (z : Str), x = .str ⟨#[c]⟩ ∧ y = .str z ∧ Q (.bl (decide (c ∈ z.cps.toList))) H
def rNotInS : R2 := fun x y H Q => ∃ (c : Nat) (z : Str), x = .str ⟨#[c]⟩ ∧ y = .str z ∧ Q (.bl (!decide (c ∈ z.cps.toList))) H
theorem oInS : OpR X (compareOp .In) rInS := op_in_sign
theorem oNotInS : OpR X (compareOp .NotIn) rNotInS := op_notIn_sign
def rTupOf (K : PySem.W.Frag) : List V → Hp → VK → Prop := fun xs H Q => ∃ p ys, xs = [.ref p] ∧ ((SqL K H p ys ∧ ∀ l, H l = none → Q (.ref l) (upd H l (.tup ys))) ∨ (SqT K H p ys ∧ Q (.ref p) H))
theorem cTupOf : CallR X (.type "tuple") (rTupOf X.K) := call_tuple_of
def rListOf (K : PySem.W.Frag) : List V → Hp → VK → Prop := fun xs H Q => ∃ p ys, xs = [.ref p] ∧ (SqL K H p ys ∨ SqT K H p ys) ∧ ∀ l, H l = none → Q (.ref l) (upd H l (.lst ys))
theorem cListOf : CallR X (.type "list") (rListOf X.K) := call_list_of
def tUp (to : TE) : TE := tM0 (fun x xs H Q => ∃ a, x = .str a ∧ xs = [] ∧ a.length ≤ 5592405 ∧ Q (.str (Txt.upper a)) H) to
theorem pe_up {o : Expr} {apos pos : Pos} (ho : PE X o to) (hbase : attributeBase o "upper" X.env (eval o X.env) = eval o X.env := by rfl) (hline : (apos.endLine == pos.line) = true := by rfl) : PE X (.Call (.Attribute o "upper" apos) [] [] pos) (tUp to) := pe_upper ho hbase hline
def tLow (to : TE) : TE := tM0 (fun x xs H Q => ∃ a, x = .str a ∧ xs = [] ∧ a.length ≤ 5592405 ∧ Q (.str (Txt.lower a)) H) to
theorem pe_low {o : Expr} {apos pos : Pos} (ho : PE X o to) (hbase : attributeBase o "lower" X.env (eval o X.env) = eval o X.env := by rfl) (hline : (apos.endLine == pos.line) = true := by rfl) : PE X (.Call (.Attribute o "lower" apos) [] [] pos) (tLow to) := pe_lower ho hbase hline
end
theorem nox_K {CX : CXT} {P : Program} {w : World} {K : PySem.W.Frag} {mg : Str → Option Value} {base : Heap} {N : List Str} {q : Str} {sc : Scope} {f : Addr} {cdv : Value} {A : Around} {outer : List Env} {s : Shared} {H : Hp} {E : XK} :
    (cxOf CX P w K mg base N q sc f cdv A outer s H E).nox.K = K := rfl
/-! ### heaps -/
theorem ex_new {H : Hp} {p : Addr} {o : HO} (h : H p = none) : Same H (upd H p o) := fun a u e => by
  rw [upd_ne (ne_of_none e h)]
  exact e
/-- all but what stands at l is as it was -/
def But (l : Addr) (H H' : Hp) : Prop := ∀ b o, b ≠ l → H b = some o → H' b = some o
theorem But.refl (l : Addr) (H : Hp) : But l H H := fun _ _ _ h => h
theorem But.trans {l : Addr} {H H1 H2 : Hp} (a : But l H H1) (b : But l H1 H2) : But l H H2 := fun c o n h => b c o n (a c o n h)
theorem But.of {l : Addr} {H H' : Hp} (a : Same H H') : But l H H' := fun c o _ h => a c o h
theorem But.upd {l : Addr} {H : Hp} {o : HO} : But l H (upd H l o) := fun c u n h => by
  rw [upd_ne n]
  exact h
theorem But.same {l : Addr} {H H0 H' : Hp} (e : Same H0 H) (b : But l H H') (h : H0 l = none) : Same H0 H' := fun c o h0 => b c o (ne_of_none h0 h) (e c o h0)
theorem ex_l {K : PySem.W.Frag} {H H' : Hp} {a : Addr} {xs : List V} (e : Same H H') (h : SqL K H a xs) : SqL K H' a xs := e.seq h
theorem ex_t {K : PySem.W.Frag} {H H' : Hp} {a : Addr} {xs : List V} (e : Same H H') (h : SqT K H a xs) : SqT K H' a xs :=
  h.imp (fun h => h.imp (e a _) fun ⟨o, h⟩ => ⟨o, e a _ h⟩) id
theorem but_rd {l : Addr} {H H' : Hp} {a : Addr} {u : HO} (e : But l H H') (n : a ≠ l) (h : Rd H a u) : Rd H' a u := by
  rcases h with h | ⟨o, h⟩
  · exact Or.inl (e a _ n h)
  · exact Or.inr ⟨o, e a _ n h⟩
theorem but_t {K : PySem.W.Frag} {l : Addr} {H H' : Hp} {a : Addr} {xs ys : List V} (e : But l H H') (hl : H l = some (.lst ys)) (h : SqT K H a xs) : SqT K H' a xs := by
  rcases h with h | h
  · refine Or.inl (but_rd e ?_ h)
    rintro rfl
    rcases h with h | ⟨o, h⟩
    · rw [hl] at h; cases h
    · rw [hl] at h; cases h
  · exact Or.inr h
theorem but_l {K : PySem.W.Frag} {l : Addr} {H H' : Hp} {a : Addr} {xs : List V} (e : But l H H') (n : a ≠ l) (h : SqL K H a xs) : SqL K H' a xs := by
  rcases h with h | h
  · exact Or.inl (but_rd e n h)
  · exact Or.inr h
theorem fresh_back {H H' : Hp} {p : Addr} (e : Same H H') (h : H' p = none) : H p = none := by
  cases h1 : H p with
  | none => rfl
  | some o =>
    rw [e p o h1] at h
    cases h
theorem but_fresh {l : Addr} {H H' : Hp} {p : Addr} (e : But l H H') (n : p ≠ l) (h : H' p = none) : H p = none := by
  cases h1 : H p with
  | none => rfl
  | some o =>
    rw [e p o n h1] at h
    cases h
/-! ### the readings' steps -/
section
variable {σ : L2.St} {H : Hp} {Q : VK} {QT : Bool → Hp → Prop} {QA : List V → Hp → Prop} {QO : Option Int → Hp → Prop} {ta tb tc te : TE} {t u : TT} {v x y : V} {i j : Nat} {K : PySem.W.Frag}
theorem r_var (h : σ[i]? = some (some v)) (q : Q v H) : tVar i σ H Q := ⟨v, h, q⟩
theorem r_c (q : Q v H) : tC v σ H Q := q
theorem r_op {r : R2} (h : ta σ H fun x H1 => tb σ H1 fun y H2 => r x y H2 Q) : tOp r ta tb σ H Q := h
theorem r_un {r : V → Hp → VK → Prop} (h : ta σ H fun x H1 => r x H1 Q) : tUn r ta σ H Q := h
theorem r_if (h : t σ H fun c H1 => if c = true then ta σ H1 Q else tb σ H1 Q) : tIf t ta tb σ H Q := h
theorem r_fn {sp : Sp} {t : TA} (h : t σ H fun vs H1 => sp vs H1 Q E0) : tFn sp t σ H Q := h
theorem r_cb {r : List V → Hp → VK → Prop} {t : TA} (h : t σ H fun vs H1 => r vs H1 Q) : tCB r t σ H Q := h
theorem r_nil (q : QA [] H) : tNil σ H QA := q
theorem r_cons {tr : TA} (h : ta σ H fun x H1 => tr σ H1 fun xs H2 => QA (x :: xs) H2) : tCons ta tr σ H QA := h
/-- a new tuple, a new list, whatever the heap's form -/
def NewT (xs : List V) (H : Hp) (Q : VK) : Prop := xs.length ≤ sizeLine ∧ ∀ p, H p = none → Q (.ref p) (upd H p (.tup xs))
def NewL (xs : List V) (H : Hp) (Q : VK) : Prop := xs.length ≤ sizeLine ∧ ∀ p, H p = none → Q (.ref p) (upd H p (.lst xs))
theorem r_tup {t : TA} (h : t σ H fun xs H1 => NewT xs H1 Q) : tTup t σ H Q := h
theorem r_lst {t : TA} (h : t σ H fun xs H1 => NewL xs H1 Q) : tLst t σ H Q := h
theorem r_newT {xs : List V} (hl : xs.length ≤ 100000) (h : ∀ p H2, H p = none → Same H H2 → H2 p = some (.tup xs) → Q (.ref p) H2) : NewT xs H Q :=
  ⟨Nat.le_trans hl (by decide), fun p hp => h p _ hp (ex_new hp) upd_same⟩
theorem r_newL {xs : List V} (hl : xs.length ≤ 100000) (h : ∀ p H2, H p = none → Same H H2 → H2 p = some (.lst xs) → Q (.ref p) H2) : NewL xs H Q :=
  ⟨Nat.le_trans hl (by decide), fun p hp => h p _ hp (ex_new hp) upd_same⟩
theorem r_sl {r : V → Option Int → Option Int → Hp → VK → Prop} {tl th : TO} (h : te σ H fun x H1 => tl σ H1 fun l H2 => th σ H2 fun u H3 => r x l u H3 Q) : tSl r te tl th σ H Q := h
theorem r_noPart (q : QO none H) : tNoPart σ H QO := q
theorem r_part (h : te σ H fun x H1 => ∃ i, x = .int i ∧ QO (some i) H1) : tPart te σ H QO := h
theorem r_andV (h : ta σ H fun x H1 => ∃ c, x = .bl c ∧ if c = true then tb σ H1 Q else Q (.bl false) H1) : tAndV ta tb σ H Q := h
theorem r_orV (h : ta σ H fun x H1 => ∃ c, x = .bl c ∧ if c = true then Q (.bl true) H1 else tb σ H1 Q) : tOrV ta tb σ H Q := h
theorem r_notV (h : ta σ H fun x H1 => ∃ c, x = .bl c ∧ Q (.bl (!c)) H1) : tNotV ta σ H Q := h
theorem r_test (h : te σ H fun x H' => ∃ k, x = .bl k ∧ QT k H') : tTest te σ H QT := h
theorem r_tB (h : te σ H fun x H' => ∃ k, x = .bl k ∧ QT k H') : tB te σ H QT := h
theorem r_and (h : t σ H fun c H1 => if c = true then u σ H1 QT else QT false H1) : tAnd t u σ H QT := h
theorem r_or (h : t σ H fun c H1 => if c = true then QT true H1 else u σ H1 QT) : tOr t u σ H QT := h
theorem r_not (h : t σ H fun c H1 => QT (!c) H1) : tNot t σ H QT := h
theorem r_chain {r r' : R2} (h : ta σ H fun x H1 => tb σ H1 fun y H2 => r x y H2 fun z H3 => ∃ k, z = .bl k ∧ if k = true then tc σ H3 fun z' H4 => r' y z' H4 Q else Q (.bl false) H3) : tChain r r' ta tb tc σ H Q := h
theorem r_bl {b : Bool} {QB : Bool → Prop} (q : QB b) : ∃ k, V.bl b = .bl k ∧ QB k := ⟨b, rfl, q⟩
theorem r_I0 {g : Int → Int → V} {a b : Int} (q : Q (g a b) H) : rI0 g (.int a) (.int b) H Q := ⟨a, b, rfl, rfl, q⟩
theorem r_I {C : Int → Int → Prop} {g : Int → Int → V} {a b : Int} (c : C a b) (q : Q (g a b) H) : rI C g (.int a) (.int b) H Q := ⟨a, b, rfl, rfl, c, q⟩
theorem r_U {g : Int → V} {a : Int} (q : Q (g a) H) : rU g (.int a) H Q := ⟨a, rfl, q⟩
theorem r_eqI {a b : Int} (q : Q (.bl (decide (a = b))) H) : rEq (.int a) (.int b) H Q := ⟨rfl, by
  have e : decide (V.int a = V.int b) = decide (a = b) := decide_eq_decide.mpr ⟨fun z => V.int.inj z, fun z => by rw [z]⟩
  rw [e]; exact q⟩
theorem r_neI {a b : Int} (q : Q (.bl (!decide (a = b))) H) : rNe (.int a) (.int b) H Q := ⟨rfl, by
  have e : decide (V.int a = V.int b) = decide (a = b) := decide_eq_decide.mpr ⟨fun z => V.int.inj z, fun z => by rw [z]⟩
  rw [e]; exact q⟩
theorem r_eqS {a b : Str} (q : Q (.bl (decide (a = b))) H) : rEq (.str a) (.str b) H Q := ⟨rfl, by
  have e : decide (V.str a = V.str b) = decide (a = b) := decide_eq_decide.mpr ⟨fun z => V.str.inj z, fun z => by rw [z]⟩
  rw [e]; exact q⟩
theorem r_neS {a b : Str} (q : Q (.bl (!decide (a = b))) H) : rNe (.str a) (.str b) H Q := ⟨rfl, by
  have e : decide (V.str a = V.str b) = decide (a = b) := decide_eq_decide.mpr ⟨fun z => V.str.inj z, fun z => by rw [z]⟩
  rw [e]; exact q⟩
theorem r_eqB {a b : Bool} (q : Q (.bl (decide (a = b))) H) : rEq (.bl a) (.bl b) H Q := ⟨rfl, by
  have e : decide (V.bl a = V.bl b) = decide (a = b) := decide_eq_decide.mpr ⟨fun z => V.bl.inj z, fun z => by rw [z]⟩
  rw [e]; exact q⟩
theorem r_neB {a b : Bool} (q : Q (.bl (!decide (a = b))) H) : rNe (.bl a) (.bl b) H Q := ⟨rfl, by
  have e : decide (V.bl a = V.bl b) = decide (a = b) := decide_eq_decide.mpr ⟨fun z => V.bl.inj z, fun z => by rw [z]⟩
  rw [e]; exact q⟩
theorem r_lenS {z : Str} (hz : z.length ≤ 100000) (q : Q (.int (z.length : Int)) H) : rLenS [.str z] H Q := ⟨z, rfl, Nat.le_trans hz (by decide), q⟩
theorem r_lenT {p : Addr} {ys : List V} (h : SqT K H p ys) (q : Q (.int (ys.length : Int)) H) : rLenQ K [.ref p] H Q := ⟨p, ys, rfl, .inr h, q⟩
theorem r_lenL {p : Addr} {ys : List V} (h : SqL K H p ys) (q : Q (.int (ys.length : Int)) H) : rLenQ K [.ref p] H Q := ⟨p, ys, rfl, .inl h, q⟩
theorem r_int {n : Int} (q : Q (.int n) H) : rInt [.int n] H Q := .inl ⟨n, rfl, q⟩
theorem r_addS {x y : Str} (hz : x.length + y.length ≤ 100000) (q : Q (.str (x ++ y)) H) : rAddS (.str x) (.str y) H Q := ⟨x, y, rfl, rfl, Nat.le_trans hz (by decide), q⟩
theorem r_inS {c : Nat} {z : Str} (q : Q (.bl (decide (c ∈ z.cps.toList))) H) : rInS (.str ⟨#[c]⟩) (.str z) H Q := ⟨c, z, rfl, rfl, q⟩
theorem r_notInS {c : Nat} {z : Str} (q : Q (.bl (!decide (c ∈ z.cps.toList))) H) : rNotInS (.str ⟨#[c]⟩) (.str z) H Q := ⟨c, z, rfl, rfl, q⟩
theorem r_tupOf {p : Addr} {ys : List V} (h : SqL K H p ys) (q : ∀ l H2, H l = none → Same H H2 → H2 l = some (.tup ys) → Q (.ref l) H2) : rTupOf K [.ref p] H Q := ⟨p, ys, rfl, .inl ⟨h, fun l hl => q l _ hl (ex_new hl) upd_same⟩⟩
theorem r_tupOfT {p : Addr} {ys : List V} (h : SqT K H p ys) (q : Q (.ref p) H) : rTupOf K [.ref p] H Q := ⟨p, ys, rfl, .inr ⟨h, q⟩⟩
theorem r_listOf {p : Addr} {ys : List V} (h : SqL K H p ys ∨ SqT K H p ys) (q : ∀ l H2, H l = none → Same H H2 → H2 l = some (.lst ys) → Q (.ref l) H2) : rListOf K [.ref p] H Q := ⟨p, ys, rfl, h, fun l hl => q l _ hl (ex_new hl) upd_same⟩
theorem r_ixL {p : Addr} {xs : List V} {i : Int} (h : SqL K H p xs) (ha : atI xs i = some v) (q : Q v H) : rIxL K (.ref p) (.int i) H Q := ⟨p, xs, i, v, rfl, rfl, h, ha, q⟩
theorem r_ixT {p : Addr} {xs : List V} {i : Int} (h : SqT K H p xs) (ha : atI xs i = some v) (q : Q v H) : rIxT K (.ref p) (.int i) H Q := ⟨p, xs, i, v, rfl, rfl, h, ha, q⟩
theorem r_ixS {z : Str} {i : Int} {c : Nat} (hz : z.length ≤ 100000) (ha : atI z.cps.toList i = some c) (q : Q (.str ⟨#[c]⟩) H) : rIxS (.str z) (.int i) H Q := ⟨z, i, c, rfl, rfl, Nat.le_trans hz (by decide), ha, q⟩
theorem r_bm {T : String} {r : V → List V → Hp → VK → Prop} {to : TE} {t : TA} (h : to σ H fun x H1 => tyV K T x H1 ∧ t σ H1 fun xs H2 => r x xs H2 Q) : tBM K T r to t σ H Q := h
/-- xs.append(y) -/
theorem r_append {l : Addr} {xs : List V} {t : TA} (h : H l = some (.lst xs)) (h2 : t σ H fun vs H2 => rAppend (.ref l) vs H2 Q) : tyV K "list" (.ref l) H ∧ t σ H fun vs H2 => rAppend (.ref l) vs H2 Q := ⟨.inl ⟨rfl, _, SqL.of h⟩, h2⟩
theorem r_append1 {l : Addr} {xs : List V} {y : V} (h : H l = some (.lst xs)) (hz : xs.length < 100000) (q : ∀ H2, But l H H2 → H2 l = some (.lst (xs ++ [y])) → Q .non H2) : rAppend (.ref l) [y] H Q := ⟨l, xs, y, rfl, rfl, h, Nat.lt_of_lt_of_le hz (by decide), q _ But.upd upd_same⟩
theorem r_sub {to ti : TE} {r : TSet} {Q : L2.St → Hp → Prop} (h : to σ H fun o H1 => ti σ H1 fun i H2 => r o i v H2 fun H3 => Q σ H3) : gSub to ti r v σ H Q := h
theorem r_setL {p : Addr} {xs : List V} {k : Int} {j : Nat} {Q : Hp → Prop} (h : H p = some (.lst xs)) (hj : ixN xs.length k = some j) (q : ∀ H2, But p H H2 → H2 p = some (.lst (xs.set j v)) → Q H2) : rSetL (.ref p) (.int k) v H Q := ⟨p, xs, k, j, rfl, rfl, h, hj, q _ But.upd upd_same⟩
def UpR (x : V) (H : Hp) (Q : VK) : Prop := (∃ a, x = .str a) ∧ ∃ a, x = .str a ∧ ([] : List V) = [] ∧ a.length ≤ 5592405 ∧ Q (.str (Txt.upper a)) H
theorem r_up {to : TE} (h : to σ H fun x H1 => UpR x H1 Q) : tUp to σ H Q := h
theorem r_up1 {z : Str} (hz : z.length ≤ 100000) (q : Q (.str (Txt.upper z)) H) : UpR (.str z) H Q := ⟨⟨z, rfl⟩, z, rfl, rfl, Nat.le_trans hz (by decide), q⟩
def LowR (x : V) (H : Hp) (Q : VK) : Prop := (∃ a, x = .str a) ∧ ∃ a, x = .str a ∧ ([] : List V) = [] ∧ a.length ≤ 5592405 ∧ Q (.str (Txt.lower a)) H
theorem r_low {to : TE} (h : to σ H fun x H1 => LowR x H1 Q) : tLow to σ H Q := h
theorem r_low1 {z : Str} (hz : z.length ≤ 100000) (q : Q (.str (Txt.lower z)) H) : LowR (.str z) H Q := ⟨⟨z, rfl⟩, z, rfl, rfl, Nat.le_trans hz (by decide), q⟩
theorem r_slS {z : Str} {lo hi : Option Int} (hz : z.length ≤ 100000) (q : Q (.str (cutS z lo hi)) H) : rSlS (.str z) lo hi H Q := ⟨z, rfl, Nat.le_trans hz (by decide), q⟩
/-! statements -/
variable {a b' c d : L2.St → Hp → Prop} {b : VK} {t1 t2 : TS}
theorem r_seq (h : t1 ⟨t2 ⟨a, b, c, d⟩, b, c, d⟩ σ H) : tSeq t1 t2 ⟨a, b, c, d⟩ σ H := h
theorem r_next (h : a σ H) : tNext ⟨a, b, c, d⟩ σ H := h
theorem r_brk (h : c σ H) : tBreak ⟨a, b, c, d⟩ σ H := h
theorem r_cont (h : d σ H) : tCont ⟨a, b, c, d⟩ σ H := h
theorem r_asgN (h : te σ H fun x H1 => a (σ.set i (some x)) H1) : tAsg te (gName i) ⟨a, b, c, d⟩ σ H := h
theorem r_asg {g : TG} (h : te σ H fun x H1 => g x σ H1 a) : tAsg te g ⟨a, b, c, d⟩ σ H := h
theorem r_gName {Q : L2.St → Hp → Prop} (h : Q (σ.set i (some v)) H) : gName i v σ H Q := h
theorem r_ret (h : te σ H b) : tRet te ⟨a, b, c, d⟩ σ H := h
theorem r_retN (h : b .non H) : tRetN ⟨a, b, c, d⟩ σ H := h
theorem r_drop (h : te σ H fun _ H1 => a σ H1) : tDrop te ⟨a, b, c, d⟩ σ H := h
theorem r_ifS (h : t σ H fun k H1 => if k = true then t1 ⟨a, b, c, d⟩ σ H1 else t2 ⟨a, b, c, d⟩ σ H1) : tIfS t t1 t2 ⟨a, b, c, d⟩ σ H := h
end
/-! ### loops -/
section
variable {σ : L2.St} {H : Hp} {te : TE} {ta : TA} {a c d : L2.St → Hp → Prop} {b : VK} {tb : TS} {j : Nat} {K : PySem.W.Frag} {g : TG}
theorem for_str {x : Str} {g : TG} {D : Ends} (Pv : Nat → L2.St → Hp → Prop) (h0 : Pv 0 σ H)
    (hs : ∀ i k σ H, x.cps[i]? = some k → Pv i σ H → g (.str ⟨#[k]⟩) σ H fun σ2 H2 => tb { D with nx := Pv (i + 1), ct := Pv (i + 1), bk := D.nx } σ2 H2) (hd : ∀ σ H, Pv x.cps.size σ H → D.nx σ H) :
    ∃ W : Nat → Nat → L2.St → Hp → Prop, (∃ m, W 0 m σ H) ∧ ∀ i m σ H, W i m σ H →
      ((Its x).stop i H ∧ D.nx σ H) ∨ ((Its x).go i H ∧ ∃ N : L2.St → Hp → Prop, (∀ σ' H', N σ' H' → ∃ m', m' < m ∧ W (i + 1) m' σ' H') ∧ ∀ y H', (Its x).yld i H y H' → g y σ H' fun σ2 H2 => tb { D with nx := N, ct := N, bk := D.nx } σ2 H2) := by
  refine ⟨fun i m σ H => m = x.cps.size - i ∧ i ≤ x.cps.size ∧ Pv i σ H, ⟨x.cps.size, by simp, Nat.zero_le _, h0⟩, ?_⟩
  rintro i m σ H ⟨rfl, hi, p⟩
  by_cases hlt : i < x.cps.size
  · refine .inr ⟨hlt, Pv (i + 1), fun σ' H' p' => ⟨x.cps.size - (i + 1), by omega, rfl, hlt, p'⟩, fun y H' q => ?_⟩
    obtain ⟨rfl, k, hk, rfl⟩ := q
    exact hs i k σ _ hk p
  · have e : i = x.cps.size := by omega
    subst e
    exact .inl ⟨Nat.le_refl _, hd σ H p⟩
def ForR (J : It) (g : TG) (tb : TS) (D : Ends) (σ : L2.St) (H : Hp) : Prop := ∃ W : Nat → Nat → L2.St → Hp → Prop, (∃ m, W 0 m σ H) ∧ ∀ i m σ H, W i m σ H →
  (J.stop i H ∧ D.nx σ H) ∨ (J.go i H ∧ ∃ N : L2.St → Hp → Prop, (∀ σ' H', N σ' H' → ∃ m', m' < m ∧ W (i + 1) m' σ' H') ∧ ∀ x H', J.yld i H x H' → g x σ H' fun σ2 H2 => tb { D with nx := N, ct := N, bk := D.nx } σ2 H2)
theorem r_for {wi : TI} (h : wi σ H fun J H1 => ForR J g tb ⟨a, b, c, d⟩ σ H1) : tFor wi g tb ⟨a, b, c, d⟩ σ H := h
variable {R : It → Hp → Prop}
theorem r_iStr (h : te σ H fun v H1 => ∃ x, v = .str x ∧ R (Its x) H1) : iStr te σ H R := h
theorem r_exI {n : Int} {QS : Int → Prop} (h : QS n) : ∃ y, V.int n = .int y ∧ QS y := ⟨n, rfl, h⟩
theorem r_iStr1 {x : Str} {QS : Str → Prop} (h : QS x) : ∃ y, V.str x = .str y ∧ QS y := ⟨x, rfl, h⟩
theorem r_iList (h : te σ H fun x H1 => ∃ a, x = .ref a ∧ (∃ xs, SqL K H1 a xs) ∧ R (Itl K a) H1) : iList K te σ H R := h
theorem r_iList1 {a : Addr} {QS : Addr → Prop} (xs : List V) (hx : SqL K H a xs) (h : QS a) : ∃ b, V.ref a = .ref b ∧ (∃ xs, SqL K H b xs) ∧ QS b := ⟨a, rfl, ⟨xs, hx⟩, h⟩
theorem r_iTup (h : te σ H fun x H1 => ∃ a, x = .ref a ∧ (∃ xs, SqT K H1 a xs) ∧ R (Itt K a) H1) : iTup K te σ H R := h
theorem r_iTup1 {a : Addr} {QS : Addr → Prop} (xs : List V) (hx : SqT K H a xs) (h : QS a) : ∃ b, V.ref a = .ref b ∧ (∃ xs, SqT K H b xs) ∧ QS b := ⟨a, rfl, ⟨xs, hx⟩, h⟩
theorem r_iRng1 (h : ta σ H fun vs H1 => ∃ j : Int, vs = [.int j] ∧ -(2 ^ 62) ≤ j ∧ j < 2 ^ 62 ∧ R (Itr 0 j.toNat) H1) : iRng1 ta σ H R := h
theorem r_iRng11 {n : Int} {QS : Int → Prop} (h1 : -1000000 ≤ n ∧ n ≤ 1000000) (h : QS n) : ∃ j : Int, [V.int n] = [.int j] ∧ -(2 ^ 62) ≤ j ∧ j < 2 ^ 62 ∧ QS j := ⟨n, rfl, by omega, by omega, h⟩
theorem r_iRng2 (h : ta σ H fun vs H1 => ∃ i j : Int, vs = [.int i, .int j] ∧ (-(2 ^ 62) ≤ i ∧ i < 2 ^ 62 ∧ -(2 ^ 62) ≤ j ∧ j < 2 ^ 62) ∧ R (Itr i (j - i).toNat) H1) : iRng2 ta σ H R := h
theorem r_iRng21 {i n : Int} (h1 : -1000000 ≤ i ∧ i ≤ 1000000 ∧ -1000000 ≤ n ∧ n ≤ 1000000) {QS : Int → Int → Prop} (h : QS i n) : ∃ i' j : Int, [V.int i, V.int n] = [.int i', .int j] ∧ (-(2 ^ 62) ≤ i' ∧ i' < 2 ^ 62 ∧ -(2 ^ 62) ≤ j ∧ j < 2 ^ 62) ∧ QS i' j := ⟨i, n, rfl, by omega, h⟩
/-- the loops, by a word Pv by the turn -/
theorem loopS {x : Str} (Pv : Nat → L2.St → Hp → Prop) (h0 : Pv 0 σ H) (hs : ∀ i k σ' H', x.cps.toList[i]? = some k → Pv i σ' H' → tb ⟨Pv (i + 1), b, a, Pv (i + 1)⟩ (σ'.set j (some (.str ⟨#[k]⟩))) H') (hd : ∀ σ' H', Pv x.cps.toList.length σ' H' → a σ' H') :
    ForR (Its x) (gName j) tb ⟨a, b, c, d⟩ σ H := by
  refine ⟨fun i m σ H => m = x.cps.size - i ∧ i ≤ x.cps.size ∧ Pv i σ H, ⟨x.cps.size, by simp, Nat.zero_le _, h0⟩, ?_⟩
  rintro i m σ H ⟨rfl, hi, p⟩
  by_cases hlt : i < x.cps.size
  · refine .inr ⟨hlt, Pv (i + 1), fun σ' H' p' => ⟨x.cps.size - (i + 1), by omega, rfl, hlt, p'⟩, fun y H' q => ?_⟩
    obtain ⟨rfl, k, hk, rfl⟩ := q
    exact hs i k σ _ (by rw [← hk]; simp) p
  · have e : i = x.cps.size := by omega
    subst e
    exact .inl ⟨Nat.le_refl _, hd σ H (by simpa using p)⟩
theorem loopL {p : Addr} {xs : List V} (Pv : Nat → L2.St → Hp → Prop) (h0 : Pv 0 σ H) (hl : ∀ i σ' H', i ≤ xs.length → Pv i σ' H' → SqL K H' p xs)
    (hs : ∀ i x σ' H', xs[i]? = some x → Pv i σ' H' → g x σ' H' fun σ2 H2 => tb ⟨Pv (i + 1), b, a, Pv (i + 1)⟩ σ2 H2) (hd : ∀ σ' H', Pv xs.length σ' H' → a σ' H') : ForR (Itl K p) g tb ⟨a, b, c, d⟩ σ H :=
  for_list (xs := xs) (D := ⟨a, b, c, d⟩) Pv h0 hl hs hd
theorem loopT {p : Addr} {xs : List V} (Pv : Nat → L2.St → Hp → Prop) (h0 : Pv 0 σ H) (hl : ∀ i σ' H', i ≤ xs.length → Pv i σ' H' → SqT K H' p xs)
    (hs : ∀ i x σ' H', xs[i]? = some x → Pv i σ' H' → g x σ' H' fun σ2 H2 => tb ⟨Pv (i + 1), b, a, Pv (i + 1)⟩ σ2 H2) (hd : ∀ σ' H', Pv xs.length σ' H' → a σ' H') : ForR (Itt K p) g tb ⟨a, b, c, d⟩ σ H :=
  for_tup (xs := xs) (D := ⟨a, b, c, d⟩) Pv h0 hl hs hd
theorem loopR {lo : Int} {n : Nat} (Pv : Nat → L2.St → Hp → Prop) (h0 : Pv 0 σ H)
    (hs : ∀ i σ' H', i < n → Pv i σ' H' → g (.int (lo + i)) σ' H' fun σ2 H2 => tb ⟨Pv (i + 1), b, a, Pv (i + 1)⟩ σ2 H2) (hd : ∀ σ' H', Pv n σ' H' → a σ' H') : ForR (Itr lo n) g tb ⟨a, b, c, d⟩ σ H :=
  for_range (D := ⟨a, b, c, d⟩) Pv h0 hs hd
end
theorem r_ite {b : Bool} {A B : Prop} (h1 : b = true → A) (h2 : b = false → B) : if b = true then A else B := by
  cases b with
  | true => exact h1 rfl
  | false => exact h2 rfl
theorem r_iteD {p : Prop} {_ : Decidable p} {A B : Prop} (h1 : p → A) (h2 : ¬ p → B) : if decide p = true then A else B := by
  by_cases h : p
  · rw [decide_eq_true h]; exact h1 h
  · rw [decide_eq_false h]; exact h2 h
theorem r_iteN {p : Prop} {_ : Decidable p} {A B : Prop} (h1 : ¬ p → A) (h2 : p → B) : if (!decide p) = true then A else B := by
  by_cases h : p
  · rw [decide_eq_true h]; exact h2 h
  · rw [decide_eq_false h]; exact h1 h
theorem r_iteF {A B : Prop} (h : B) : if false = true then A else B := iteF h
theorem r_iteT {A B : Prop} (h : A) : if true = true then A else B := iteT h
/-! ### slices, tuples of texts -/
theorem cutV_whole {xs : List V} {lo hi : Option Int} (h : HT.sIx xs.length 0 lo = 0 ∧ HT.sIx xs.length xs.length hi = xs.length) : cutV xs lo hi = xs := by
  unfold cutV
  rw [h.1, h.2]
  simp
theorem r_slA {K : PySem.W.Frag} {H : Hp} {Q : VK} {a : Addr} {xs : List V} {lo hi : Option Int} (h : SqT K H a xs) (q : ∀ p H2, Same H H2 → SqT K H2 p (cutV xs lo hi) → Q (.ref p) H2) : rSlA K (.ref a) lo hi H Q :=
  ⟨a, xs, rfl, h, fun w => q a H (Same.refl H) (by rw [cutV_whole w]; exact h), fun _ p hp => q p _ (ex_new hp) (SqT.of upd_same)⟩
theorem r_slL {K : PySem.W.Frag} {H : Hp} {Q : VK} {a : Addr} {xs : List V} {lo hi : Option Int} (h : SqL K H a xs) (q : ∀ p H2, H p = none → Same H H2 → H2 p = some (.lst (cutV xs lo hi)) → Q (.ref p) H2) : rSlL K (.ref a) lo hi H Q :=
  ⟨a, xs, rfl, h, fun p hp => q p _ hp (ex_new hp) upd_same⟩
def Asc (z : Str) : Prop := ∀ c ∈ z.cps.toList, c < 128
theorem Asc.ok {z : Str} (h : Asc z) : PyData.strOk z = true := by
  unfold PyData.strOk
  rw [← Array.all_toList, List.all_eq_true]
  intro c hc
  exact decide_eq_true (Nat.lt_of_lt_of_le (h c hc) (by decide))
instance {z : Str} : Decidable (Asc z) := inferInstanceAs (Decidable (∀ c ∈ z.cps.toList, c < 128))
theorem len_app (x y : Str) : (x ++ y).length = x.length + y.length := Str.length_append x y
theorem len_one (c : Nat) : (⟨#[c]⟩ : Str).length = 1 := rfl
theorem cps_app (x y : Str) : (x ++ y).cps.toList = x.cps.toList ++ y.cps.toList := by
  show (x.cps ++ y.cps).toList = _
  simp
theorem len_list (x : Str) : x.cps.toList.length = x.length := by simp [Str.length]
theorem Asc.app {x y : Str} (h : Asc x) (g : Asc y) : Asc (x ++ y) := by
  intro c hc
  rw [cps_app] at hc
  exact (List.mem_append.mp hc).elim (h c) (g c)
theorem Asc.one {c : Nat} (h : c < 128) : Asc ⟨#[c]⟩ := by
  intro d hd
  have : d = c := by simpa using hd
  omega
theorem Asc.mem {z : Str} {c : Nat} (h : Asc z) (hc : c ∈ z.cps.toList) : Asc ⟨#[c]⟩ := .one (h c hc)
theorem Asc.cut {z : Str} (h : Asc z) (lo hi : Option Int) : Asc (cutS z lo hi) := fun c hc => h c (List.mem_of_mem_drop (List.mem_of_mem_take (by simpa [cutS] using hc)))
theorem dpAll_str {K : PySem.W.Frag} {H : Hp} : ∀ xs : List Str, DpAll K H (xs.map V.str) (xs.map PyData.str)
  | [] => .nil
  | x :: xs => .cons (.str x) (dpAll_str xs)
theorem dp_strs {K : PySem.W.Frag} {H : Hp} {a : Addr} {xs : List Str} (h : SqT K H a (xs.map V.str)) : Dp K H (.ref a) (.tuple (xs.map PyData.str)) := .tup h (dpAll_str xs)
theorem canLay_strs : ∀ {xs : List Str}, (∀ x ∈ xs, Asc x) → PyData.canLayAll0 (xs.map PyData.str) = true
  | [], _ => by simp [PyData.canLayAll0]
  | x :: xs, h => by
    have h1 := (h x (List.mem_cons_self)).ok
    have h2 := canLay_strs (xs := xs) fun y hy => h y (List.mem_cons_of_mem _ hy)
    simp [PyData.canLayAll0, PyData.canLay0, h1, h2]
theorem depth_strs : ∀ xs : List Str, PyData.depthAll (xs.map PyData.str) = 0
  | [] => by simp [PyData.depthAll]
  | x :: xs => by simp [PyData.depthAll, PyData.depth, depth_strs xs]
theorem shaped_strs {xs : List Str} (h : ∀ x ∈ xs, Asc x) : SeqAt.shaped (.tuple (xs.map PyData.str)) = true := by
  unfold SeqAt.shaped
  rw [Bool.and_eq_true]
  refine ⟨by simp only [PyData.canLay0]; exact canLay_strs h, decide_eq_true ?_⟩
  simp [PyData.depth, depth_strs xs]
theorem eqvAll_strs : ∀ xs ys : List Str, PyData.eqvAll (xs.map PyData.str) (ys.map PyData.str) = decide (xs = ys)
  | [], [] => by simp [PyData.eqvAll]
  | [], _ :: _ => by simp [PyData.eqvAll]
  | _ :: _, [] => by simp [PyData.eqvAll]
  | x :: xs, y :: ys => by
    simp only [List.map_cons, PyData.eqvAll, PyData.eqv, eqvAll_strs xs ys]
    by_cases h : x = y <;> by_cases h' : xs = ys <;> simp [h, h']
theorem r_eqD {K : PySem.W.Frag} {H : Hp} {Q : VK} {x y : V} {d e : PyData} (hd : Dp K H x d) (he : Dp K H y e) (sd : SeqAt.shaped d = true) (se : SeqAt.shaped e = true) (q : Q (.bl (PyData.eqv d e)) H) : rEqD K x y H Q := ⟨d, e, hd, he, sd, se, q⟩
theorem r_eqTS {K : PySem.W.Frag} {H : Hp} {Q : VK} {a b : Addr} {xs ys : List Str} (h1 : SqT K H a (xs.map V.str)) (h2 : SqT K H b (ys.map V.str)) (o1 : ∀ x ∈ xs, Asc x) (o2 : ∀ x ∈ ys, Asc x) (q : Q (.bl (decide (xs = ys))) H) : rEqD K (.ref a) (.ref b) H Q := by
  refine r_eqD (dp_strs h1) (dp_strs h2) (shaped_strs o1) (shaped_strs o2) ?_
  have e : PyData.eqv (.tuple (xs.map PyData.str)) (.tuple (ys.map PyData.str)) = decide (xs = ys) := by
    simp only [PyData.eqv]
    exact eqvAll_strs xs ys
  rw [e]
  exact q
theorem cutV_strs (xs : List Str) (lo hi : Option Int) : cutV (xs.map V.str) lo hi = ((xs.drop (HT.sIx xs.length 0 lo)).take (HT.sIx xs.length xs.length hi - HT.sIx xs.length 0 lo)).map V.str := by
  unfold cutV
  rw [List.length_map, List.map_take, List.map_drop]
theorem But.step {l p : Addr} {H H1 H2 : Hp} (a : But l H H1) (b : But p H1 H2) (h : H p = none) : But l H H2 := fun c o n hc => b c o (ne_of_none hc h) (a c o n hc)
theorem But.same' {l : Addr} {H H1 H2 : Hp} (a : But l H H1) (b : Same H1 H2) : But l H H2 := fun c o n hc => b c o (a c o n hc)
theorem But.pre {l : Addr} {H H1 H2 : Hp} (a : Same H H1) (b : But l H1 H2) : But l H H2 := fun c o n hc => b c o n (a c o hc)
theorem But.drop {l : Addr} {H H1 : Hp} (b : But l H H1) (h : H l = none) : Same H H1 := fun c o hc => b c o (ne_of_none hc h) hc
/-- an item at a place in bounds -/
theorem atI_in {α : Type} {xs : List α} {i : Int} (h0 : 0 ≤ i) (h1 : i < (xs.length : Int)) : ∃ v, v ∈ xs ∧ atI xs i = some v ∧ xs[i.toNat]? = some v := by
  obtain ⟨n, rfl⟩ := Int.eq_ofNat_of_zero_le h0
  have hk : n < xs.length := by omega
  exact ⟨xs[n], List.getElem_mem hk, atI_nat (List.getElem?_eq_getElem hk), List.getElem?_eq_getElem hk⟩
theorem ixN_in {n : Nat} {i : Int} (h0 : 0 ≤ i) (h1 : i < (n : Int)) : ixN n i = some i.toNat := by
  unfold ixN
  rw [if_pos h0, if_pos (by omega)]
theorem map_get {α : Type} {f : α → V} {xs : List α} {i : Nat} {x : V} (h : (xs.map f)[i]? = some x) : ∃ y, xs[i]? = some y ∧ x = f y := by
  rw [List.getElem?_map] at h
  cases e : xs[i]? with
  | none => rw [e] at h; cases h
  | some y => rw [e] at h; exact ⟨y, rfl, (Option.some.inj h).symm⟩
/-! ### a law's source of draws -/
def Src (H : Hp) (a : Addr) : Prop := ∃ x y z : Int, H a = some (.lst [.int x, .int y, .int z]) ∧ (y = 0 ∨ (0 ≤ x ∧ x < 2147483648 ∧ 0 ≤ z ∧ z < 2147483648))
theorem Src.lst {H : Hp} {a : Addr} (h : Src H a) : ∃ xs, H a = some (.lst xs) := by
  obtain ⟨_, _, _, h, _⟩ := h
  exact ⟨_, h⟩
theorem Src.ex {H H' : Hp} {a : Addr} (h : Src H a) (e : Same H H') : Src H' a := by
  obtain ⟨x, y, z, h, r⟩ := h
  exact ⟨x, y, z, e _ _ h, r⟩
theorem Src.but {H H' : Hp} {a l : Addr} (h : Src H a) (e : But l H H') (n : a ≠ l) : Src H' a := by
  obtain ⟨x, y, z, h, r⟩ := h
  exact ⟨x, y, z, e _ _ n h, r⟩
def spDraw : Sp := fun vs H Q _ => ∃ (a : Addr) (m : Int), vs = [.ref a, .int m] ∧ Src H a ∧ 0 < m ∧ m ≤ 1000000 ∧ ∀ H' d, But a H H' → Src H' a → 0 ≤ d → d < m → Q (.int d) H'
def spSource : Sp := fun vs H Q _ => ∃ n : Int, vs = [.int n] ∧ ∀ H' a, Same H H' → H a = none → Src H' a → Q (.ref a) H'
def spCell (K : PySem.W.Frag) : Sp := fun vs H Q _ => ∃ (l : Addr) (ns : List Int) (k : Int), vs = [.ref l, .int k] ∧ SqL K H l (ns.map V.int) ∧ ns.length ≤ 63 ∧ 0 ≤ k ∧ k ≤ 1000000 ∧ ∀ c : Int, Q (.int c) H
theorem r_draw {H : Hp} {Q : VK} {a : Addr} {m : Int} (hs : Src H a) (h0 : 0 < m) (h1 : m ≤ 1000000) (q : ∀ H' d, But a H H' → Src H' a → 0 ≤ d → d < m → Q (.int d) H') : spDraw [.ref a, .int m] H Q E0 := ⟨a, m, rfl, hs, h0, h1, q⟩
/-- a def that draws: what it hands back is as post says -/
def spDrawn (post : Hp → V → Prop) : Sp := fun vs H Q _ => ∃ a : Addr, vs = [.ref a] ∧ Src H a ∧ ∀ H' v, But a H H' → Src H' a → post H' v → Q v H'
theorem r_drawn {post : Hp → V → Prop} {H : Hp} {Q : VK} {a : Addr} (hs : Src H a) (q : ∀ H' v, But a H H' → Src H' a → post H' v → Q v H') : spDrawn post [.ref a] H Q E0 := ⟨a, rfl, hs, q⟩
/-- a text of ASCII signs, of so many signs -/
def SV (lo hi : Nat) (v : V) : Prop := ∃ z : Str, v = .str z ∧ lo ≤ z.length ∧ z.length ≤ hi ∧ Asc z
theorem r_cell {K : PySem.W.Frag} {H : Hp} {Q : VK} {l : Addr} {ns : List Int} {k : Int} (hL : SqL K H l (ns.map V.int)) (hn : ns.length ≤ 63) (h0 : 0 ≤ k) (h1 : k ≤ 1000000) (q : ∀ c : Int, Q (.int c) H) : spCell K [.ref l, .int k] H Q E0 := ⟨l, ns, k, rfl, hL, hn, h0, h1, q⟩
theorem r_source {H : Hp} {Q : VK} {n : Int} (q : ∀ H' a, Same H H' → H a = none → Src H' a → Q (.ref a) H') : spSource [.int n] H Q E0 := ⟨n, rfl, q⟩
theorem r_cat {H : Hp} {Q : VK} {l b : Addr} {xs ys : List V} (h1 : H l = some (.lst xs)) (h2 : H b = some (.lst ys)) (hz : xs.length + ys.length ≤ 100000) (q : ∀ p H2, H p = none → Same H H2 → H2 p = some (.lst (xs ++ ys)) → Q (.ref p) H2) : rCat (.ref l) (.ref b) H Q :=
  ⟨l, b, xs, ys, rfl, rfl, h1, h2, Nat.le_trans hz (by decide), fun p hp => q p _ hp (ex_new hp) upd_same⟩
theorem r_isiB {K : PySem.W.Frag} {H : Hp} {Q : VK} {b r : Bool} {T : String} (h : kitB "bool" T = some r) (q : Q (.bl r) H) : rIsi K [.bl b, .ty T] H Q := ⟨_, _, _, _, r, rfl, .ty T, .base (.bl b), kit_ty h, q⟩
theorem r_isiI {K : PySem.W.Frag} {H : Hp} {Q : VK} {b : Int} {r : Bool} {T : String} (h : kitB "int" T = some r) (q : Q (.bl r) H) : rIsi K [.int b, .ty T] H Q := ⟨_, _, _, _, r, rfl, .ty T, .base (.int b), kit_ty h, q⟩
theorem r_isiS {K : PySem.W.Frag} {H : Hp} {Q : VK} {b : Str} {r : Bool} {T : String} (h : kitB "str" T = some r) (q : Q (.bl r) H) : rIsi K [.str b, .ty T] H Q := ⟨_, _, _, _, r, rfl, .ty T, .base (.str b), kit_ty h, q⟩
theorem r_iteNF {A B : Prop} (h : A) : if (!false) = true then A else B := iteT h
theorem r_iteNT {A B : Prop} (h : B) : if (!true) = true then A else B := iteF h
theorem r_iteDp {p : Prop} {_ : Decidable p} {A B : Prop} (h : p) (a : A) : if decide p = true then A else B := by rw [decide_eq_true h]; exact a
theorem r_iteDn {p : Prop} {_ : Decidable p} {A B : Prop} (h : ¬ p) (b : B) : if decide p = true then A else B := by rw [decide_eq_false h]; exact b
theorem r_iteNp {p : Prop} {_ : Decidable p} {A B : Prop} (h : p) (b : B) : if (!decide p) = true then A else B := by rw [decide_eq_true h]; exact b
theorem r_iteNn {p : Prop} {_ : Decidable p} {A B : Prop} (h : ¬ p) (a : A) : if (!decide p) = true then A else B := by rw [decide_eq_false h]; exact a
end My

set_option Elab.async false
set_option linter.all false
set_option maxRecDepth 100000
set_option maxHeartbeats 4000000
namespace My
open PySem PySem.Spec PyProof.Rows L2
open C8 (tCut pss_cut)
/-! ### t[::-1] of a tuple -/
section
variable {prog : Program} {w : World} {A : Around} {E : Value → Shared → Prop} {s : Shared}
theorem sliceBack {sl : Addr} {vs : Value} {n : Nat} {Q : Int × Int × Nat → Shared → Prop} (hs : s.heap.IsSliceOf sl .none .none vs) (ps : IsPart vs (some (-1))) (h : Q ((n : Int) - 1, -1, n) s) :
    wpAny (model prog w) A (Builtin.Slice.sliceApplied (.ref sl) (pure (n : Int))) Q E s := by
  obtain ⟨o, ho, _, hd⟩ := id hs
  unfold Builtin.Slice.sliceApplied Builtin.Slice.sliceFields
  refine wpAny_bind (wpAny_bind (wpAny_field ho hd (x := .none) rfl (wpAny_bind (wpAny_field ho hd (x := .none) rfl (wpAny_bind (wpAny_field ho hd (x := vs) rfl (wpAny_pure ?_)))))))
  refine wpAny_bind (HT.slicePart_ ps ?_)
  show wpAny _ _ (if ((-1 : Int) == 0) = true then _ else _) _ _ s
  rw [if_neg (by decide)]
  refine wpAny_bind (slicePart_none (wpAny_bind (slicePart_none (wpAny_bind (wpAny_pure ?_)))))
  have e : Builtin.Slice.slicePlaces ((n : Int) - 1) (-1) (-1) = n := by
    unfold Builtin.Slice.slicePlaces
    rw [if_neg (by decide)]
    by_cases hn : (n : Int) - 1 > -1
    · rw [if_pos hn]
      have : -(-1 : Int) = 1 := by decide
      rw [this, Int.ediv_one]
      omega
    · rw [if_neg hn]
      omega
  show wpAny _ _ (pure ((n : Int) - 1, (-1 : Int), Builtin.Slice.slicePlaces ((n : Int) - 1) (-1) (-1))) _ _ s
  rw [e]
  exact wpAny_pure h
theorem fm_congr {α β : Type} {f g : α → Option β} : ∀ {l : List α}, (∀ x ∈ l, f x = g x) → l.filterMap f = l.filterMap g
  | [], _ => rfl
  | x :: l, h => by
    rw [List.filterMap_cons, List.filterMap_cons, h x List.mem_cons_self, fm_congr fun y hy => h y (List.mem_cons_of_mem _ hy)]
theorem backPick (xs : Array Value) : ((List.range xs.size).filterMap fun (m : Nat) => xs[(((xs.size : Nat) : Int) - 1 + (m : Int) * (-1)).toNat]?).toArray = xs.toList.reverse.toArray := by
  have e : (List.range xs.size).filterMap (fun (m : Nat) => xs[(((xs.size : Nat) : Int) - 1 + (m : Int) * (-1)).toNat]?) = (((List.range xs.size).map fun k => xs.size - 1 - k)).filterMap (xs[·]?) := by
    rw [List.filterMap_map]
    refine fm_congr fun m hm => ?_
    have hm := List.mem_range.mp hm
    show _ = xs[xs.size - 1 - m]?
    congr 1
    omega
  rw [e, PySem.W.krv_range, List.filterMap_reverse, PySem.W.krv_all]
theorem getItem_back {t sl : Addr} {items : Array Value} {vs : Value} {Q : Value → Shared → Prop} (ht : IsTup s.heap t items) (hs : s.heap.IsSliceOf sl .none .none vs) (ps : IsPart vs (some (-1)))
    (h : Q (.ref s.heap.objs.size) { s with heap := s.heap.push { cls := .type "tuple", data := .seq items.toList.reverse.toArray } }) (hsz : items.size ≤ sizeLine) : wpAny (model prog w) A (getItem (.ref t) (.ref sl)) Q E s := by
  have htake : sizeOk (.seq items.toList.reverse.toArray) := by
    show items.toList.reverse.toArray.size ≤ sizeLine
    rw [List.size_toArray, List.length_reverse, Array.length_toList]
    exact hsz
  obtain ⟨o, ho, hc, _⟩ := id hs
  have hT : s.TypeIs (.ref sl) "slice" := ⟨o, ho, hc⟩
  unfold getItem
  try with_reducible refine wpAny_holding ?_
  first | refine wpAny_bind (wpAny_pure ?_) | skip
  refine wpAny_bind (wpAny_sequenceKey ht.typeIs (by decide) ?_)
  refine wpAny_bind (wpAny_callSpecial?_slot (name := Str.ofString "__getitem__") ht.typeIs PyProof.Rows.slot_tuple_getitem
    (wpAny_call_entry PyProof.Rows.slot_tuple_getitem ht.typeIs entry_tuple_getitem ?_ (args_tuple_getitem _ _)))
  show wpAny _ _ (Builtin.Tuple.tupleItemsOf (.ref t) >>= _) _ _ s
  refine wpAny_bind (tupleItemsOf_ ht ?_)
  refine wpAny_bind (wpAny_typeOf hT ?_)
  rw [if_pos (by decide)]
  refine wpAny_bind (sliceBack hs ps ?_)
  have hno : ¬ ((((items.size : Nat) : Int) - 1 == 0 && (-1 : Int) == 1 && items.size == items.size) = true) := by
    rw [show ((-1 : Int) == 1) = false from by decide, Bool.and_false, Bool.false_and]
    exact Bool.false_ne_true
  show wpAny _ _ (if (((items.size : Nat) : Int) - 1 == 0 && (-1 : Int) == 1 && items.size == items.size) = true then _ else _) _ _ s
  rw [if_neg hno, backPick]
  first
    | exact wpAny_bind (m := Builtin.Tuple.tupleExact _) (wpAny_newObj_type (wpAny_pure ⟨_, rfl, wpAny_pure h⟩) htake)
    | exact wpAny_bind (m := Builtin.Tuple.tupleExact _) (wpAny_newObj_type (wpAny_bind (wpAny_pure (wpAny_pure ⟨_, rfl, wpAny_pure h⟩))) htake)
    | exact wpAny_bind (wpAny_bind (m := Builtin.Tuple.tupleExact _) (wpAny_newObj_type (wpAny_pure (wpAny_pure ⟨_, rfl, wpAny_pure h⟩)) htake))
    | exact wpAny_bind (wpAny_bind (m := Builtin.Tuple.tupleExact _) (wpAny_newObj_type (wpAny_pure ⟨_, rfl, wpAny_pure h⟩) htake))
end
section
variable {X : Cx}
def rBackT (K : PySem.W.Frag) : V → Hp → VK → Prop := fun x H Q => ∃ a xs, x = .ref a ∧ SqT K H a xs ∧ ∀ p, H p = none → Q (.ref p) (upd H p (.tup xs.reverse))
theorem pe_backT {e : Expr} {te : TE} {k : Nat} {p1 p2 p3 pos : Pos} (he : PE X e te) : PE X (.Subscript e (.Slice none none (some (.UnaryOp .USub (.Constant (.int 1) k p1) p2)) p3) pos) (tUn (rBackT X.K) te) := by
  refine ⟨fun pins s σ H Q I h => Subscript_ (thn (he.run pins s σ H _ I h) fun v s1 ⟨x, H1, I1, r1, q1⟩ => ?_)⟩
  obtain ⟨a, xs, rfl, hx, q⟩ := q1
  cases r1
  have hst : PO X (some (.UnaryOp .USub (.Constant (.int 1) k p1) p2)) (tPart (tUn (rU fun i => .int (-i)) (tC (.int 1)))) := po_some (pe_un un_neg pe_int)
  refine wpAny_Slice (thn (po_none.run pins s1 σ H1 (fun o H2 => o = none ∧ H2 = H1) I1 ⟨rfl, rfl⟩) fun vl s2 ⟨l, H2, I2, pl, el, e2⟩ => ?_)
  subst el e2
  refine thn (po_none.run pins s2 σ H2 (fun o H3 => o = none ∧ H3 = H2) I2 ⟨rfl, rfl⟩) fun vu s3 ⟨u, H3, I3, pu, eu, e3⟩ => ?_
  subst eu e3
  refine thn (hst.run pins s3 σ H3 (fun o H4 => o = some (-1) ∧ H4 = H3) I3 ⟨1, rfl, -1, rfl, rfl, rfl⟩) fun vs s4 ⟨o, H4, I4, ps, eo, e4⟩ => ?_
  subst eo e4
  have I5 : Inv X pins σ H4 { s4 with heap := s4.heap.push { cls := .type "slice", data := .fields #[vl, vu, vs] } } := I4.kept (t' := s4.toks) fun b ob q => Heap.get?_push_of_some _ q
  obtain ⟨its, r, ht, hz⟩ := I5.tuple hx
  cases pl
  cases pu
  show wpAny (model X.prog X.w) X.A (subscriptTail e (.Slice none none (some (.UnaryOp .USub (.Constant (.int 1) k p1) p2)) p3) (.ref a) (.ref s4.heap.objs.size)) (EP X pins σ Q) X.xe { s4 with heap := s4.heap.push { cls := .type "slice", data := .fields #[.none, .none, vs] } }
  refine tail_any (ops := [.ref a, .ref s4.heap.objs.size]) ht.typeIs (PyProof.Rows.slot_tuple_getitem.lookup) ?_ (by with_unfolding_all rfl)
  refine getItem_back ht (Heap.IsSliceOf.new _ .none .none vs) ps ?_ (by have := r.length; rw [List.size_toArray]; omega)
  refine ⟨.ref _, _, I5.laid (t' := s4.toks) (o := .tup xs.reverse) (fun b ob q => Heap.get?_push_of_some _ q) (Nat.le_refl _) ?_, rfl, q _ (I5.hok.fresh (Nat.le_refl _))⟩
  exact ⟨by rw [List.length_reverse]; have := r.length; omega, _, r.reverse, IsTup.new _ _⟩
/-! ### text * int -/
theorem rep_cps (c : Array Nat) : ∀ (k : Nat) (acc : Array Nat), (∀ x ∈ ((List.replicate k c).foldl (· ++ ·) acc).toList, x ∈ acc.toList ∨ x ∈ c.toList)
  | 0, acc => fun x hx => .inl hx
  | k + 1, acc => fun x hx => by
    rw [List.replicate_succ, List.foldl_cons] at hx
    rcases rep_cps c k _ x hx with h | h
    · rw [Array.toList_append] at h
      exact List.mem_append.mp h
    · exact .inr h
def rMulS : R2 := fun x y H Q => ∃ (z : Str) (n : Int), x = .str z ∧ y = .int n ∧ z.length ≤ 100 ∧ 0 ≤ n ∧ n ≤ 1000 ∧ ∀ y : Str, y.length = z.length * n.toNat → (∀ c ∈ y.cps.toList, c ∈ z.cps.toList) → Q (.str y) H
theorem oMulS : OpR X (binaryOp .Mult) rMulS := by
  intro pins s σ H x y v u Q I rx ry h
  obtain ⟨z, n, rfl, rfl, hz, h0, h1, q⟩ := h
  obtain ⟨t, rfl⟩ := rx
  obtain ⟨t', rfl⟩ := ry
  have hm : z.length * n.toNat ≤ 100 * 1000 := Nat.mul_le_mul hz (by omega)
  refine P.mul_str (by rw [decide_eq_false (by omega), decide_eq_false (by omega)]; rfl) (fun a b => ?_) (fun a b => ?_) ?_
  · have hn : (2 ^ 63 - 1) / n ≥ (2 ^ 63 - 1) / 1000 := by
      refine Int.le_ediv_of_mul_le (by omega) ?_
      have : (2 ^ 63 - 1) / 1000 * n ≤ (2 ^ 63 - 1) / 1000 * 1000 := Int.mul_le_mul_of_nonneg_left h1 (by decide)
      exact Int.le_trans this (by decide)
    have hb : (2 ^ 63 - 1) / 1000 ≥ (100 : Int) := by decide
    omega
  · unfold Builtin.Str.tooLong
    refine decide_eq_false ?_
    have : 100 * 1000 ≤ sizeLine := by decide
    omega
  · by_cases c1 : n < 1
    · rw [if_pos c1]
      refine ⟨Nat.zero_le _, .str Str.empty, H, I.tok _, ⟨_, rfl⟩, q _ ?_ ?_⟩
      · have : n.toNat = 0 := by omega
        rw [this]; rfl
      · intro c hc; cases hc
    · rw [if_neg c1]
      by_cases c2 : (n == 1 || z.length == 0) = true
      · rw [if_pos c2]
        refine ⟨.str z, H, I, ⟨_, rfl⟩, q _ ?_ (fun c hc => hc)⟩
        rw [Bool.or_eq_true, beq_iff_eq, beq_iff_eq] at c2
        rcases c2 with c2 | c2
        · rw [c2]; simp
        · rw [c2]; simp
      · rw [if_neg c2]
        refine ⟨?_, .str _, H, I.tok _, ⟨_, rfl⟩, q _ ?_ ?_⟩
        · show ((List.replicate n.toNat z.cps).foldl (· ++ ·) #[]).size ≤ sizeLine
          rw [size_reps, Nat.mul_comm]
          show 0 + z.length * n.toNat ≤ sizeLine
          have : 100 * 1000 ≤ sizeLine := by decide
          omega
        · show ((List.replicate n.toNat z.cps).foldl (· ++ ·) #[]).size = _
          rw [size_reps]
          show 0 + n.toNat * z.length = _
          rw [Nat.zero_add, Nat.mul_comm]
        · intro c hc
          exact (rep_cps z.cps n.toNat #[] c hc).resolve_left (by simp)
end
section
variable {σ : L2.St} {H : Hp} {Q : VK} {K : PySem.W.Frag}
theorem r_mulS {z : Str} {n : Int} (hz : z.length ≤ 100) (h0 : 0 ≤ n ∧ n ≤ 1000) (q : ∀ y : Str, y.length = z.length * n.toNat → (∀ c ∈ y.cps.toList, c ∈ z.cps.toList) → Q (.str y) H) : rMulS (.str z) (.int n) H Q := ⟨z, n, rfl, rfl, hz, h0.1, h0.2, q⟩
theorem r_backT {a : Addr} {xs : List V} (h : SqT K H a xs) (q : ∀ p H2, H p = none → Same H H2 → H2 p = some (.tup xs.reverse) → Q (.ref p) H2) : rBackT K (.ref a) H Q := ⟨a, xs, rfl, h, fun p hp => q p _ hp (ex_new hp) upd_same⟩
/-! ### data as a whole -/
theorem isiT_of {a : Addr} {xs : List V} (h : SqT K H a xs) : TyX K H (.ref a) (.type "tuple") := by
  rcases h with (h | ⟨o, h⟩) | h
  · exact .base (.tup h)
  · exact .fTuple h
  · obtain ⟨o, _, _, hk, hc, _⟩ := h
    exact .kTuple hk hc
theorem r_isiT {a : Addr} {xs : List V} {r : Bool} {T : String} (hx : SqT K H a xs) (h : kitB "tuple" T = some r) (q : Q (.bl r) H) : rIsi K [.ref a, .ty T] H Q := ⟨_, _, _, _, r, rfl, .ty T, isiT_of hx, kit_ty h, q⟩
mutual
/-- whole numbers, texts, tuples of such -/
def pureD : PyData → Bool
  | .int _ => true
  | .str x => PyData.strOk x
  | .tuple xs => decide (xs.length ≤ 10000) && pureAll xs
  | .none => false
  | .bool _ => false
  | .list _ => false
  | .dict _ => false
def pureAll : List PyData → Bool
  | [] => true
  | x :: xs => pureD x && pureAll xs
end
theorem pureAll_iff : ∀ xs : List PyData, pureAll xs = true ↔ ∀ x ∈ xs, pureD x = true
  | [] => by simp [pureAll]
  | x :: xs => by simp [pureAll, pureAll_iff xs]
mutual
theorem canLay_pure : ∀ d : PyData, pureD d = true → d.canLay0 = true
  | .int _, _ => by simp [PyData.canLay0]
  | .str x, h => by simpa [PyData.canLay0, pureD] using h
  | .tuple xs, h => by
    simp only [PyData.canLay0]
    exact canLay_pureAll xs (by simp [pureD] at h; exact h.2)
  | .none, h => by simp [pureD] at h
  | .bool _, h => by simp [pureD] at h
  | .list _, h => by simp [pureD] at h
  | .dict _, h => by simp [pureD] at h
theorem canLay_pureAll : ∀ xs : List PyData, pureAll xs = true → PyData.canLayAll0 xs = true
  | [], _ => by simp [PyData.canLayAll0]
  | x :: xs, h => by
    have h' : pureD x = true ∧ pureAll xs = true := by simpa [pureAll] using h
    simp [PyData.canLayAll0, canLay_pure x h'.1, canLay_pureAll xs h'.2]
end
theorem shaped_pure {d : PyData} (h : pureD d = true) (hd : d.depth ≤ 64) : SeqAt.shaped d = true := by
  unfold SeqAt.shaped
  rw [canLay_pure d h, decide_eq_true hd]
  rfl
theorem depth_mem : ∀ {xs : List PyData} {x : PyData}, x ∈ xs → x.depth ≤ PyData.depthAll xs
  | y :: xs, x, h => by
    simp only [PyData.depthAll]
    rcases List.mem_cons.mp h with rfl | h
    · omega
    · have := depth_mem h; omega
theorem dpAll_len {xs : List V} : ∀ {ds : List PyData}, DpAll K H xs ds → xs.length = ds.length := by
  induction xs with
  | nil => intro ds h; cases h; rfl
  | cons x xs ih =>
    intro ds h
    cases h with
    | cons _ t => simp [ih t]
theorem dpAll_get {xs : List V} : ∀ {ds : List PyData} {i : Nat} {d : PyData}, DpAll K H xs ds → ds[i]? = some d → ∃ v, xs[i]? = some v ∧ Dp K H v d := by
  induction xs with
  | nil => intro ds i d h e; cases h; simp at e
  | cons x xs ih =>
    intro ds i d h e
    cases h with
    | cons a t =>
      cases i with
      | zero => simp at e; subst e; exact ⟨x, rfl, a⟩
      | succ i => simpa using ih t (by simpa using e)
theorem eqvAll_no : ∀ {ds es : List PyData} {i : Nat} {d e : PyData}, ds[i]? = some d → es[i]? = some e → PyData.eqv d e = false → PyData.eqvAll ds es = false
  | x :: ds, y :: es, 0, d, e, h1, h2, h3 => by
    simp at h1 h2
    subst h1 h2
    simp [PyData.eqvAll, h3]
  | x :: ds, y :: es, i + 1, d, e, h1, h2, h3 => by
    simp only [PyData.eqvAll, eqvAll_no (i := i) (by simpa using h1) (by simpa using h2) h3, Bool.and_false]
theorem eqvAll_yes : ∀ {ds es : List PyData}, ds.length = es.length → (∀ (i : Nat) (d e : PyData), ds[i]? = some d → es[i]? = some e → PyData.eqv d e = true) → PyData.eqvAll ds es = true
  | [], [], _, _ => by simp [PyData.eqvAll]
  | x :: ds, y :: es, hl, h => by
    simp only [PyData.eqvAll, h 0 x y rfl rfl, Bool.true_and]
    exact eqvAll_yes (by simpa using hl) fun i d e h1 h2 => h (i + 1) d e (by simpa using h1) (by simpa using h2)
  | [], _ :: _, hl, _ => by simp at hl
  | _ :: _, [], hl, _ => by simp at hl
def spSame (K : PySem.W.Frag) : Nat → Sp
  | 0 => fun _ _ _ _ => False
  | n + 1 => fun vs H Q _ => ∃ v u d e, vs = [v, u] ∧ Dp K H v d ∧ Dp K H u e ∧ pureD d = true ∧ pureD e = true ∧ e.depth ≤ n ∧ Q (.bl (PyData.eqv d e)) H
theorem fn_false {P : Program} {w : World} {mg : Str → Option Value} {base : Heap} {x : Str} {ps : List Str} {st : Stmt} {k : Nat} (d : Def1 K mg x ps st) : Fn P w K mg base k x ps (fun _ _ _ _ => False) := by
  obtain ⟨f, fd, hm, F, b⟩ := d
  obtain ⟨oc, od, kV, doc, pm, an, cdv, ct, osl, _, lk, _⟩ := F.ex
  exact ⟨f, fd, hm, F.kp, b, ⟨fun _ _ _ _ h => h.elim, fun _ _ _ _ _ _ _ _ _ _ _ _ _ h => h.elim⟩, oc, od, osl, lk⟩
end
/-! ### comprehensions -/
section
variable {σ : L2.St} {H : Hp} {Q : VK} {K : PySem.W.Frag} {g : TG} {tt : TT} {te : TE} {vs : List Nat}
def Yield (D : Addr) (Nx : Hp → Prop) (y : V) (H : Hp) : Prop := ∃ acc, H D = some (.lst acc) ∧ acc.length < sizeLine ∧ Nx (upd H D (.lst (acc ++ [y])))
theorem r_yield {D : Addr} {Nx : Hp → Prop} {y : V} {acc : List V} (h : H D = some (.lst acc)) (hz : acc.length < 100000) (k : ∀ H2, But D H H2 → H2 D = some (.lst (acc ++ [y])) → Nx H2) : Yield D Nx y H :=
  ⟨acc, h, Nat.lt_of_lt_of_le hz (by decide), k _ But.upd upd_same⟩
def LcR (J : It) (g : TG) (tt : TT) (te : TE) (vs : List Nat) (Q : VK) (σ : L2.St) (H1 : Hp) : Prop := ∀ D, H1 D = none → ∃ W : Nat → Nat → Hp → Prop, (∃ m, W 0 m (upd H1 D (.lst []))) ∧ ∀ i m H, W i m H →
  (J.stop i H ∧ Q (.ref D) H) ∨ (J.go i H ∧ ∃ Nx : Hp → Prop, (∀ H', Nx H' → ∃ m', m' < m ∧ W (i + 1) m' H') ∧ ∀ x H', J.yld i H x H' → g x (wipe σ vs) H' fun σ2 H2 => wipe σ2 vs = wipe σ vs ∧ tt σ2 H2 fun b H3 =>
    if b = true then te σ2 H3 fun y H4 => Yield D Nx y H4 else Nx H3)
theorem r_lc {wi : TI} (h : wi σ H fun J H1 => LcR J g tt te vs Q σ H1) : tLc wi g tt te vs σ H Q := h
theorem lcT {a : Addr} {xs : List V} (Pv : Addr → Nat → Hp → Prop) (h0 : ∀ D H2, H D = none → Same H H2 → H2 D = some (.lst []) → Pv D 0 H2) (hl : ∀ D i H', i ≤ xs.length → Pv D i H' → SqT K H' a xs)
    (hs : ∀ D i x H', xs[i]? = some x → Pv D i H' → g x (wipe σ vs) H' fun σ2 H2 => wipe σ2 vs = wipe σ vs ∧ tt σ2 H2 fun b H3 => if b = true then te σ2 H3 fun y H4 => Yield D (Pv D (i + 1)) y H4 else Pv D (i + 1) H3)
    (hd : ∀ D H', Pv D xs.length H' → Q (.ref D) H') : LcR (Itt K a) g tt te vs Q σ H := fun D hD =>
  lc_tup (xs := xs) (Pv D) (h0 D _ hD (ex_new hD) upd_same) (hl D) (hs D) (hd D)
theorem lcL {a : Addr} {xs : List V} (Pv : Addr → Nat → Hp → Prop) (h0 : ∀ D H2, H D = none → Same H H2 → H2 D = some (.lst []) → Pv D 0 H2) (hl : ∀ D i H', i ≤ xs.length → Pv D i H' → SqL K H' a xs)
    (hs : ∀ D i x H', xs[i]? = some x → Pv D i H' → g x (wipe σ vs) H' fun σ2 H2 => wipe σ2 vs = wipe σ vs ∧ tt σ2 H2 fun b H3 => if b = true then te σ2 H3 fun y H4 => Yield D (Pv D (i + 1)) y H4 else Pv D (i + 1) H3)
    (hd : ∀ D H', Pv D xs.length H' → Q (.ref D) H') : LcR (Itl K a) g tt te vs Q σ H := fun D hD =>
  lc_list (xs := xs) (Pv D) (h0 D _ hD (ex_new hD) upd_same) (hl D) (hs D) (hd D)
theorem lcRg {lo : Int} {n : Nat} (Pv : Addr → Nat → Hp → Prop) (h0 : ∀ D H2, H D = none → Same H H2 → H2 D = some (.lst []) → Pv D 0 H2)
    (hs : ∀ D i H', i < n → Pv D i H' → g (.int (lo + i)) (wipe σ vs) H' fun σ2 H2 => wipe σ2 vs = wipe σ vs ∧ tt σ2 H2 fun b H3 => if b = true then te σ2 H3 fun y H4 => Yield D (Pv D (i + 1)) y H4 else Pv D (i + 1) H3)
    (hd : ∀ D H', Pv D n H' → Q (.ref D) H') : LcR (Itr lo n) g tt te vs Q σ H := fun D hD =>
  lc_range (Pv D) (h0 D _ hD (ex_new hD) upd_same) (hs D) (hd D)
theorem r_yes {QT : Bool → Hp → Prop} (q : QT true H) : tYes σ H QT := q
end
/-! ### texts -/
section
variable {X : Cx} {to te : TE}
def tEndsW (to te : TE) : TE := tM1 (fun x xs H Q => ∃ a b, x = .str a ∧ xs = [.str b] ∧ Q (.bl (Txt.endswith a b)) H) to te
theorem pe_endsW {o e : Expr} {apos pos : Pos} (ho : PE X o to) (he : PE X e te) (hs : starEach [e] X.env = [(false, eval e X.env)] := by rfl) (hbase : attributeBase o "endswith" X.env (eval o X.env) = eval o X.env := by rfl) (hline : (apos.endLine == pos.line) = true := by rfl) :
    PE X (.Call (.Attribute o "endswith" apos) [e] [] pos) (tEndsW to te) := pe_m1 PySem.F.slot_str_endswith PySem.F.type_str_endswith mt_endswith ho he hs hbase hline
theorem r_endsW {σ : L2.St} {H : Hp} {Q : VK} (h : to σ H fun x H1 => (∃ a, x = .str a) ∧ te σ H1 fun y H2 => ∃ a b, x = .str a ∧ [y] = [V.str b] ∧ Q (.bl (Txt.endswith a b)) H2) : tEndsW to te σ H Q := h
def tSplit (to te : TE) : TE := tM1 (fun x xs H Q => ∃ a b, x = .str a ∧ xs = [.str b] ∧ (b.length == 0) = false ∧ a.length + 2 ≤ sizeLine ∧ rNewStrs (Txt.split a b) H Q) to te
theorem pe_spl {o e : Expr} {apos pos : Pos} (ho : PE X o to) (he : PE X e te) (hs : starEach [e] X.env = [(false, eval e X.env)] := by rfl) (hbase : attributeBase o "split" X.env (eval o X.env) = eval o X.env := by rfl) (hline : (apos.endLine == pos.line) = true := by rfl) :
    PE X (.Call (.Attribute o "split" apos) [e] [] pos) (tSplit to te) := pe_split ho he hs hbase hline
theorem r_split {σ : L2.St} {H : Hp} {Q : VK} (h : to σ H fun x H1 => (∃ a, x = .str a) ∧ te σ H1 fun y H2 => ∃ a b, x = .str a ∧ [y] = [V.str b] ∧ (b.length == 0) = false ∧ a.length + 2 ≤ sizeLine ∧ rNewStrs (Txt.split a b) H2 Q) : tSplit to te σ H Q := h
theorem r_newStrs {ys : List Str} {H : Hp} {Q : VK} (q : ∀ p H2, H p = none → Same H H2 → H2 p = some (.lst (ys.map V.str)) → Q (.ref p) H2) : rNewStrs ys H Q := fun p hp => q p _ hp (ex_new hp) upd_same
def tJoin (K : PySem.W.Frag) (to te : TE) : TE := tM1 (fun x xs H Q => ∃ a p, ∃ ys : List Str, x = .str a ∧ xs = [.ref p] ∧ (SqL K H p (ys.map V.str) ∨ SqT K H p (ys.map V.str)) ∧ (ys.map (·.length)).sum + ys.length * a.length ≤ 16777216 ∧ Q (.str (Txt.join a ys)) H) to te
theorem pe_joi {o e : Expr} {apos pos : Pos} (ho : PE X o to) (he : PE X e te) (hs : starEach [e] X.env = [(false, eval e X.env)] := by rfl) (hbase : attributeBase o "join" X.env (eval o X.env) = eval o X.env := by rfl) (hline : (apos.endLine == pos.line) = true := by rfl) :
    PE X (.Call (.Attribute o "join" apos) [e] [] pos) (tJoin X.K to te) := pe_join ho he hs hbase hline
theorem r_join {K : PySem.W.Frag} {σ : L2.St} {H : Hp} {Q : VK} (h : to σ H fun x H1 => (∃ a, x = .str a) ∧ te σ H1 fun y H2 => ∃ a p, ∃ ys : List Str, x = .str a ∧ [y] = [V.ref p] ∧ (SqL K H2 p (ys.map V.str) ∨ SqT K H2 p (ys.map V.str)) ∧ (ys.map (·.length)).sum + ys.length * a.length ≤ 16777216 ∧ Q (.str (Txt.join a ys)) H2) : tJoin K to te σ H Q := h
def tAscii (K : PySem.W.Frag) (to : TE) : TE := tBM0 K "str" (fun x xs H Q => ∃ a, x = .str a ∧ xs = [] ∧ True ∧ Q (.bl (Txt.isascii a)) H) to
theorem pe_ascii {o : Expr} {apos pos : Pos} (ho : PE X o to) (hbase : attributeBase o "isascii" X.env (eval o X.env) = eval o X.env := by rfl) (hline : (apos.endLine == pos.line) = true := by rfl) :
    PE X (.Call (.Attribute o "isascii" apos) [] [] pos) (tAscii X.K to) := pe_bm0 PySem.F.plainAttrs_str PySem.F.slot_str_isascii PySem.F.type_str_isascii mt_isascii ho hbase hline
def AscR (K : PySem.W.Frag) (x : V) (H : Hp) (Q : VK) : Prop := tyV K "str" x H ∧ ∃ a, x = .str a ∧ ([] : List V) = [] ∧ True ∧ Q (.bl (Txt.isascii a)) H
theorem r_asc {K : PySem.W.Frag} {σ : L2.St} {H : Hp} {Q : VK} (h : to σ H fun x H1 => AscR K x H1 Q) : tAscii K to σ H Q := h
theorem r_asc1 {K : PySem.W.Frag} {H : Hp} {Q : VK} {z : Str} (q : Q (.bl (Txt.isascii z)) H) : AscR K (.str z) H Q := ⟨rfl, z, rfl, rfl, trivial, q⟩
def RevR (K : PySem.W.Frag) (x : V) (H : Hp) (Q : VK) : Prop := ∃ a xs, x = .ref a ∧ SqL K H a xs ∧ ∀ p, H p = none → Q (.ref p) (upd H p (.lst xs.reverse))
theorem r_revL {K : PySem.W.Frag} {σ : L2.St} {H : Hp} {Q : VK} (h : te σ H fun x H1 => RevR K x H1 Q) : tRevL K te σ H Q := h
theorem r_revL1 {K : PySem.W.Frag} {H : Hp} {Q : VK} {a : Addr} {xs : List V} (hx : SqL K H a xs) (q : ∀ p H2, H p = none → Same H H2 → H2 p = some (.lst xs.reverse) → Q (.ref p) H2) : RevR K (.ref a) H Q := ⟨a, xs, rfl, hx, fun p hp => q p _ hp (ex_new hp) upd_same⟩
end
theorem r_isiBt {K : PySem.W.Frag} {H : Hp} {Q : VK} {b : Bool} {T : String} (h : kitB "bool" T = some true) (q : Q (.bl true) H) : rIsi K [.bl b, .ty T] H Q := r_isiB h q
theorem r_isiBf {K : PySem.W.Frag} {H : Hp} {Q : VK} {b : Bool} {T : String} (h : kitB "bool" T = some false) (q : Q (.bl false) H) : rIsi K [.bl b, .ty T] H Q := r_isiB h q
theorem r_isiIt {K : PySem.W.Frag} {H : Hp} {Q : VK} {b : Int} {T : String} (h : kitB "int" T = some true) (q : Q (.bl true) H) : rIsi K [.int b, .ty T] H Q := r_isiI h q
theorem r_isiIf {K : PySem.W.Frag} {H : Hp} {Q : VK} {b : Int} {T : String} (h : kitB "int" T = some false) (q : Q (.bl false) H) : rIsi K [.int b, .ty T] H Q := r_isiI h q
theorem r_isiSt {K : PySem.W.Frag} {H : Hp} {Q : VK} {b : Str} {T : String} (h : kitB "str" T = some true) (q : Q (.bl true) H) : rIsi K [.str b, .ty T] H Q := r_isiS h q
theorem r_isiSf {K : PySem.W.Frag} {H : Hp} {Q : VK} {b : Str} {T : String} (h : kitB "str" T = some false) (q : Q (.bl false) H) : rIsi K [.str b, .ty T] H Q := r_isiS h q
theorem r_isiTt {K : PySem.W.Frag} {H : Hp} {Q : VK} {a : Addr} {xs : List V} {T : String} (hx : SqT K H a xs) (h : kitB "tuple" T = some true) (q : Q (.bl true) H) : rIsi K [.ref a, .ty T] H Q := r_isiT hx h q
theorem r_isiTf {K : PySem.W.Frag} {H : Hp} {Q : VK} {a : Addr} {xs : List V} {T : String} (hx : SqT K H a xs) (h : kitB "tuple" T = some false) (q : Q (.bl false) H) : rIsi K [.ref a, .ty T] H Q := r_isiT hx h q
theorem r_strAnd {z : Str} {A : Prop} (h : A) : (∃ a, V.str z = .str a) ∧ A := ⟨⟨z, rfl⟩, h⟩
theorem dp_tup {K : PySem.W.Frag} {H : Hp} {a : Addr} {zs : List Str} (h : SqT K H a (zs.map V.str)) : Dp K H (.ref a) (.tuple (zs.map PyData.str)) := dp_strs h
theorem pure_strs {zs : List Str} (hl : zs.length ≤ 10000) (h : ∀ z ∈ zs, Asc z) : pureD (.tuple (zs.map PyData.str)) = true := by
  simp only [pureD, List.length_map, decide_eq_true hl, Bool.true_and]
  refine (pureAll_iff _).mpr fun x hx => ?_
  obtain ⟨z, hz, rfl⟩ := List.mem_map.mp hx
  simp only [pureD]
  exact (h z hz).ok
theorem pure_str {z : Str} (h : Asc z) : pureD (.str z) = true := by
  simp only [pureD]
  exact h.ok
theorem eqv_strs (xs ys : List Str) : PyData.eqv (.tuple (xs.map PyData.str)) (.tuple (ys.map PyData.str)) = decide (xs = ys) := by
  simp only [PyData.eqv]
  exact eqvAll_strs xs ys
theorem depth_tup (zs : List Str) : (PyData.tuple (zs.map PyData.str)).depth = 1 := by simp [PyData.depth, depth_strs zs]
/-- _law_same of two names, of two texts -/
theorem r_same_strs {K : PySem.W.Frag} {H : Hp} {Q : VK} {a b : Addr} {xs ys : List Str} {n : Nat} (h1 : SqT K H a (xs.map V.str)) (h2 : SqT K H b (ys.map V.str)) (o1 : ∀ z ∈ xs, Asc z) (o2 : ∀ z ∈ ys, Asc z) (l1 : xs.length ≤ 10000) (l2 : ys.length ≤ 10000)
    (q : Q (.bl (decide (xs = ys))) H) : spSame K (n + 2) [.ref a, .ref b] H Q E0 :=
  ⟨_, _, _, _, rfl, dp_tup h1, dp_tup h2, pure_strs l1 o1, pure_strs l2 o2, by rw [depth_tup]; omega, by rw [eqv_strs]; exact q⟩
theorem r_same_str {K : PySem.W.Frag} {H : Hp} {Q : VK} {x y : Str} {n : Nat} (o1 : Asc x) (o2 : Asc y) (q : Q (.bl (decide (x = y))) H) : spSame K (n + 1) [.str x, .str y] H Q E0 :=
  ⟨_, _, _, _, rfl, .str x, .str y, pure_str o1, pure_str o2, by simp [PyData.depth], by
    have e : PyData.eqv (.str x) (.str y) = decide (x = y) := by
      simp only [PyData.eqv]
      by_cases h : x = y <;> simp [h]
    rw [e]; exact q⟩
theorem r_two {x y : Str} {P : Str → Str → Prop} (h : P x y) : ∃ a b, V.str x = .str a ∧ [V.str y] = [V.str b] ∧ P a b := ⟨x, y, rfl, rfl, h⟩
theorem same_but {H H1 H2 : Hp} {p : Addr} (e : Same H H1) (b : But p H1 H2) (n : H p = none) : Same H H2 := fun c o hc => b c o (ne_of_none hc n) (e c o hc)
theorem same_src {H H1 H2 : Hp} {b : Addr} (e : Same H H1) (n : H b = none) (d : But b H1 H2) : Same H H2 := fun c o hc => d c o (ne_of_none hc n) (e c o hc)
theorem get_last {α : Type} (xs : List α) (x : α) : (xs ++ [x])[xs.length]? = some x := by simp
end My

set_option Elab.async false
set_option linter.all false
set_option maxRecDepth 100000
set_option maxHeartbeats 4000000
namespace My
open PySem PySem.Spec PyProof.Rows L2
open C8 (tCut pss_cut)
theorem take_mem {α : Type} {xs : List α} {P : α → Prop} {i : Nat} {c : α} (hi : xs[i]? = some c) (h : ∀ x ∈ xs.take i, P x) (hc : P c) : ∀ x ∈ xs.take (i + 1), P x := by
  intro x hx
  rw [List.take_add_one, hi] at hx
  rcases List.mem_append.mp hx with hx | hx
  · exact h x hx
  · have : x = c := by simpa using hx
    rw [this]; exact hc
def CH : Str := "abcdefghijklmnopqrstuvwxyz0123456789-"
def plainB (z : Str) : Bool := decide (1 ≤ z.length ∧ z.length ≤ 20) && z.cps.toList.all (fun c => decide (c ∈ CH.cps.toList))
def wildB (xs : List Str) : Bool := decide (xs.drop (xs.length - 1) = [("*" : Str)])
def nameB (xs : List Str) : Bool := decide (xs.length ≤ 12) && (if wildB xs then xs.dropLast else xs).all plainB
theorem wild_iff (xs : List Str) : wildB xs = true ↔ 1 ≤ xs.length ∧ xs[xs.length - 1]? = some "*" := by
  unfold wildB
  rw [decide_eq_true_iff]
  by_cases h : 1 ≤ xs.length
  · have hl : xs.length - 1 < xs.length := by omega
    rw [List.drop_eq_getElem_cons hl, List.drop_of_length_le (by omega), List.getElem?_eq_getElem hl]
    constructor
    · intro e; exact ⟨h, congrArg some (List.cons.inj e).1⟩
    · intro e; rw [Option.some.inj e.2]
  · have : xs = [] := List.eq_nil_of_length_eq_zero (by omega)
    subst this
    constructor
    · intro e; cases e
    · intro e; exact absurd e.1 h
theorem name_no {xs : List Str} {i : Nat} {y : Str} (hy : xs[i]? = some y) (hp : plainB y = false) (hn : ¬ (i = xs.length - 1 ∧ y = "*")) : nameB xs = false := by
  unfold nameB
  rw [Bool.and_eq_false_iff]
  refine .inr (List.all_eq_false.mpr ⟨y, ?_, by rw [hp]; decide⟩)
  split
  · rename_i hw
    have hw := (wild_iff xs).mp hw
    have hi := (List.getElem?_eq_some_iff.mp hy).1
    have hne : i ≠ xs.length - 1 := by
      rintro rfl
      rw [hw.2] at hy
      exact hn ⟨rfl, (Option.some.inj hy).symm⟩
    refine List.mem_of_getElem? (i := i) ?_
    rw [List.getElem?_dropLast, if_pos (by omega)]
    exact hy
  · exact List.mem_of_getElem? hy
theorem name_yes {xs : List Str} (hl : xs.length ≤ 12) (h : ∀ (i : Nat) (y : Str), xs[i]? = some y → plainB y = true ∨ (i = xs.length - 1 ∧ y = "*")) : nameB xs = true := by
  unfold nameB
  rw [Bool.and_eq_true]
  refine ⟨decide_eq_true hl, List.all_eq_true.mpr fun y hy => ?_⟩
  split at hy
  · obtain ⟨i, hi⟩ := List.mem_iff_getElem?.mp hy
    rw [List.getElem?_dropLast] at hi
    split at hi
    · rename_i hlt
      exact (h i y hi).resolve_right (by omega)
    · cases hi
  · rename_i hw
    obtain ⟨i, hi⟩ := List.mem_iff_getElem?.mp hy
    rcases h i y hi with h | ⟨rfl, rfl⟩
    · exact h
    · exact absurd ((wild_iff xs).mpr ⟨by have := (List.getElem?_eq_some_iff.mp hi).1; omega, hi⟩) hw

theorem plain_iff {z : Str} : plainB z = true ↔ (1 ≤ z.length ∧ z.length ≤ 20) ∧ ∀ c ∈ z.cps.toList, c ∈ CH.cps.toList := by
  unfold plainB
  rw [Bool.and_eq_true, decide_eq_true_iff, List.all_eq_true]
  simp
theorem CH_fact : ∀ c ∈ CH.cps.toList, c < 128 ∧ c ≠ 46 ∧ c ≠ 42 ∧ lo1 c = c := by decide +kernel
theorem plain_asc {z : Str} (h : plainB z = true) : Asc z := fun c hc => (CH_fact c ((plain_iff.mp h).2 c hc)).1
theorem name_len {zs : List Str} (h : nameB zs = true) : zs.length ≤ 12 := by
  unfold nameB at h
  rw [Bool.and_eq_true, decide_eq_true_iff] at h
  exact h.1
theorem name_mem {zs : List Str} (h : nameB zs = true) {z : Str} (hz : z ∈ zs) : plainB z = true ∨ z = "*" := by
  cases hp : plainB z with
  | true => exact .inl rfl
  | false =>
    obtain ⟨i, hi⟩ := List.mem_iff_getElem?.mp hz
    by_cases e : i = zs.length - 1 ∧ z = "*"
    · exact .inr e.2
    · rw [name_no hi hp e] at h
      cases h
theorem lab_fact {z : Str} (h : plainB z = true ∨ z = "*") : (1 ≤ z.length ∧ z.length ≤ 20) ∧ ∀ c ∈ z.cps.toList, c < 128 ∧ c ≠ 46 ∧ lo1 c = c := by
  rcases h with h | rfl
  · exact ⟨(plain_iff.mp h).1, fun c hc => by have := CH_fact c ((plain_iff.mp h).2 c hc); exact ⟨this.1, this.2.1, this.2.2.2⟩⟩
  · decide +kernel
theorem name_asc {zs : List Str} (h : nameB zs = true) {z : Str} (hz : z ∈ zs) : z.length ≤ 20 ∧ Asc z :=
  ⟨(lab_fact (name_mem h hz)).1.2, fun c hc => ((lab_fact (name_mem h hz)).2 c hc).1⟩
/-! ### the written form -/
def dotted (zs : List Str) : List Nat := (zs.reverse.map fun z => z.cps.toList ++ [46]).flatten
def written (zs : List Str) : Str := if zs = [] then "." else ⟨(dotted zs).toArray⟩
theorem dotted_snoc (zs : List Str) (z : Str) : dotted (zs ++ [z]) = z.cps.toList ++ [46] ++ dotted zs := by
  unfold dotted
  rw [List.reverse_append, List.reverse_singleton, List.singleton_append, List.map_cons, List.flatten_cons]
theorem join_dots : ∀ ps : List (List Nat), ps ≠ [] → (ps.map fun p => p ++ [46]).flatten = TL.joinL [46] ps ++ [46]
  | [], h => absurd rfl h
  | [p], _ => by simp [TL.joinL]
  | p :: q :: r, _ => by
    have ih := join_dots (q :: r) (by simp)
    rw [List.map_cons, List.flatten_cons, ih]
    show p ++ [46] ++ (TL.joinL [46] (q :: r) ++ [46]) = p ++ ([46] ++ TL.joinL [46] (q :: r)) ++ [46]
    simp
theorem dotted_join {zs : List Str} (h : zs ≠ []) : dotted zs = TL.joinL [46] (zs.reverse.map TL.tl) ++ [46] := by
  unfold dotted
  rw [← join_dots _ (by simpa using h), List.map_map]
  rfl
def lowS (t : Str) : Str := ⟨t.cps.map lo1⟩
theorem low_eq {t : Str} (h : Asc t) : Txt.lower t = lowS t := lower_ascii h
theorem split_dots {zs : List Str} (h : zs ≠ []) (hd : ∀ z ∈ zs, 46 ∉ z.cps.toList) {x : Str} (hx : x.cps.toList = TL.joinL [46] (zs.reverse.map TL.tl)) : Txt.split x "." = zs.reverse := by
  have e : x = Txt.join "." zs.reverse := by
    rw [TL.join_eq]
    exact TL.ext_tl (by rw [TL.tl_join]; exact hx)
  rw [e]
  exact TL.split_join (s := 46) (S := []) (by decide +kernel) (by decide +kernel) (by simpa using h) fun p hp => hd p (by simpa using hp)
theorem joinL_nil : ∀ ps : List (List Nat), TL.joinL [] ps = ps.flatten
  | [] => rfl
  | [p] => by simp [TL.joinL]
  | p :: q :: r => by
    have ih := joinL_nil (q :: r)
    show p ++ ([] ++ TL.joinL [] (q :: r)) = _
    rw [ih]
    simp
theorem dotted_mem {zs : List Str} {c : Nat} (h : c ∈ dotted zs) : c = 46 ∨ ∃ z ∈ zs, c ∈ z.cps.toList := by
  unfold dotted at h
  obtain ⟨l, hl, hc⟩ := List.mem_flatten.mp h
  obtain ⟨z, hz, rfl⟩ := List.mem_map.mp hl
  rcases List.mem_append.mp hc with hc | hc
  · exact .inr ⟨z, by simpa using hz, hc⟩
  · exact .inl (by simpa using hc)
theorem dotted_len (n : Nat) : ∀ zs : List Str, (∀ z ∈ zs, z.length ≤ n) → (dotted zs).length ≤ zs.length * (n + 1) := by
  intro zs h
  unfold dotted
  have key : ∀ l : List Str, (∀ z ∈ l, z.length ≤ n) → ((l.map fun z => z.cps.toList ++ [46]).flatten).length ≤ l.length * (n + 1) := by
    intro l
    induction l with
    | nil => simp
    | cons z l ih =>
      intro h
      have h1 := h z List.mem_cons_self
      have h2 := ih fun y hy => h y (List.mem_cons_of_mem _ hy)
      have e := len_list z
      have e2 : (l.length + 1) * (n + 1) = l.length * (n + 1) + (n + 1) := Nat.succ_mul _ _
      rw [List.map_cons, List.flatten_cons, List.length_append, List.length_append]
      simp only [List.length_cons, List.length_nil]
      rw [e2]
      omega
  have := key zs.reverse (by simpa using h)
  simpa using this
theorem written_cps {zs : List Str} (h : zs ≠ []) : (written zs).cps.toList = dotted zs := by
  unfold written
  rw [if_neg h]
theorem written_mem {zs : List Str} (hn : nameB zs = true) {c : Nat} (h : c ∈ (written zs).cps.toList) : c < 128 ∧ lo1 c = c := by
  by_cases e : zs = []
  · subst e
    have key : ∀ c ∈ (written []).cps.toList, c < 128 ∧ lo1 c = c := by decide +kernel
    exact key c h
  · rw [written_cps e] at h
    rcases dotted_mem h with rfl | ⟨z, hz, hc⟩
    · decide
    · have := (lab_fact (name_mem hn hz)).2 c hc
      exact ⟨this.1, this.2.2⟩
theorem written_asc {zs : List Str} (hn : nameB zs = true) : Asc (written zs) := fun c h => (written_mem hn h).1
theorem low_written {zs : List Str} (hn : nameB zs = true) : lowS (written zs) = written zs := by
  refine TL.ext_tl ?_
  show ((written zs).cps.map lo1).toList = (written zs).cps.toList
  rw [Array.toList_map]
  conv => rhs; rw [← List.map_id (written zs).cps.toList]
  exact List.map_congr_left fun c hc => (written_mem hn hc).2
theorem written_len {zs : List Str} (hn : nameB zs = true) : (written zs).length ≤ 300 := by
  by_cases e : zs = []
  · subst e; decide +kernel
  · rw [← len_list, written_cps e]
    have h1 := dotted_len 20 zs fun z hz => (name_asc hn hz).1
    have h2 := name_len hn
    omega
theorem dotted_pos {zs : List Str} (hn : nameB zs = true) (e : zs ≠ []) : 2 ≤ (dotted zs).length := by
  obtain ⟨z, r, rfl⟩ := List.exists_cons_of_ne_nil e
  rcases List.eq_nil_or_concat (z :: r) with h | ⟨l, y, h⟩
  · cases h
  · rw [h, List.concat_eq_append, dotted_snoc]
    have hy := (lab_fact (name_mem hn (z := y) (by rw [h]; simp))).1.1
    have := len_list y
    rw [List.length_append, List.length_append]
    simp only [List.length_singleton]
    omega
theorem low_len {t : Str} : (lowS t).length = t.length := by simp [lowS, Str.length]
theorem low_cps (t : Str) : (lowS t).cps.toList = t.cps.toList.map lo1 := by
  show (t.cps.map lo1).toList = _
  rw [Array.toList_map]
theorem lo1_dot {c : Nat} (h : lo1 c = 46) : c = 46 := by
  unfold lo1 at h
  split at h <;> omega
/-- a text whose small form is the written form of a name is that name's, in capitals here and there -/
theorem low_root {t : Str} {zs : List Str} (hn : nameB zs = true) (h : lowS t = written zs) : t = "." ↔ zs = [] := by
  constructor
  · rintro rfl
    by_cases e : zs = []
    · exact e
    · have h2 := dotted_pos hn e
      rw [← written_cps e, ← h] at h2
      exact absurd h2 (by decide +kernel)
  · rintro rfl
    have h1 : t.cps.toList.map lo1 = [46] := by
      rw [← low_cps, h]; decide +kernel
    have h2 : t.cps.toList = [46] := by
      cases hc : t.cps.toList with
      | nil => rw [hc] at h1; cases h1
      | cons c r =>
        rw [hc] at h1
        cases r with
        | nil =>
          have : lo1 c = 46 := by simpa using h1
          rw [lo1_dot this]
        | cons d r => simp at h1
    exact TL.ext_tl (by show t.cps.toList = _; rw [h2]; decide +kernel)
theorem low_last {t : Str} {zs : List Str} (h : lowS t = written zs) (e : zs ≠ []) : ∃ l, t.cps.toList = l ++ [46] ∧ l.map lo1 = TL.joinL [46] (zs.reverse.map TL.tl) := by
  have h1 : t.cps.toList.map lo1 = TL.joinL [46] (zs.reverse.map TL.tl) ++ [46] := by
    rw [← low_cps, h, written_cps e, dotted_join e]
  rcases List.eq_nil_or_concat t.cps.toList with h2 | ⟨l, c, h2⟩
  · rw [h2] at h1; simp at h1
  · rw [List.concat_eq_append] at h2
    rw [h2, List.map_append] at h1
    have h3 := List.append_inj' h1 rfl
    have h4 : lo1 c = 46 := by simpa using h3.2
    rw [lo1_dot h4] at h2
    exact ⟨l, h2, h3.1⟩
theorem written_nil : written [] = "." := by decide +kernel
theorem isascii_of {t : Str} (h : Asc t) : Txt.isascii t = true := by
  unfold Txt.isascii
  rw [← Array.all_toList, List.all_eq_true]
  exact fun c hc => decide_eq_true (h c hc)
theorem ends_dot {t : Str} : Txt.endswith t "." = true ↔ ∃ l, t.cps.toList = l ++ [46] := by
  have e : ("." : Str) = ⟨#[46]⟩ := by decide +kernel
  have el := len_list t
  have h := StrLaws.subAt_one t 46 (t.length - 1)
  unfold Txt.endswith
  rw [e, Bool.and_eq_true, decide_eq_true_iff]
  show 0 + 1 ≤ t.length ∧ Builtin.Str.subAt t ⟨#[46]⟩ (t.length - 1) = true ↔ _
  constructor
  · rintro ⟨h1, h2⟩
    have h3 := h.mp ⟨by show t.length - 1 + 1 ≤ t.length; omega, h2⟩
    refine ⟨t.cps.toList.dropLast, ?_⟩
    rcases List.eq_nil_or_concat t.cps.toList with h4 | ⟨l, c, h4⟩
    · rw [h4] at h3; simp at h3
    · rw [List.concat_eq_append] at h4
      rw [h4] at h3 el ⊢
      rw [List.length_append, List.length_singleton] at el
      rw [← el, Nat.add_sub_cancel, List.getElem?_append_right (Nat.le_refl _), Nat.sub_self] at h3
      have : c = 46 := by simpa using h3
      rw [this, List.dropLast_concat]
  · rintro ⟨l, hl⟩
    rw [hl, List.length_append, List.length_singleton] at el
    refine ⟨by omega, (h.mpr ?_).2⟩
    rw [hl, ← el, Nat.add_sub_cancel, List.getElem?_append_right (Nat.le_refl _), Nat.sub_self]
    rfl
theorem sIx_last (n d : Nat) : HT.sIx n d (some (-1)) = n - 1 := by
  show (if (-1 : Int) < 0 then ((-1 : Int) + (n : Int)).toNat else min (-1 : Int).toNat n) = _
  rw [if_pos (by decide)]; omega
theorem cut_last {t : Str} {l : List Nat} {c : Nat} (h : t.cps.toList = l ++ [c]) : (cutS t none (some (-1))).cps.toList = l := by
  have el := len_list t
  rw [h, List.length_append, List.length_singleton] at el
  unfold cutS
  rw [sIx_last]
  show (t.cps.toList.drop 0).take (t.length - 1 - 0) = l
  rw [h, List.drop_zero, ← el]
  simp
theorem sum_len (n : Nat) : ∀ ys : List Str, (∀ y ∈ ys, y.length ≤ n) → (ys.map (·.length)).sum ≤ ys.length * n
  | [], _ => by simp
  | y :: ys, h => by
    have h1 := h y List.mem_cons_self
    have h2 := sum_len n ys fun z hz => h z (List.mem_cons_of_mem _ hz)
    have e : (ys.length + 1) * n = ys.length * n + n := Nat.succ_mul _ _
    rw [List.map_cons, List.sum_cons, List.length_cons, e]
    omega
end My

set_option Elab.async false
set_option linter.all false
set_option maxRecDepth 100000
set_option maxHeartbeats 4000000
namespace My
open PySem PySem.Spec PyProof.Rows L2
open C8 (tCut pss_cut)
/-! ### the rules with K told -/
section
variable {X : Cx} {K : PySem.W.Frag} {a b : Expr} {ta tb te : TE} {pos : Pos}
theorem pe_kix {r : PySem.W.Frag → R2} (hK : X.K = K) (h : IxR X (r X.K)) (ha : PE X a ta) (hb : PE X b tb) (hs : PlainIx b) : PE X (.Subscript a b pos) (tOp (r K) ta tb) := hK ▸ pe_ix h ha hb hs
end
/-! ### defs that may raise -/
def FnX (P : Program) (w : World) (K : PySem.W.Frag) (mg : Str → Option Value) (base : Heap) (k : Nat) (x : Str) (ps : List Str) (sp : Sp) : Prop :=
  ∃ f fd, mg x = some (.ref f) ∧ PySem.W.keepIn K (.ref f) = true ∧ Binds K fd ps [] ∧ FnOk P w K mg base (L2.CX P w) k f fd ps sp
section
variable {P : Program} {w : World} {K : PySem.W.Frag} {mg : Str → Option Value} {base : Heap}
theorem Def1.okX {x : Str} {ps N : List Str} {st : Stmt} {k : Nat} {sp : Sp} (d : Def1 K mg x ps st) (S : FnScope N ps (defScope st)) (len : ∀ vs H Q E, sp vs H Q E → vs.length = ps.length)
    (hbody : ∀ (f : Addr) (cdv : Value) (A : Around) (outer : List Env) (s : Shared) (H : Hp) (vs : List V) (Q : VK) (E : XK), Room k (A.deeper (envOfC x (defScope st) s.heap.objs.size f cdv)) → sp vs H Q E →
      ∃ t, PSs (cxOf (L2.CX P w) P w K mg base N x (defScope st) f cdv A outer s H E) (defBody st) t ∧ t { nx := fun _ H' => Q .non H', rt := Q } (start N vs) H) : FnX P w K mg base (k + 1) x ps sp := by
  obtain ⟨f, fd, hm, F, b⟩ := d
  exact ⟨f, fd, hm, F.kp, b, F.okX S len (hbody f)⟩
theorem cx_K {CX : CXT} {N : List Str} {q : Str} {sc : Scope} {f : Addr} {cdv : Value} {A : Around} {outer : List Env} {s : Shared} {H : Hp} {E : XK} : (cxOf CX P w K mg base N q sc f cdv A outer s H E).K = K := rfl
end
section
variable {X : Cx} {k : Nat} {x : Str} {ps : List Str} {sp : Sp}
/-- a call of such a def: W is what is wished of an error at the slots -/
def tFnS (sp : Sp) (W : WX) (t : TA) : TE := fun σ H Q => t σ H fun vs H1 => sp vs H1 Q (WE W σ)
theorem pe_fnS {e : Expr} {es : List Expr} {t : TA} {p pos : Pos} {W : WX} (G : FnX X.prog X.w X.K X.mg X.base k x ps sp) (hr : Room k X.A) (hg : Gl X x) (tk : Takes X W) (ha : PA X (e :: es) t) (hdb : (x == ("__debug__" : Str)) = false := by decide)
    (he : starEach (e :: es) X.env = (false, eval e X.env) :: starEach es X.env := by rfl) (hpl : (backTo pos (starEach es X.env)).any (·.1) = false := by rfl) : PE X (.Call (.Name x p) (e :: es) [] pos) (tFnS sp W t) := by
  obtain ⟨f, fd, hm, hk, hb, F⟩ := G
  exact pe_callS (p := p) F hr hg hm hk hb (fun σ => passAt tk σ) ha hdb he hpl
theorem passE0 : Passes (L2.CX X.prog X.w) X E0 := fun _ _ _ _ _ _ _ c => by
  obtain ⟨_, _, _, _, _, _, _, _, _, _, _, _, z⟩ := c
  exact z.elim
/-- a call where nothing is raised -/
theorem pe_fnX {e : Expr} {es : List Expr} {t : TA} {p pos : Pos} (G : FnX X.prog X.w X.K X.mg X.base k x ps sp) (hr : Room k X.A) (hg : Gl X x) (ha : PA X (e :: es) t) (hdb : (x == ("__debug__" : Str)) = false := by decide)
    (he : starEach (e :: es) X.env = (false, eval e X.env) :: starEach es X.env := by rfl) (hpl : (backTo pos (starEach es X.env)).any (·.1) = false := by rfl) : PE X (.Call (.Name x p) (e :: es) [] pos) (tFn sp t) := by
  obtain ⟨f, fd, hm, hk, hb, F⟩ := G
  have h := pe_call (p := p) F hr hg hm hk hb .nil (E := E0) passE0 ha hdb he hpl
  refine ⟨fun pins s σ H Q I q => h.run pins s σ H Q I ?_⟩
  unfold tCall
  simp only [List.append_nil]
  exact q
def tRaise (C : Addr) (W : WX) (t : TA) : TS := fun _ σ H => t σ H fun vs H1 => vs.length ≤ sizeLine ∧ W (.ref C) none σ H1
theorem ps_rai {C : Addr} {W : WX} {e : Expr} {es : List Expr} {t : TA} {x : Str} {p pos pos' : Pos} (hc : X.calm = true) (tk : Takes X W) (q : PySem.W.excIn X.K C [.type "ValueError", .type "Exception", .type "BaseException", .type "object"] "ValueError.__new__" = true) (gC : X.mg x = some (.ref C))
    (kC : PySem.W.keepIn X.K (.ref C) = true) (b : PySem.W.subIn X.K (.ref C) (.type "BaseException") = some true) (ty : PySem.W.typeIn X.K (.ref C) = some (.type "type")) (hg : Gl X x) (ha : PA X (e :: es) t) (hdb : (x == ("__debug__" : Str)) = false := by decide)
    (he : starEach (e :: es) X.env = (false, eval e X.env) :: starEach es X.env := by rfl) (hpl : (backTo pos (starEach es X.env)).any (·.1) = false := by rfl) : PS X (.Raise (some (.Call (.Name x p) (e :: es) [] pos)) none pos') (tRaise C W t) :=
  ps_raise hc tk (pmk_ownA PySem.F.excBase_ValueError q gC kC (raises_own b ty) hg ha hdb he hpl)
/-- isinstance of the error that a suite holds -/
def rIsX (K : PySem.W.Frag) (a : Addr) (cls : Value) (d : Option Addr) : List V → Hp → VK → Prop := fun xs H Q => ∃ D, cls = .ref D ∧ d = none ∧ ExcC K D ∧ rIsE K D a xs H Q
theorem call_isX {a : Addr} {oe : Obj} {pn : List (Addr × Obj)} {cls : Value} {d : Option Addr} {K : PySem.W.Frag} (hK : X.K = K) (hz : Zc cls d oe) (hf : ∃ vs, oe.data = .fields vs) : CallR (X.suite a ((a, oe) :: pn)) (.builtin "isinstance") (rIsX K a cls d) := by
  subst hK
  intro pins s σ H xs us Q I r h
  obtain ⟨D, rfl, rfl, C, h⟩ := h
  exact call_isE C hz hf pins s σ H xs us Q I r h
end
section
variable {σ : L2.St} {H : Hp} {Q : VK} {K : PySem.W.Frag} {a c d : L2.St → Hp → Prop} {b : VK}
theorem r_fnS {sp : Sp} {W : WX} {t : TA} (h : t σ H fun vs H1 => sp vs H1 Q (WE W σ)) : tFnS sp W t σ H Q := h
theorem r_raise {C : Addr} {W : WX} {t : TA} {D : Ends} (h : t σ H fun vs H1 => vs.length ≤ sizeLine ∧ W (.ref C) none σ H1) : tRaise C W t D σ H := h
theorem r_lenAnd {xs : List V} {A : Prop} (hl : xs.length ≤ 1000) (h : A) : xs.length ≤ sizeLine ∧ A := ⟨Nat.le_trans hl (by decide), h⟩
theorem r_isX {ad D C : Addr} {r : Bool} (hC : ExcC K D) (h : PySem.W.kitOne K (.ref D) (.ref C) = some r) (q : Q (.bl r) H) : rIsX K ad (.ref D) none [.ref ad, .ref C] H Q := ⟨D, rfl, rfl, hC, .ref C, .ref C, r, rfl, fun _ h => h, h, q⟩
theorem r_isXb {ad D : Addr} {T : String} {r : Bool} (hC : ExcC K D) (h : PySem.W.kitOne K (.ref D) (.type T) = some r) (q : Q (.bl r) H) : rIsX K ad (.ref D) none [.ref ad, .ty T] H Q := ⟨D, rfl, rfl, hC, .ty T, .type T, r, rfl, fun _ h => h, h, q⟩
theorem r_fmt {te : TE} (h : te σ H fun x H1 => (∃ y : Str, x = .str y ∧ y.length ≤ sizeLine ∧ Q (.str y) H1) ∨ ∃ i : Int, x = .int i ∧ i.natAbs.log2 < 1920 ∧ Q (.str (toString i)) H1) : tFmt te σ H Q := h
/-- an f-string's text, left open -/
def tJoined (ts : List TE) : TE := fun σ H Q => tJs ts Str.empty σ H fun out H1 => Q (.str out) H1
theorem pe_joi2 {X : Cx} {v1 v2 : Expr} {rest : List Expr} {ts : List TE} {pos : Pos} (h : PJ X (v1 :: v2 :: rest) ts) : PE X (.JoinedStr (v1 :: v2 :: rest) pos) (tJoined ts) := pe_joined h
theorem r_jcons {t : TE} {ts : List TE} {acc : Str} {QJ : Str → Hp → Prop} (h : t σ H fun x H1 => ∃ y : Str, x = .str y ∧ (acc ++ y).length ≤ sizeLine ∧ tJs ts (acc ++ y) σ H1 QJ) : tJs (t :: ts) acc σ H QJ := h
theorem r_jnil {acc : Str} {QJ : Str → Hp → Prop} (h : QJ acc H) : tJs [] acc σ H QJ := h
theorem r_joined {ts : List TE} (h : tJs ts Str.empty σ H fun out H1 => Q (.str out) H1) : tJoined ts σ H Q := h
theorem r_fmtS {y : Str} {A B : Prop} (hz : y.length ≤ 100000) (h : A) : (∃ z : Str, V.str y = .str z ∧ z.length ≤ sizeLine ∧ (z = y → A)) ∨ B := .inl ⟨y, rfl, Nat.le_trans hz (by decide), fun _ => h⟩
/-- try .. except x as n -/
def tTryAs (K : PySem.W.Frag) (c : Value) (i : Nat) (tb : WX → TS) (ts : Addr → Value → Option Addr → TS) : TS := fun D σ H => tb (wAs K c i ts (fun _ _ _ _ => False) D) D σ H
theorem r_tryAs {cv : Value} {i : Nat} {tb : WX → TS} {ts : Addr → Value → Option Addr → TS} {D : Ends} (h : tb (wAs K cv i ts (fun _ _ _ _ => False) D) D σ H) : tTryAs K cv i tb ts D σ H := h
theorem w_as {cls cv : Value} {dd : Option Addr} {i : Nat} {ts : Addr → Value → Option Addr → TS} (h : PySem.W.exmOne K cls cv = some true) (k : ∀ x, H x = none → ts x cls dd ⟨fun σ' H' => a (σ'.set i none) H', b, fun σ' H' => c (σ'.set i none) H', fun σ' H' => d (σ'.set i none) H'⟩ (σ.set i (some (.ref x))) H) :
    wAs K cv i ts (fun _ _ _ _ => False) ⟨a, b, c, d⟩ cls dd σ H := ⟨true, h, fun _ => k, fun z => nomatch z⟩
end
theorem ps_tryAs {X : Cx} {K : PySem.W.Frag} {x n : Str} {c : Value} {i : Nat} {body suite : List Stmt} {b₀ : Stmt} {np pos pos' : Pos} {tb : WX → TS} {ts : Addr → Value → Option Addr → TS} (hK : X.K = K) (hs : X.stack = X.env :: X.outer) (hf : X.env.frame = some X.env.locals) (hN : X.N.Nodup) (hi : X.N[i]? = some n) (hln : X.env.kindOf n = some .local) (hc : Names X x c)
    (hb : ∀ (W : WX) (pn : List (Addr × Obj)) (xe : Value → Shared → Prop), Takes (X.tr pn xe) W → PSs (X.tr pn xe) body (tb W))
    (hsu : ∀ (a : Addr) (oe : Obj) (cls : Value) (d : Option Addr) (pn : List (Addr × Obj)), Zc cls d oe → (∃ vs, oe.data = .fields vs) → PSs (X.suite a ((a, oe) :: pn)) (b₀ :: suite) (ts a cls d)) :
    PS X (.Try body [.ExceptHandler (some (.Name x np)) (some n) (b₀ :: suite) pos'] [] [] pos) (tTryAs K c i tb ts) := by
  subst hK
  exact ps_try_as hs hf hN hi hln hc takes0 (fun W pn xe tk _ => hb W pn xe tk) hsu
section
variable {X : Cx}
def rIsNo : R2 := fun x y H Q => y = .non ∧ Q (.bl (decide (x = .non))) H
def rNotNo : R2 := fun x y H Q => y = .non ∧ Q (.bl (!decide (x = .non))) H
theorem oIsN : OpR X (compareOp .Is) rIsNo := op_isN
theorem oNotN : OpR X (compareOp .IsNot) rNotNo := op_notN
theorem r_isN {x : V} {H : Hp} {Q : VK} (q : Q (.bl (decide (x = .non))) H) : rIsNo x .non H Q := ⟨rfl, q⟩
theorem r_notN {x : V} {H : Hp} {Q : VK} (q : Q (.bl (!decide (x = .non))) H) : rNotNo x .non H Q := ⟨rfl, q⟩
theorem r_msgV {σ : L2.St} {H : Hp} {Q : VK} {s z : Str} {i : Nat} (hv : σ[i]? = some (some (.str z))) (h1 : s.length ≤ 1000) (h2 : z.length ≤ 100000) (q : ∀ out, Q (.str out) H) : tJoined [tC (.str s), tFmt (tVar i)] σ H Q := by
  refine ⟨s, rfl, ?_, .str z, hv, .inl ⟨z, rfl, Nat.le_trans h2 (by decide), z, rfl, ?_, q _⟩⟩
  · rw [len_app]
    show 0 + s.length ≤ sizeLine
    have : 1000 ≤ sizeLine := by decide
    omega
  · rw [len_app, len_app]
    show 0 + s.length + z.length ≤ sizeLine
    have : 101000 ≤ sizeLine := by decide
    omega
end
section
variable {X : Cx} {to te : TE}
def tFind (to te : TE) : TE := tM1 (fun x xs H Q => ∃ a b, x = .str a ∧ xs = [.str b] ∧ Q (.int (Txt.find a b)) H) to te
theorem pe_find {o e : Expr} {apos pos : Pos} (ho : PE X o to) (he : PE X e te) (hs : starEach [e] X.env = [(false, eval e X.env)] := by rfl) (hbase : attributeBase o "find" X.env (eval o X.env) = eval o X.env := by rfl) (hline : (apos.endLine == pos.line) = true := by rfl) :
    PE X (.Call (.Attribute o "find" apos) [e] [] pos) (tFind to te) := pe_m1 PySem.F.slot_str_find PySem.F.type_str_find mt_find ho he hs hbase hline
theorem r_find {σ : L2.St} {H : Hp} {Q : VK} (h : to σ H fun x H1 => (∃ a, x = .str a) ∧ te σ H1 fun y H2 => ∃ a b, x = .str a ∧ [y] = [V.str b] ∧ Q (.int (Txt.find a b)) H2) : tFind to te σ H Q := h
end
end My

set_option Elab.async false
set_option linter.all false
set_option maxRecDepth 100000
set_option maxHeartbeats 4000000
namespace My
open PySem PySem.Spec PyProof.Rows L2 GenW
/-! ### for in a generator's body -/
section
variable {M : Model} {A : Around} {R : GenEnd} {Y : Protocol} {n : Nat} {s₀ : Shared} {c : Code} {fs : List PySem.Frame} {s : Shared} {env : PySem.Env}
  {K : Flow → Sem PySem.Fin} {J : Value → Sem PySem.Fin} {gd : Bool → Bool} {lv : List Value → List Value}
theorem seg_For {target iter : Expr} {body orelse : List Stmt} {pos : Pos}
    (h : wpAny M (A.over c fs) (eval iter env) (fun x s1 => wpAny M (A.over c fs) (pyIter x) (fun it s2 => ∀ p, Seg M A R Y n s₀ (.forLoop target it body orelse env) (M.den (.forLoop target it body orelse env))
      (.ret (fun r => ((match r with | .ok f => (.pure f : Sem Flow) | .error e => .raise e).onRaise (cameBack env)).wrap K J gd lv) none (gd false) (lv []) c p [] :: fs) s2)
      (fun x s' => Seg M A R Y n s₀ c (J x) fs s') s1) (fun x s' => Seg M A R Y n s₀ c (J x) fs s') s)
    (hs : ∀ x, foldedSetIterable iter env x = pure x) :
    Seg M A R Y n s₀ c ((exec (.For target iter body orelse pos) env).wrap K J gd lv) fs s := by
  rw [exec_For]
  refine seg_bind_wrap (wpAny_standAt (seg_bind_wrap (wpAny_mono h (fun x s1 h1 => ?_) fun _ _ e => e)))
  refine seg_bind_wrap (wpAny_of_eq (hs x) (seg_bind_wrap (wpAny_standAt (seg_bind_wrap (wpAny_holding (wpAny_mono h1 (fun it s2 h2 => ?_) fun _ _ e => e))))))
  exact seg_call h2
end
section
variable {prog : Program} {w : World} {A : Around} {R : GenEnd} {Y : Protocol} {n : Nat} {s₀ : Shared} {fs : List PySem.Frame} {s : Shared} {env : PySem.Env}
theorem seg_forLoop {target : Expr} {it : Value} {body orelse : List Stmt} {C : Code} (hC : C = .forLoop target it body orelse env)
    (h : wpAny (model prog w) (A.over C fs) (pyNext it) (fun r s' => match r with
      | none => Seg (model prog w) A R Y n s₀ C (.pure (.again (.block orelse env))) fs s'
      | some v => wpAny (model prog w) (A.over C fs) (letOwnedTupleGo target it v) (fun _ s1 => wpAny (model prog w) (A.over C fs) (assign target env v) (fun _ s2 =>
          Seg (model prog w) A R Y n s₀ C ((execs body env).wrap (fun f => match f with
            | .next | .cont => .pure (.again C)
            | .brk => .pure (.done .next)
            | .ret v => .pure (.done (.ret v))) (fun e => (do noteFrame e env; theTreesLotGoes e : Sem Unit).wrap (fun _ => .raise e) .raise id id) id id) fs s2)
          (fun x s' => Seg (model prog w) A R Y n s₀ C ((do noteFrame x env; theTreesLotGoes x : Sem Unit).wrap (fun _ => .raise x) .raise id id) fs s') s1)
          (fun x s' => Seg (model prog w) A R Y n s₀ C ((do noteFrame x env; theTreesLotGoes x : Sem Unit).wrap (fun _ => .raise x) .raise id id) fs s') s')
      (fun x s' => Seg (model prog w) A R Y n s₀ C ((do noteFrame x env; theTreesLotGoes x : Sem Unit).wrap (fun _ => .raise x) .raise id id) fs s') s) :
    Seg (model prog w) A R Y n s₀ C ((model prog w).den C) fs s := by
  subst hC
  show Seg _ A R Y n s₀ _ ((forTurn target it body orelse env).onRaise (fun x => do noteFrame x env; theTreesLotGoes x)) fs s
  have eJ : (fun e => ((do noteFrame e env; theTreesLotGoes e : Sem Unit).bind fun _ => (.raise e : Sem PySem.Fin))) = fun e => (do noteFrame e env; theTreesLotGoes e : Sem Unit).wrap (fun _ => .raise e) .raise id id := by
    funext e; rw [Sem.bind_eq_wrap]
  unfold forTurn
  rw [Sem.onRaise_eq_wrap, eJ]
  refine seg_bind_wrap (wpAny_standAt (seg_bind_wrap (wpAny_onRaise (wpAny_mono h (fun r s' h' => ?_) fun _ _ h' => wpAny_standAt h'))))
  cases r with
  | none => exact h'
  | some v =>
    refine seg_bind_wrap (wpAny_mono h' (fun _ s1 h1 => ?_) fun _ _ e => e)
    refine seg_bind_wrap (wpAny_mono h1 (fun _ s2 h2 => ?_) fun _ _ e => e)
    rw [Sem.bind_eq_wrap', Sem.wrap_wrap]
    have ew : ∀ t, t = ((execs body env).wrap (fun f => match f with
            | .next | .cont => .pure (.again (.forLoop target it body orelse env))
            | .brk => .pure (.done .next)
            | .ret v => .pure (.done (.ret v))) (fun e => (do noteFrame e env; theTreesLotGoes e : Sem Unit).wrap (fun _ => .raise e) .raise id id) id id) → Seg (model prog w) A R Y n s₀ (.forLoop target it body orelse env) t fs s2 := fun t e => by rw [e]; exact h2
    exact ew _ (Sem.wrap_congr _ _ _ (fun f => by cases f <;> rfl) (fun e => rfl))
theorem seg_block_nil (h : Seg (model prog w) A R Y n s₀ (.block [] env) (.pure (.done .next)) fs s) {C : Code} : Seg (model prog w) A R Y n s₀ C (.pure (.again (.block [] env))) fs s := seg_again rfl h
end
def tGFor (wi : TI) (g : TG) (tb : TGn) : TGn := fun D ys σ H => wi σ H fun J H1 => ∃ W : Nat → Nat → List V → L2.St → Hp → Prop, (∃ m, W 0 m ys σ H1) ∧ ∀ i m ys σ H, W i m ys σ H →
  (J.stop i H ∧ D.nx ys σ H) ∨ (J.go i H ∧ ∃ N : List V → L2.St → Hp → Prop, (∀ ys' σ' H', N ys' σ' H' → ∃ m', m' < m ∧ W (i + 1) m' ys' σ' H') ∧ ∀ x H', J.yld i H x H' → g x σ H' fun σ2 H2 => tb { D with nx := N, ct := N, bk := D.nx } ys σ2 H2)
theorem gs_for {X : Cx} {tg iter : Expr} {body : List Stmt} {wi : TI} {tt : TG} {tb : TGn} {pos : Pos} (hp : PassesOwn (model X.prog X.w) X.A X.env X.xe) (hc : X.calm = true) (hi : PI X tg iter wi) (hg : PG X tg tt) (hb : GSs X body tb)
    (hs : ∀ x, foldedSetIterable iter X.env x = pure x := by intro _; rfl) : GS X (.For tg iter body [] pos) (tGFor wi tt tb) := by
  refine ⟨fun A S ip R n ys s₀ c fs K J gd lv s σ H D g hn k hI ht => ?_⟩
  obtain ⟨acc0, cc0, r0, I⟩ := hI
  refine seg_For ?_ hs
  rw [g.over]
  refine wpAny_mono (hi.run _ s σ H _ I ht) (fun v s1 h1 => ?_) fun x s' hx => k.exc n s₀ x s' hx
  refine wpAny_mono h1 (fun itv s2 h2 p => ?_) fun x s' hx => k.exc n s₀ x s' hx
  obtain ⟨it, fp, tn, JJ, H2, e, I2, T, st2, f2, W, ⟨m0, w0⟩, turn⟩ := h2
  subst e
  have gl := fun (kk : Result → Sem PySem.Fin) => gc_loop (k := kk) (c' := .forLoop tg (.ref it) body [] X.env) (l := lv []) (kp := []) (p := p) g rfl rfl
  have bS : ∀ b ∈ fp, b ≠ S := fun b hb z => (f2 b hb).2.2.2.2.2 (S, lstObj acc0 cc0) (List.mem_append_right _ List.mem_cons_self) z.symm
  have stat : ∀ {acc : Array Value} {cc : Nat} {H' : Hp}, (∀ b ∈ fp, H' b = none) → ∀ b ∈ fp, FpOk X ((S, lstObj acc cc) :: ip) H' b := fun {acc cc H'} hn b hb => by
    obtain ⟨_, q1, q2, q3, q4, q5⟩ := f2 b hb
    refine ⟨hn b hb, q1, q2, q3, q4, fun p hp => ?_⟩
    rcases List.mem_append.mp hp with hp | hp
    · exact q5 p (List.mem_append_left _ hp)
    · rcases List.mem_cons.mp hp with hp | hp
      · rw [hp]; exact Ne.symm (bS b hb)
      · exact q5 p (List.mem_append_right _ (List.mem_cons_of_mem _ hp))
  have loop : ∀ (m i n : Nat) (ys : List V) (s₀ s : Shared) (σ : L2.St) (H : Hp), n + ys.length = sizeLine → W i m ys σ H → GI X S ip ys σ H s → tn i s.heap → (∀ b ∈ fp, H b = none) →
      Seg (model X.prog X.w) A R (GY X S) n s₀ (.forLoop tg (.ref it) body [] X.env) ((model X.prog X.w).den (.forLoop tg (.ref it) body [] X.env))
        (.ret (fun r => ((match r with | .ok f => (.pure f : Sem Flow) | .error e => .raise e).onRaise (cameBack X.env)).wrap K J gd lv) none (gd false) (lv []) c p [] :: fs) s := by
    intro m
    induction m using Nat.strongRecOn with
    | ind m ih =>
      intro i n ys s₀ s σ H hn w hI st3 fr3
      have ee : ∀ (n : Nat) (s₀ : Shared) (x : Value) (s' : Shared), X.xe x s' → Seg (model X.prog X.w) A R (GY X S) n s₀ (.forLoop tg (.ref it) body [] X.env)
          ((do noteFrame x X.env; theTreesLotGoes x : Sem Unit).wrap (fun _ => .raise x) .raise id id)
          (.ret (fun r => ((match r with | .ok f => (.pure f : Sem Flow) | .error e => .raise e).onRaise (cameBack X.env)).wrap K J gd lv) none (gd false) (lv []) c p [] :: fs) s' := fun n s₀ x s' hx => by
        refine seg_wrap ?_
        rw [(gl _).over]
        refine wpAny_bind (wpAny_mono (hp x s' hx) (fun _ s'' hcb => wpAny_theTreesLotGoes ?_) fun y s'' hcb => ?_)
        · exact seg_leaf (.error x) (seg_cameBack g k hcb)
        · exact seg_leaf (.error y) (seg_cameBack g k hcb)
      refine seg_forLoop rfl ?_
      rw [(gl _).over]
      obtain ⟨acc, cc, r, I3⟩ := hI
      rcases turn i m ys σ H w with ⟨stop, qn⟩ | ⟨go, N, hN, step⟩
      · refine wpAny_mono (T.done X rfl rfl rfl hc i _ s σ H X.xe I3 (stat fr3) st3 stop) (fun rr s4 h4 => ?_) fun x s' hx => ee n s₀ x s' hx
        obtain ⟨hr, I4⟩ := h4
        subst hr
        exact seg_block_nil (seg_leaf (.ok .next) (k.ok n ys s₀ s4 .next hn ⟨σ, H, ⟨acc, cc, r, I4⟩, qn⟩))
      · refine wpAny_mono (T.item X rfl rfl rfl hc i _ s σ H X.xe I3 (stat fr3) st3 go) (fun rr s4 h4 => ?_) fun x s' hx => ee n s₀ x s' hx
        obtain ⟨u, hr, h4⟩ := h4
        subst hr
        refine wpAny_mono h4 (fun _ s5 h5 => ?_) fun x s' hx => ee n s₀ x s' hx
        obtain ⟨x, H5, I5, r5, y5, st5, fr5⟩ := h5
        have I5' := I5.pinned (stat fr5) (T.obj _ _ st5)
        refine wpAny_mono (hg.run _ s5 σ H5 x u _ I5' r5 (step x H5 y5)) (fun _ s6 h6 => ?_) fun x s' hx => ee n s₀ x s' hx
        obtain ⟨σ6, H6, I6, q6⟩ := h6
        have ipS : ∀ q ∈ ip ++ pinsAt fp s5.heap, q.1 ≠ S := fun q hq => (List.mem_append.mp hq).elim (fun z => g.ip q z) fun z => bS _ (of_pinsAt z).1
        have G := fun (kk : Result → Sem PySem.Fin) => ({ gl kk with ip := ipS } : L2.GC X S (ip ++ pinsAt fp s5.heap) A _ _ id)
        have again : ∀ {n' : Nat} {ys' : List V} {s₀' s7 : Shared} {σ7 : L2.St} {H7 : Hp}, n' + ys'.length = sizeLine → GI X S (ip ++ pinsAt fp s5.heap) ys' σ7 H7 s7 → N ys' σ7 H7 →
            Seg (model X.prog X.w) A R (GY X S) n' s₀' (.forLoop tg (.ref it) body [] X.env) (.pure (.again (.forLoop tg (.ref it) body [] X.env)))
              (.ret (fun r => ((match r with | .ok f => (.pure f : Sem Flow) | .error e => .raise e).onRaise (cameBack X.env)).wrap K J gd lv) none (gd false) (lv []) c p [] :: fs) s7 := fun {n' ys' s₀' s7 σ7 H7} hn' I7 n7 => by
          obtain ⟨m', hm, w7⟩ := hN ys' σ7 H7 n7
          obtain ⟨acc7, cc7, r7, I7⟩ := I7
          have I7u : Inv X ((S, lstObj acc7 cc7) :: ip) σ7 H7 s7 := Inv.unpinned (pl := pinsAt fp s5.heap) I7
          refine seg_again rfl (ih m' hm (i + 1) n' ys' s₀' s7 σ7 H7 hn' w7 ⟨acc7, cc7, r7, I7u⟩ (T.keep _ _ _ st5 fun b hb o e => ?_) fun b hb => ?_)
          · exact (I7.pin (b, o) (List.mem_append_right _ (List.mem_cons_of_mem _ (List.mem_append_right _ (mem_pinsAt hb e))))).1
          · obtain ⟨o, e, d⟩ := T.obj _ _ st5 b hb
            exact (I7.pin (b, o) (List.mem_append_right _ (List.mem_cons_of_mem _ (List.mem_append_right _ (mem_pinsAt hb e))))).2.1
        have less : ∀ {ys' : List V} {σ7 : L2.St} {H7 : Hp} {s7 : Shared}, GI X S (ip ++ pinsAt fp s5.heap) ys' σ7 H7 s7 → GI X S ip ys' σ7 H7 s7 := fun {ys' σ7 H7 s7} h7 => by
          obtain ⟨acc7, cc7, r7, I7⟩ := h7
          exact ⟨acc7, cc7, r7, Inv.unpinned (pl := pinsAt fp s5.heap) I7⟩
        refine hb.run A S (ip ++ pinsAt fp s5.heap) R n ys s₀ _ _ _ _ id id s6 σ6 H6 { D with nx := N, ct := N, bk := D.nx } (G _) hn ⟨fun n' ys' s₀' s7 f hn' hs => ?_, fun n' s₀' x s7 hx => ee n' s₀' x s7 hx⟩ ⟨acc, cc, r, I6⟩ q6
        cases f with
        | next => obtain ⟨σ7, H7, I7, n7⟩ := hs; exact again hn' I7 n7
        | cont => obtain ⟨σ7, H7, I7, n7⟩ := hs; exact again hn' I7 n7
        | brk =>
          obtain ⟨σ7, H7, I7, n7⟩ := hs
          exact seg_leaf (.ok .next) (k.ok n' ys' s₀' s7 .next hn' ⟨σ7, H7, less I7, n7⟩)
        | ret v =>
          obtain ⟨v7, σ7, H7, I7, r7, n7⟩ := hs
          exact seg_leaf (.ok (.ret v)) (k.ok n' ys' s₀' s7 (.ret v) hn' ⟨v7, σ7, H7, less I7, r7, n7⟩)
  exact loop m0 0 n ys s₀ s2 σ H2 hn w0 ⟨acc0, cc0, r0, I2⟩ st2 fun b hb => (f2 b hb).1
/-! ### generator defs -/
def FnG (P : Program) (w : World) (K : PySem.W.Frag) (mg : Str → Option Value) (base : Heap) (k : Nat) (x : Str) (ps : List Str) (sp : SpG) : Prop :=
  ∃ f fd, mg x = some (.ref f) ∧ PySem.W.keepIn K (.ref f) = true ∧ Binds K fd ps [] ∧ GFn P w K mg base k f fd ps sp
section
variable {P : Program} {w : World} {K : PySem.W.Frag} {mg : Str → Option Value} {base : Heap}
theorem Def1.okG {x : Str} {ps N : List Str} {st : Stmt} {k : Nat} {sp : SpG} (d : Def1 K mg x ps st) (S : GScope N ps (defScope st)) (len : ∀ vs H Q E, sp vs H Q E → vs.length = ps.length)
    (hbody : ∀ (f : Addr) (cdv : Value) (A : Around) (outer : List PySem.Env) (s : Shared) (H : Hp) (vs : List V) (Q : List V → Hp → Prop) (E : XK) (pn : List (Addr × Obj)), Room k (A.deeper (envOfC x (defScope st) s.heap.objs.size f cdv)) → sp vs H Q E →
      ∃ t, GSs (gcxOf P w K mg base N x (defScope st) f cdv A outer s H E pn) (defBody st) t ∧ t { nx := fun ys _ H' => Q ys H', rt := fun ys v H' => v = .non ∧ Q ys H' } [] (start N vs) H) : FnG P w K mg base (k + 1) x ps sp := by
  obtain ⟨f, fd, hm, F, b⟩ := d
  refine ⟨f, fd, hm, F.kp, b, ?_⟩
  obtain ⟨oc, od, kV, doc, pm, an, cdv, ct, osl, e, lk, hcd⟩ := F.ex
  subst e
  exact gfn_of lk (by first | exact hcd | exact hcd.1) S len fun A outer s H vs Q E pn hr h => hbody f cdv A outer s H vs Q E pn hr h
theorem gcx_K {N : List Str} {q : Str} {sc : Scope} {f : Addr} {cdv : Value} {A : Around} {outer : List PySem.Env} {s : Shared} {H : Hp} {E : XK} {pn : List (Addr × Obj)} : (gcxOf P w K mg base N q sc f cdv A outer s H E pn).K = K := rfl
end
section
variable {X : Cx} {k : Nat} {x : Str} {ps : List Str} {sp : SpG}
/-- list(f(e, ..)) of a generator def that raises nothing -/
def tListGen (sp : SpG) (t : TA) : TE := fun σ H Q => t σ H fun vs H1 => sp vs H1 (fun out H2 => ∀ p, H2 p = none → Q (.ref p) (upd H2 p (.lst out))) E0
theorem noStop0 {K : PySem.W.Frag} : NoStop K E0 := fun _ _ _ h => h.elim
theorem pe_listGen {e : Expr} {es : List Expr} {t : TA} {p pos p' pos' : Pos} (G : FnG X.prog X.w X.K X.mg X.base k x ps sp) (hr : Room (k + 3) X.A) (hg : Gl X x) (hl : Gl X "list") (hml : X.mg "list" = none) (ha : PA X (e :: es) t) (hdb : (x == ("__debug__" : Str)) = false := by decide)
    (he : starEach (e :: es) X.env = (false, eval e X.env) :: starEach es X.env := by rfl) (hpl : (backTo pos' (starEach es X.env)).any (·.1) = false := by rfl)
    (he2 : starEach [Expr.Call (.Name x p') (e :: es) [] pos'] X.env = (false, eval (Expr.Call (.Name x p') (e :: es) [] pos') X.env) :: starEach [] X.env := by rfl) :
    PE X (.Call (.Name "list" p) [.Call (.Name x p') (e :: es) [] pos'] [] pos) (tListGen sp t) := by
  obtain ⟨f, fd, hm, hk, hb, F⟩ := G
  have hr0 : Room k X.A := hr.mono (by omega)
  have h := pgen_call (p := p') (E := E0) F hr0 hg hm hk hb .nil ha hdb he hpl
  have h2 := pe_listG (p := p) (pos := pos) (nm := "list") h passE0 noStop0 hr hl hml (by decide +kernel) (by decide) (by decide) he2
  refine ⟨fun pins s σ H Q I q => h2.run pins s σ H Q I ?_⟩
  unfold tListG tCallG
  simp only [List.append_nil]
  exact q
end
section
variable {σ : L2.St} {H : Hp} {Q : VK} {D : GEnds} {ys : List V} {te ta : TE} {t : TA} {g : TG} {tb : TGn}
theorem r_listGen {sp : SpG} {t : TA} (h : t σ H fun vs H1 => sp vs H1 (fun out H2 => ∀ p, H2 p = none → Q (.ref p) (upd H2 p (.lst out))) E0) : tListGen sp t σ H Q := h
def ForG (J : It) (g : TG) (tb : TGn) (D : GEnds) (ys : List V) (σ : L2.St) (H1 : Hp) : Prop := ∃ W : Nat → Nat → List V → L2.St → Hp → Prop, (∃ m, W 0 m ys σ H1) ∧ ∀ i m ys σ H, W i m ys σ H →
  (J.stop i H ∧ D.nx ys σ H) ∨ (J.go i H ∧ ∃ N : List V → L2.St → Hp → Prop, (∀ ys' σ' H', N ys' σ' H' → ∃ m', m' < m ∧ W (i + 1) m' ys' σ' H') ∧ ∀ x H', J.yld i H x H' → g x σ H' fun σ2 H2 => tb { D with nx := N, ct := N, bk := D.nx } ys σ2 H2)
theorem r_gFor {wi : TI} (h : wi σ H fun J H1 => ForG J g tb D ys σ H1) : tGFor wi g tb D ys σ H := h
theorem r_gYield (hy : ys.length < 100000) (h : te σ H fun x H1 => D.nx (ys ++ [x]) σ H1) : tGYield te D ys σ H := ⟨Nat.lt_of_lt_of_le hy (by decide), h⟩
theorem r_gNil (h : D.nx ys σ H) : tG0 D ys σ H := h
theorem r_gSeq {t u : TGn} (h : t { D with nx := fun ys' σ' H' => u D ys' σ' H' } ys σ H) : tGThen t u D ys σ H := h
theorem r_gPlain {t : TS} (h : t ⟨D.nx ys, D.rt ys, D.bk ys, D.ct ys⟩ σ H) : tPlain t D ys σ H := h
theorem loopG {lo : Int} {n : Nat} (Pv : Nat → List V → L2.St → Hp → Prop) (h0 : Pv 0 ys σ H)
    (hs : ∀ i ys' σ' H', i < n → Pv i ys' σ' H' → g (.int (lo + i)) σ' H' fun σ2 H2 => tb { D with nx := Pv (i + 1), ct := Pv (i + 1), bk := D.nx } ys' σ2 H2) (hd : ∀ ys' σ' H', Pv n ys' σ' H' → D.nx ys' σ' H') : ForG (Itr lo n) g tb D ys σ H := by
  refine ⟨fun i m ys σ H => m = n - i ∧ i ≤ n ∧ Pv i ys σ H, ⟨n, by simp, Nat.zero_le _, h0⟩, ?_⟩
  rintro i m ys σ H ⟨rfl, hi, p⟩
  by_cases hlt : i < n
  · refine .inr ⟨hlt, Pv (i + 1), fun ys' σ' H' p' => ⟨n - (i + 1), by omega, rfl, hlt, p'⟩, fun x H' y => ?_⟩
    obtain ⟨rfl, rfl⟩ := y
    exact hs i ys σ _ hlt p
  · have e : i = n := by omega
    subst e
    refine .inl ⟨?_, hd ys σ H p⟩
    first | exact Nat.le_refl _ | (show ¬ _; omega)
end
section
variable {σ : L2.St} {H : Hp} {K : PySem.W.Frag} {a c d : L2.St → Hp → Prop} {b : VK} {g : TG} {tb : TS}
/-- zip of two tuples -/
theorem r_iZip {ta : TA} {R : It → Hp → Prop} (h : ta σ H fun vs H1 => ∃ a b xs ys, vs = [.ref a, .ref b] ∧ ((SqL K H1 a xs ∧ SqL K H1 b ys ∧ R (Itz K a b) H1) ∨ (SqT K H1 a xs ∧ SqT K H1 b ys ∧ R (RZ.ItzT K a b) H1))) : RZ.iZipA K ta σ H R := h
theorem r_zipT {p q : Addr} {xs ys : List V} {D : Ends} (h1 : SqT K H p xs) (h2 : SqT K H q ys) (h : ForR (RZ.ItzT K p q) g tb D σ H) :
    ∃ a b xs ys, [V.ref p, V.ref q] = [.ref a, .ref b] ∧ ((SqL K H a xs ∧ SqL K H b ys ∧ ForR (Itz K a b) g tb D σ H) ∨ (SqT K H a xs ∧ SqT K H b ys ∧ ForR (RZ.ItzT K a b) g tb D σ H)) := ⟨p, q, xs, ys, rfl, .inr ⟨h1, h2, h⟩⟩
theorem loopZ {p q : Addr} {xs ys : List V} (Pv : Nat → L2.St → Hp → Prop) (h0 : Pv 0 σ H) (hq : ∀ i σ H, Pv i σ H → SqT K H p xs ∧ SqT K H q ys)
    (hs : ∀ (i : Nat) (x y : V) (T : Addr) (σ : L2.St) (H H2 : Hp), xs[i]? = some x → ys[i]? = some y → Pv i σ H → Same H H2 → SqT K H2 T [x, y] → g (.ref T) σ H2 fun σ2 H3 => tb ⟨Pv (i + 1), b, a, Pv (i + 1)⟩ σ2 H3)
    (hd : ∀ σ H, Pv (min xs.length ys.length) σ H → a σ H) : ForR (RZ.ItzT K p q) g tb ⟨a, b, c, d⟩ σ H := by
  refine ⟨fun i m σ H => m = xs.length - i ∧ i ≤ xs.length ∧ i ≤ ys.length ∧ Pv i σ H, ⟨xs.length, rfl, Nat.zero_le _, Nat.zero_le _, h0⟩, ?_⟩
  rintro i m σ H ⟨rfl, hi, hj, p⟩
  obtain ⟨qx, qy⟩ := hq i σ H p
  by_cases hlt : i < xs.length ∧ i < ys.length
  · have hx : xs[i]? = some xs[i] := List.getElem?_eq_getElem hlt.1
    have hy : ys[i]? = some ys[i] := List.getElem?_eq_getElem hlt.2
    refine .inr ⟨⟨xs, ys, _, _, qx, qy, hx, hy⟩, Pv (i + 1), fun σ' H' p' => ⟨xs.length - (i + 1), by omega, rfl, hlt.1, hlt.2, p'⟩, fun v H' y => ?_⟩
    obtain ⟨T, x', y', rfl, hT, rfl, f1, f2⟩ := y
    exact hs i x' y' T σ H _ (f1 xs qx) (f2 ys qy) p (ex_new hT) (SqT.of upd_same)
  · have e : i = min xs.length ys.length := by omega
    refine .inl ⟨⟨xs, ys, qx, qy, by omega⟩, hd σ H (e ▸ p)⟩
theorem r_gTup2 {T : Addr} {x y : V} {t : TGs} {Q : L2.St → Hp → Prop} (h : SqT K H T [x, y]) (q : t [x, y] σ H Q) : gTup K 2 t (.ref T) σ H Q := ⟨T, [x, y], rfl, h, rfl, q⟩
end
section
variable {σ : L2.St} {H : Hp} {Q : VK} {K : PySem.W.Frag} {a c d : L2.St → Hp → Prop} {b : VK}
theorem r_gCons {t : TG} {u : TGs} {v : V} {vs : List V} {Q : L2.St → Hp → Prop} (h : t v σ H fun σ' H' => u vs σ' H' Q) : gCons t u (v :: vs) σ H Q := ⟨v, vs, rfl, h⟩
theorem r_gNil2 {Q : L2.St → Hp → Prop} (h : Q σ H) : gNil [] σ H Q := ⟨rfl, h⟩
theorem r_aug {i : Nat} {te : TE} {ti : TIp} {x : V} (hx : σ[i]? = some (some x)) (h : te σ H fun y H1 => ti x y H1 fun z H2 => a (σ.set i (some z)) H2) : tAug i te ti ⟨a, b, c, d⟩ σ H := ⟨x, hx, h⟩
theorem r_ipI {g : Int → Int → Int} {i j : Int} (q : Q (.int (g i j)) H) : ipI g (.int i) (.int j) H Q := ⟨i, j, rfl, rfl, q⟩
theorem r_neTS {p q : Addr} {xs ys : List Str} (h1 : SqT K H p (xs.map V.str)) (h2 : SqT K H q (ys.map V.str)) (o1 : ∀ x ∈ xs, Asc x) (o2 : ∀ x ∈ ys, Asc x) (k : Q (.bl (!decide (xs = ys))) H) : rNeD K (.ref p) (.ref q) H Q := by
  refine ⟨_, _, dp_strs h1, dp_strs h2, shaped_strs o1, shaped_strs o2, ?_⟩
  rw [eqv_strs]
  exact k
theorem r_catA {p q : Addr} {xs ys : List V} (h1 : SqT K H p xs) (h2 : SqT K H q ys) (hz : xs.length + ys.length ≤ 100000) (k : ∀ r H2, Same H H2 → SqT K H2 r (xs ++ ys) → Q (.ref r) H2) : rCatA K (.ref p) (.ref q) H Q := by
  refine ⟨p, q, xs, ys, rfl, rfl, h1, h2, Nat.le_trans hz (by decide), fun e => k q H (Same.refl _) (by rw [e]; exact h2), fun _ e => k p H (Same.refl _) (by rw [e, List.append_nil]; exact h1), fun _ _ r hr => k r _ (ex_new hr) (SqT.of upd_same)⟩
theorem cutV_to {xs : List V} {n : Int} (h0 : 0 ≤ n) : cutV xs none (some n) = xs.take n.toNat := by
  unfold cutV
  have e0 : HT.sIx xs.length 0 none = 0 := rfl
  have e1 : HT.sIx xs.length xs.length (some n) = min n.toNat xs.length := by
    show (if n < 0 then (n + (xs.length : Int)).toNat else min n.toNat xs.length) = _
    rw [if_neg (by omega)]
  rw [e0, e1, List.drop_zero, Nat.sub_zero]
  by_cases h : n.toNat ≤ xs.length
  · rw [Nat.min_eq_left h]
  · rw [Nat.min_eq_right (by omega), List.take_length, List.take_of_length_le (by omega)]
theorem cutV_last {xs : List V} : cutV xs none (some (-1)) = xs.dropLast := by
  unfold cutV
  have e0 : HT.sIx xs.length 0 none = 0 := rfl
  have e1 : HT.sIx xs.length xs.length (some (-1)) = xs.length - 1 := by
    show (if (-1 : Int) < 0 then ((-1 : Int) + (xs.length : Int)).toNat else min (-1 : Int).toNat xs.length) = _
    rw [if_pos (by decide)]; omega
  rw [e0, e1, List.drop_zero, Nat.sub_zero, List.dropLast_eq_take]
end
section
variable {σ : L2.St} {H : Hp} {Q : VK}
def MsgF (s : Str) (σ : L2.St) (x : V) (H1 : Hp) (Q : VK) : Prop := (∃ y : Str, x = .str y ∧ y.length ≤ sizeLine ∧ (fun (x : V) (H1 : Hp) => ∃ y : Str, x = .str y ∧ (Str.empty ++ s ++ y).length ≤ sizeLine ∧ tJs [] (Str.empty ++ s ++ y) σ H1 fun out H2 => Q (.str out) H2) (.str y) H1) ∨
  ∃ i : Int, x = .int i ∧ i.natAbs.log2 < 1920 ∧ (fun (x : V) (H1 : Hp) => ∃ y : Str, x = .str y ∧ (Str.empty ++ s ++ y).length ≤ sizeLine ∧ tJs [] (Str.empty ++ s ++ y) σ H1 fun out H2 => Q (.str out) H2) (.str (toString i)) H1
theorem r_msgF {s : Str} {te : TE} (h1 : s.length ≤ 1000) (h : te σ H fun x H1 => MsgF s σ x H1 Q) : tJoined [tC (.str s), tFmt te] σ H Q := by
  refine ⟨s, rfl, ?_, h⟩
  rw [len_app]
  show 0 + s.length ≤ sizeLine
  have : 1000 ≤ sizeLine := by decide
  omega
theorem r_msgF1 {s z : Str} (h1 : s.length ≤ 1000) (h2 : z.length ≤ 100000) (q : ∀ out, Q (.str out) H) : MsgF s σ (.str z) H Q := by
  refine .inl ⟨z, rfl, Nat.le_trans h2 (by decide), z, rfl, ?_, q _⟩
  rw [len_app, len_app]
  show 0 + s.length + z.length ≤ sizeLine
  have : 101000 ≤ sizeLine := by decide
  omega
end
section
variable {X : Cx} {H : Hp} {Q : VK}
def rMin2 : List V → Hp → VK → Prop := fun xs H Q => ∃ i j, xs = [.int i, .int j] ∧ Q (.int (if j < i then j else i)) H
theorem cMin2 (hc : X.calm = true) : CallR X (.builtin "min") rMin2 := call_min2 hc
theorem r_min2 {i j : Int} (q : Q (.int (if j < i then j else i)) H) : rMin2 [.int i, .int j] H Q := ⟨i, j, rfl, q⟩
theorem atI_end {α : Type} {xs : List α} {v : α} (h : xs[xs.length - 1]? = some v) : atI xs (-1) = some v := by
  have hl : xs.length - 1 < xs.length := (List.getElem?_eq_some_iff.mp h).1
  have e : ixN xs.length (-1) = some (xs.length - 1) := by
    unfold ixN
    rw [if_neg (by decide), if_pos (by omega)]
    congr 1
    omega
  unfold atI
  rw [e]
  exact h
end
/-! ### names and their plain labels -/
theorem plain_name {zs : List Str} (hl : zs.length ≤ 12) (h : ∀ z ∈ zs, plainB z = true) : nameB zs = true := name_yes hl fun i y hy => .inl (h y (List.mem_of_getElem? hy))
theorem name_plain {zs : List Str} (h : nameB zs = true) (hw : wildB zs = false) : ∀ z ∈ zs, plainB z = true := by
  unfold nameB at h
  rw [hw, Bool.and_eq_true, if_neg (by decide)] at h
  exact List.all_eq_true.mp h.2
theorem name_plainW {zs : List Str} (h : nameB zs = true) (hw : wildB zs = true) : ∀ z ∈ zs.dropLast, plainB z = true := by
  unfold nameB at h
  rw [hw, Bool.and_eq_true, if_pos rfl] at h
  exact List.all_eq_true.mp h.2
theorem last_wild {zs : List Str} {y : Str} (h : zs[zs.length - 1]? = some y) : wildB zs = decide (y = "*") := by
  have h1 : 1 ≤ zs.length := by have := (List.getElem?_eq_some_iff.mp h).1; omega
  by_cases e : y = "*"
  · rw [decide_eq_true e, (wild_iff zs).mpr ⟨h1, by rw [h, e]; rfl⟩]
  · rw [decide_eq_false e]
    refine Bool.eq_false_iff.mpr fun w => e ?_
    have := ((wild_iff zs).mp w).2
    rw [h] at this
    exact Option.some.inj this
theorem sl_kA {X : Cx} {K : PySem.W.Frag} (hK : X.K = K) : SlR X (rSlA K) := hK ▸ sl_tupA
/-! ### tuples of names -/
def dT (zs : List Str) : PyData := .tuple (zs.map PyData.str)
/-- out: tuples of texts, as L says -/
def TupsAt (K : PySem.W.Frag) (H : Hp) (out : List V) (L : List (List Str)) : Prop := out.length = L.length ∧ ∀ (i : Nat) (zs : List Str), L[i]? = some zs → ∃ b, out[i]? = some (.ref b) ∧ SqT K H b (zs.map V.str)
theorem TupsAt.ex {K : PySem.W.Frag} {H H' : Hp} {out : List V} {L : List (List Str)} (h : TupsAt K H out L) (e : Same H H') : TupsAt K H' out L := ⟨h.1, fun i zs hi => by
  obtain ⟨b, hb, hs⟩ := h.2 i zs hi
  exact ⟨b, hb, ex_t e hs⟩⟩
theorem TupsAt.all {K : PySem.W.Frag} {H : Hp} : ∀ {out : List V} {L : List (List Str)}, TupsAt K H out L → DpAll K H out (L.map dT)
  | [], [], _ => .nil
  | [], _ :: _, h => by have := h.1; simp at this
  | _ :: _, [], h => by have := h.1; simp at this
  | v :: out, zs :: L, h => by
    obtain ⟨b, hb, hs⟩ := h.2 0 zs rfl
    have : v = .ref b := by simpa using hb
    subst this
    exact .cons (dp_tup hs) (TupsAt.all ⟨by simpa using h.1, fun i zs hi => by simpa using h.2 (i + 1) zs (by simpa using hi)⟩)
theorem dp_tups {K : PySem.W.Frag} {H : Hp} {t : Addr} {out : List V} {L : List (List Str)} (h : SqT K H t out) (hT : TupsAt K H out L) : Dp K H (.ref t) (.tuple (L.map dT)) := .tup h hT.all
theorem pure_tups {L : List (List Str)} (hl : L.length ≤ 10000) (h : ∀ zs ∈ L, zs.length ≤ 10000 ∧ ∀ z ∈ zs, Asc z) : pureD (.tuple (L.map dT)) = true := by
  simp only [pureD, List.length_map, decide_eq_true hl, Bool.true_and]
  refine (pureAll_iff _).mpr fun x hx => ?_
  obtain ⟨zs, hz, rfl⟩ := List.mem_map.mp hx
  exact pure_strs (h zs hz).1 (h zs hz).2
theorem depth_tupsAll : ∀ L : List (List Str), PyData.depthAll (L.map dT) ≤ 1
  | [] => by simp [PyData.depthAll]
  | zs :: L => by
    have h := depth_tupsAll L
    have h2 := depth_tup zs
    simp only [List.map_cons, PyData.depthAll]
    unfold dT at h ⊢
    omega
theorem eqv_tups (L : List (List Str)) : PyData.eqv (.tuple (L.map dT)) (.tuple (L.map dT)) = true := by
  simp only [PyData.eqv]
  refine eqvAll_yes rfl fun i d e h1 h2 => ?_
  rw [h1] at h2
  cases h2
  rw [List.getElem?_map] at h1
  cases hz : L[i]? with
  | none => rw [hz] at h1; cases h1
  | some zs =>
    rw [hz] at h1
    cases h1
    unfold dT
    rw [eqv_strs]
    simp
/-- _law_same of the same names -/
theorem r_same_tups {K : PySem.W.Frag} {H : Hp} {Q : VK} {a b : Addr} {xs ys : List V} {L : List (List Str)} {n : Nat} (h1 : SqT K H a xs) (h2 : SqT K H b ys) (t1 : TupsAt K H xs L) (t2 : TupsAt K H ys L) (hl : L.length ≤ 10000) (h : ∀ zs ∈ L, zs.length ≤ 10000 ∧ ∀ z ∈ zs, Asc z)
    (q : Q (.bl true) H) : spSame K (n + 3) [.ref a, .ref b] H Q E0 :=
  ⟨_, _, _, _, rfl, dp_tups h1 t1, dp_tups h2 t2, pure_tups hl h, pure_tups hl h, by
    have := depth_tupsAll L
    simp only [PyData.depth]
    omega, by rw [eqv_tups]; exact q⟩
end My

set_option Elab.async false
set_option linter.all false
set_option maxRecDepth 100000
set_option maxHeartbeats 4000000
namespace My
open PySem PySem.Spec PyProof.Rows L2 PySem.W
open C8 (tCut pss_cut)
/-! ### order of data of one form -/
section
variable {X : Cx}
def rLtD (K : PySem.W.Frag) : R2 := fun x y H Q => ∃ d e, Dp K H x d ∧ Dp K H y e ∧ alike d e = true ∧ d ≠ .none ∧ d.depth ≤ 64 ∧ Q (.bl (dataLt d e)) H
def rLeD (K : PySem.W.Frag) : R2 := fun x y H Q => ∃ d e, Dp K H x d ∧ Dp K H y e ∧ alike d e = true ∧ d ≠ .none ∧ d.depth ≤ 64 ∧ Q (.bl (!dataLt e d)) H
def rGtD (K : PySem.W.Frag) : R2 := fun x y H Q => ∃ d e, Dp K H x d ∧ Dp K H y e ∧ alike d e = true ∧ d ≠ .none ∧ d.depth ≤ 64 ∧ Q (.bl (dataLt e d)) H
def rGeD (K : PySem.W.Frag) : R2 := fun x y H Q => ∃ d e, Dp K H x d ∧ Dp K H y e ∧ alike d e = true ∧ d ≠ .none ∧ d.depth ≤ 64 ∧ Q (.bl (!dataLt d e)) H
theorem op_ltD (hu : X.A.units + 64 < cLine) : OpR X (compareOp .Lt) (rLtD X.K) := by
  intro pins s σ H x y v u Q I rx ry h
  obtain ⟨d, e, hd, he, ha, hn, hz, q⟩ := h
  obtain ⟨as, r1⟩ := Dp.reads I d x v hd rx
  obtain ⟨bs, r2⟩ := Dp.reads I e y u he ry
  exact lt_data r1 r2 ha hn (by omega) ⟨.bl _, H, I, rfl, q⟩
theorem op_leD (hu : X.A.units + 64 < cLine) : OpR X (compareOp .LtE) (rLeD X.K) := by
  intro pins s σ H x y v u Q I rx ry h
  obtain ⟨d, e, hd, he, ha, hn, hz, q⟩ := h
  obtain ⟨as, r1⟩ := Dp.reads I d x v hd rx
  obtain ⟨bs, r2⟩ := Dp.reads I e y u he ry
  exact le_data r1 r2 ha hn (by omega) ⟨.bl _, H, I, rfl, q⟩
theorem op_gtD (hu : X.A.units + 64 < cLine) : OpR X (compareOp .Gt) (rGtD X.K) := by
  intro pins s σ H x y v u Q I rx ry h
  obtain ⟨d, e, hd, he, ha, hn, hz, q⟩ := h
  obtain ⟨as, r1⟩ := Dp.reads I d x v hd rx
  obtain ⟨bs, r2⟩ := Dp.reads I e y u he ry
  exact gt_data r1 r2 ha hn (by omega) ⟨.bl _, H, I, rfl, q⟩
theorem op_geD (hu : X.A.units + 64 < cLine) : OpR X (compareOp .GtE) (rGeD X.K) := by
  intro pins s σ H x y v u Q I rx ry h
  obtain ⟨d, e, hd, he, ha, hn, hz, q⟩ := h
  obtain ⟨as, r1⟩ := Dp.reads I d x v hd rx
  obtain ⟨bs, r2⟩ := Dp.reads I e y u he ry
  exact ge_data r1 r2 ha hn (by omega) ⟨.bl _, H, I, rfl, q⟩
end
/-! ### sorted(xs) of tuples, the empty one among them -/
section
open PySem.SeqAt
variable {prog : Program} {w : World} {A : Around} {E : Value → Shared → Prop} {s : Shared}
theorem call_tup_lt {Q : Value → Shared → Prop} {l b : Addr} {items items2 : Array Value} {e r : Nat → Bool} (hl : s.heap.IsTuple l items) (hb : s.heap.IsTuple b items2)
    (he : ∀ j (h1 : j < items.size) (h2 : j < items2.size), EqAt A.in1 s items[j] items2[j] (e j)) (hr : ∀ j (h1 : j < items.size) (h2 : j < items2.size), e j = false → RcLt A.in1 s items[j] items2[j] (r j))
    (h : Q (.bool (firstLt e r (decide (items.size < items2.size)) (List.range (min items.size items2.size)))) s) : wpAny (model prog w) A (call (.builtin "tuple.__lt__") [.ref l, .ref b]) Q E s := by
  obtain ⟨⟨cls, dd, data, sl⟩, ho, hc, n, hd⟩ := id hl
  obtain ⟨⟨cls2, dd2, data2, sl2⟩, ho2, hc2, n2, hd2⟩ := id hb
  simp only at hc hd hc2 hd2
  subst hc hd hc2 hd2
  exact call_meets F.slot_tuple_lt ⟨_, ho, rfl⟩ F.entry_tuple_lt (F.args_tuple_lt_2 _ _) (tuple_ltAt l b items items2 n n2 dd dd2 sl sl2 e r) ⟨ho, ho2, he, hr, h⟩
theorem oneLt_tups {f : Bool} {xs ys : List PyData} {a b : Value} {as bs : List Addr} {Q : Bool → Shared → Prop} (ra : Reads s.heap a (.tuple xs) as) (rb : Reads s.heap b (.tuple ys) bs) (h : alike (.tuple xs) (.tuple ys) = true)
    (hu : A.units + min (PyData.tuple xs).depth (PyData.tuple ys).depth < cLine) (hq : Q (dataLt (.tuple xs) (.tuple ys)) s) : wpAny (model prog w) A (oneLt' f a b) Q E s := by
  cases f with
  | false =>
    rw [oneLt'_eq]
    simp only [Bool.false_eq_true, if_false]
    exact wpAny_bind (rcLt_alike _ _ A s a b as bs ra rb h (by intro z; cases z) hu prog w E _ (wpAny_truthy_bool hq))
  | true =>
    have hal : alikeAll xs ys = true := by simpa [alike] using h
    cases ra with
    | @tuple l o vs n _ as₁ h1 h2 h3 h4 =>
      cases rb with
      | @tuple l' o' vs' n' _ bs₁ k1 k2 k3 k4 =>
        have n1 : vs.size = xs.length := by simpa using SeqAt.ReadsAll.length _ _ _ h4
        have n2 : vs'.size = ys.length := by simpa using SeqAt.ReadsAll.length _ _ _ k4
        rw [dataLt_tuple, ← firstLt_toks xs ys hal, ← n1, ← n2] at hq
        rw [oneLt'_eq]
        simp only [if_true]
        refine wpAny_bind (wpAny_cRoomFor (room_here hu) ?_)
        refine wpAny_bind (wpAny_callSpecialIfBound?_slot (T := "tuple") ⟨_, h1, h2⟩ F.slot_tuple_lt (call_tup_lt (e := pairEq xs ys) (r := fun j => dataLt (xs.getD j .none) (ys.getD j .none)) ⟨_, h1, h2, _, h3⟩ ⟨_, k1, k2, _, k3⟩ (fun j j1 j2 => ?_) (fun j j1 j2 hj => ?_) ?_))
        · have := eqAt_alikeAll xs ys A.in1 s vs.toList vs'.toList _ _ h4 k4 hal (room_in hu) j (by simpa using j1) (by simpa using j2)
          simpa using this
        · have := rcLt_alikeAll xs ys A.in1 s vs.toList vs'.toList _ _ h4 k4 hal (room_in hu) j (by simpa using j1) (by simpa using j2) hj
          simpa using this
        · exact wpAny_truthy_bool hq
theorem keyLt_general (x y : Value) : keyLt' general' x y = oneLt' false x y := rfl
/-- the first items of the keys -/
def firstD : PyData → Bool
  | .tuple (_ :: _) => true
  | _ => false
theorem firsts_reads : ∀ (vs : List Value) (ds : List PyData) {Q : List (Option Value) → Shared → Prop}, EachIs (fun v d => ∃ as, Reads s.heap v d as) vs ds → (∀ d ∈ ds, ∃ xs, d = .tuple xs) →
    (∀ fs : List (Option Value), fs.map (·.isSome) = ds.map firstD → Q fs s) → wpAny (model prog w) A (vs.mapM firstOfTuple') Q E s
  | [], ds, Q, e, ht, h => by
    cases e
    rw [List.mapM_nil]
    exact wpAny_pure (h [] rfl)
  | v :: vs, ds, Q, e, ht, h => by
    cases e with
    | @cons _ d _ ds h1 t =>
      obtain ⟨as, r⟩ := h1
      obtain ⟨xs, rfl⟩ := ht d List.mem_cons_self
      cases r with
      | @tuple a o xs' n _ _ ho hc hd hr =>
        rw [List.mapM_cons]
        refine wpAny_bind ?_
        rw [kas_first_eq]
        refine wpAny_bind (Looks.here (show Looks (model prog w) s.heap (typeOf (.ref a)) o.cls from (Looks.ld ho).andThen .now) ?_)
        rw [hc, if_neg (by first | decide | simp)]
        refine wpAny_bind (listItems_at ho hd (wpAny_pure ?_))
        have hz : xs'.size = xs.length := by simpa using SeqAt.ReadsAll.length _ _ _ hr
        refine wpAny_bind (firsts_reads vs ds (Q := fun bs s' => wpAny (model prog w) A (pure (xs'[0]? :: bs)) Q E s') t (fun d hd => ht d (List.mem_cons_of_mem _ hd)) fun fs hf => wpAny_pure (h _ ?_))
        rw [List.map_cons, List.map_cons, hf]
        congr 1
        cases xs with
        | nil =>
          have : xs'[0]? = none := Array.getElem?_eq_none (by rw [hz]; simp)
          rw [this]; rfl
        | cons x xs =>
          have h0 : 0 < xs'.size := by rw [hz]; simp
          rw [Array.getElem?_eq_getElem h0]; rfl
theorem allAlike_tail {d : PyData} {ds : List PyData} (h : AllAlike (d :: ds)) : AllAlike ds := fun x hx y hy => h x (List.mem_cons_of_mem _ hx) y (List.mem_cons_of_mem _ hy)
/-- tuples that are alike can be sorted, whatever their lengths -/
theorem sortsAt_tups {vs : List Value} {ds : List PyData} (e : EachIs (fun v d => ∃ as, Reads s.heap v d as) vs ds) (hal : AllAlike ds) (ht : ∀ d ∈ ds, ∃ xs, d = .tuple xs) (hu : ∀ d, d ∈ ds → A.units + d.depth < cLine) : SortsAt prog w A s (dataKind s.heap ds) vs := by
  by_cases hall : ∀ d ∈ ds, firstD d = true
  · refine SortsAt.data e hal (.inl fun d hd => ?_) hu
    obtain ⟨xs, rfl⟩ := ht d hd
    cases xs with
    | nil => have := hall _ hd; cases this
    | cons x r => exact ⟨x, r, rfl⟩
  have room : ∀ {d d' : PyData}, d ∈ ds → A.units + min d.depth d'.depth < cLine := fun {d d'} hd => Nat.lt_of_le_of_lt (Nat.add_le_add_left (Nat.min_le_left _ _) _) (hu d hd)
  have hlt : ∀ f : Bool, ∀ E : Value → Shared → Prop, ∀ (x y : Value) (a b : (dataKind s.heap ds).α) {Q : Bool → Shared → Prop}, (dataKind s.heap ds).keyOf x = some a → (dataKind s.heap ds).keyOf y = some b → Q ((dataKind s.heap ds).blt a b) s → wpAny (model prog w) A (oneLt' f x y) Q E s := by
    intro f E x y a b Q ha hb hq
    obtain ⟨d, as, hd, ra, rfl⟩ := dataKind_inv ha
    obtain ⟨d', as', hd', rb, rfl⟩ := dataKind_inv hb
    obtain ⟨x1, rfl⟩ := ht d hd
    obtain ⟨x2, rfl⟩ := ht d' hd'
    exact oneLt_tups ra rb (hal _ hd _ hd') (room hd) hq
  refine ⟨fun v hv => ?_, ?_⟩
  · obtain ⟨d, hd, as, r⟩ := e.left v hv
    exact ⟨_, dataKind_some hal hd r⟩
  have hno : ∀ fs : List (Option Value), fs.map (·.isSome) = ds.map firstD → (fs.toArray.all fun x => x.isSome) = false := fun fs hf => by
    rw [Bool.eq_false_iff]
    intro h
    refine hall fun d hd => ?_
    rw [List.all_toArray, List.all_eq_true] at h
    have hm : firstD d ∈ fs.map (·.isSome) := by rw [hf]; exact List.mem_map_of_mem hd
    obtain ⟨x, hx, e1⟩ := List.mem_map.mp hm
    rw [← e1]
    exact h x hx
  cases ds with
  | nil => exact absurd (fun d hd => by cases hd) hall
  | cons d₀ ds₀ =>
    cases hf0 : firstD d₀ with
    | true =>
      refine ⟨general', fun E x y a b Q ha hb hq => ?_, fun h2 E Q hq => ?_⟩
      · rw [keyLt_general]
        exact hlt false E x y a b ha hb hq
      · rw [keyKind'_eq, List.mapM_toArray, map_eq_pure_bind]
        refine wpAny_bind (wpAny_bind (firsts_reads vs _ e ht fun fs hf => wpAny_pure ?_))
        rw [if_neg (by rw [hno fs hf]; decide)]
        cases fs with
        | nil => simp at hf
        | cons f fs =>
          have e1 : f.isSome = true := by rw [List.map_cons, List.map_cons] at hf; rw [(List.cons.inj hf).1, hf0]
          rw [if_pos (by simpa using e1)]
          exact wpAny_pure hq
    | false =>
      refine ⟨oneType', fun E x y a b Q ha hb hq => ?_, fun h2 E Q hq => ?_⟩
      · rw [keyLt'_oneType]
        exact hlt true E x y a b ha hb hq
      · obtain ⟨v₁, v₂, rest, rfl⟩ : ∃ v₁ v₂ rest, vs = v₁ :: v₂ :: rest := by
          match vs, h2 with
          | [], h2 => simp at h2
          | [_], h2 => simp at h2
          | v₁ :: v₂ :: rest, _ => exact ⟨v₁, v₂, rest, rfl⟩
        rw [keyKind'_eq, List.mapM_toArray, map_eq_pure_bind]
        refine wpAny_bind (wpAny_bind (firsts_reads _ _ e ht fun fs hf => wpAny_pure ?_))
        rw [if_neg (by rw [hno fs hf]; decide)]
        cases fs with
        | nil => simp at hf
        | cons f fs =>
          have e1 : f.isSome = false := by rw [List.map_cons, List.map_cons] at hf; rw [(List.cons.inj hf).1, hf0]
          rw [if_neg (by simpa using e1)]
          rw [oneTypeOnly'_eq, List.mapM_toArray, map_eq_pure_bind]
          refine wpAny_bind (wpAny_bind (wpAny_bind (kas_mapM (r := Value.type "tuple") _ (fun v hv Q' hq => ?_) (wpAny_pure ?_))))
          · obtain ⟨d, hd, as, r⟩ := e.left v hv
            obtain ⟨xs, rfl⟩ := ht d hd
            exact (show Looks (model prog w) s.heap (typeOf v) (.type "tuple") from looks_reads r).here hq
          · have hall : ((List.map (fun _ => Value.type "tuple") (v₁ :: v₂ :: rest)).toArray.all fun x => x == Value.type "tuple") = true := by
              simp only [List.all_toArray, List.all_map, List.all_eq_true]
              intro _ _
              exact beq_self_eq_true _
            have h0 : (List.map (fun _ => Value.type "tuple") (v₁ :: v₂ :: rest)).toArray[0]? = some (Value.type "tuple") := by simp
            rw [h0]
            simp only [hall, if_true]
            exact wpAny_pure (wpAny_pure hq)
/-- all are tuples, or none is a tuple or None -/
def SortableT (ds : List PyData) : Prop := (∀ d ∈ ds, ∃ xs, d = .tuple xs) ∨ ∀ d ∈ ds, d ≠ .none ∧ ∀ xs, d ≠ .tuple xs
theorem sortsAt_data {vs : List Value} {ds : List PyData} (e : EachIs (fun v d => ∃ as, Reads s.heap v d as) vs ds) (hal : AllAlike ds) (hk : SortableT ds) (hu : ∀ d, d ∈ ds → A.units + d.depth < cLine) : SortsAt prog w A s (dataKind s.heap ds) vs := by
  rcases hk with h | h
  · exact sortsAt_tups e hal h hu
  · exact SortsAt.data e hal (.inr h) hu
theorem sorted_dataT {R : Value → PyData → Prop} {ds : List PyData} {vs : List Value} {l : Addr} {Q : Value → Shared → Prop} (hl : s.heap.IsList l vs.toArray) (e : EachIs R vs ds) (er : EachIs (fun v d => ∃ as, Reads s.heap v d as) vs ds) (hal : AllAlike ds) (hk : SortableT ds) (hL : ds.length ≤ sizeLine)
    (hu : ∀ d, d ∈ ds → A.units + 2 + d.depth < cLine) (h : ∀ out, out.length = ds.length → EachIs R out (ds.mergeSort (dataLe false id)) → Q (.ref (s.heap.objs.size + 1)) { s with heap := sortedAll s.heap vs (List.toArray out) }) :
    wpAny (model prog w) A (call (.builtin "sorted") [.ref l]) Q E s := by
  have er' : EachIs (fun v b => ∃ as, Reads (sortingHeap (copyHeap s.heap vs) (s.heap.objs.size + 1) vs) v b as) vs ds := er.mono fun _ _ ⟨as, r⟩ => ⟨as, PyProof.Rows.Reads.keeps (fun _ _ => sorting_copy_old) r⟩
  have em : ds.map id = ds := List.map_id ds
  have hal' : AllAlike (ds.map id) := by rw [em]; exact hal
  refine sorted_vals hl (sortsAt_data (s := { s with heap := sortingHeap (copyHeap s.heap vs) (s.heap.objs.size + 1) vs }) er' hal hk fun d hd => ?_) (by rw [e.length]; exact hL) (h _ (by rw [sortVals_length false rfl]; exact e.length) ?_)
  · have := hu d hd
    first | exact this | (show A.in1.in1.units + _ < _; exact this)
  · have := sortVals_data (h' := sortingHeap (copyHeap s.heap vs) (s.heap.objs.size + 1) vs) (enc := id) false e er' hal'
    rw [em] at this
    exact this
end
section
variable {X : Cx}
theorem vals_of_each {K : PySem.W.Frag} {H : Hp} : ∀ {out : List Value} {ds : List PyData}, EachIs (fun v d => ∃ y, RelV y v ∧ Dp K H y d) out ds → ∃ ys, Vals ys out ∧ DpAll K H ys ds
  | _, _, .nil => ⟨[], .nil, .nil⟩
  | _, _, .cons ⟨y, r, h⟩ t => by
    obtain ⟨ys, r2, h2⟩ := vals_of_each t
    exact ⟨y :: ys, .cons r r2, .cons h h2⟩
theorem each_of_vals {K : PySem.W.Frag} {H : Hp} : ∀ {xs : List V} {vs : List Value} {ds : List PyData}, Vals xs vs → DpAll K H xs ds → EachIs (fun v d => ∃ y, RelV y v ∧ Dp K H y d) vs ds
  | _, _, _, .nil, .nil => .nil
  | _, _, _, .cons r t, .cons h u => .cons ⟨_, r, h⟩ (each_of_vals t u)
/-- sorted(xs), xs a list of data that are alike -/
def rSortD (K : PySem.W.Frag) : List V → Hp → VK → Prop := fun vs H Q => ∃ (a : Addr) (xs : List V) (ds : List PyData), vs = [V.ref a] ∧ SqL K H a xs ∧ DpAll K H xs ds ∧ AllAlike ds ∧ SortableT ds ∧ (∀ d ∈ ds, d.depth ≤ 60) ∧
  ∀ (ys : List V) (p : Addr), DpAll K H ys (ds.mergeSort (dataLe false id)) → H p = none → Q (.ref p) (upd H p (.lst ys))
theorem cr_sortedD (hu : X.A.units + 64 < cLine) : CallR X (.builtin "sorted") (rSortD X.K) := by
  intro pins s σ H vs us Q I r h
  obtain ⟨a, xs, ds, rfl, hs, hx, hal, hk, hz, q⟩ := h
  obtain ⟨its, rv, hl, hsz⟩ := I.list hs
  obtain ⟨u, rfl, ru⟩ := vals1 r
  obtain rfl : u = Value.ref a := ru
  have el : xs.length = ds.length := dpAll_len hx
  have e1 := each_of_vals rv hx
  refine sorted_dataT (R := fun v d => ∃ y, RelV y v ∧ Dp X.K H y d) hl.isList e1 (e1.mono fun v d ⟨y, r, h⟩ => Dp.reads I d y v h r) hal hk (by rw [← el]; exact hsz) (fun d hd => by have := hz d hd; omega) fun out ho h2 => ?_
  obtain ⟨ys, r2, h3⟩ := vals_of_each h2
  obtain ⟨n, hn⟩ := sortedAll_at s.heap its (List.toArray out)
  refine ⟨.ref (s.heap.objs.size + 1), upd H (s.heap.objs.size + 1) (.lst ys), I.laid (t' := s.toks) (fun b o e => sortedAll_old e) (Nat.le_succ _) ⟨?_, out, n, r2, hn⟩, rfl, q ys _ h3 (I.hok.fresh (Nat.le_succ _))⟩
  rw [r2.length, ho, ← el]
  exact hsz
end
section
variable {K : PySem.W.Frag} {H : Hp} {Q : VK}
theorem r_sortD {a : Addr} {xs : List V} {ds : List PyData} (hs : SqL K H a xs) (hx : DpAll K H xs ds) (hal : AllAlike ds) (hk : SortableT ds) (hz : ∀ d ∈ ds, d.depth ≤ 60)
    (q : ∀ (ys : List V) (p : Addr) H2, DpAll K H ys (ds.mergeSort (dataLe false id)) → H p = none → Same H H2 → H2 p = some (.lst ys) → Q (.ref p) H2) : rSortD K [.ref a] H Q :=
  ⟨a, xs, ds, rfl, hs, hx, hal, hk, hz, fun ys p h hp => q ys p _ h hp (ex_new hp) upd_same⟩
/-! ### names in order -/
/-- tuples of texts, the lesser -/
def ltN (xs ys : List Str) : Bool := dataLt (dT xs) (dT ys)
theorem alike_strs : ∀ xs ys : List Str, alikeAll (xs.map PyData.str) (ys.map PyData.str) = true
  | [], _ => by simp [alikeAll]
  | _ :: _, [] => by simp [alikeAll]
  | x :: xs, y :: ys => by
    simp only [List.map_cons, alikeAll, alike_strs xs ys, alike, Bool.and_self]
theorem alike_dT (xs ys : List Str) : alike (dT xs) (dT ys) = true := by
  unfold dT
  simp only [alike]
  exact alike_strs xs ys
theorem r_ltTS {a b : Addr} {xs ys : List Str} (h1 : SqT K H a (xs.map V.str)) (h2 : SqT K H b (ys.map V.str)) (q : Q (.bl (ltN xs ys)) H) : rLtD K (.ref a) (.ref b) H Q :=
  ⟨_, _, dp_tup h1, dp_tup h2, alike_dT _ _, (by intro z; cases z), by have := depth_tup xs; omega, q⟩
theorem r_leTS {a b : Addr} {xs ys : List Str} (h1 : SqT K H a (xs.map V.str)) (h2 : SqT K H b (ys.map V.str)) (q : Q (.bl (!ltN ys xs)) H) : rLeD K (.ref a) (.ref b) H Q :=
  ⟨_, _, dp_tup h1, dp_tup h2, alike_dT _ _, (by intro z; cases z), by have := depth_tup xs; omega, q⟩
theorem r_gtTS {a b : Addr} {xs ys : List Str} (h1 : SqT K H a (xs.map V.str)) (h2 : SqT K H b (ys.map V.str)) (q : Q (.bl (ltN ys xs)) H) : rGtD K (.ref a) (.ref b) H Q :=
  ⟨_, _, dp_tup h1, dp_tup h2, alike_dT _ _, (by intro z; cases z), by have := depth_tup xs; omega, q⟩
theorem r_geTS {a b : Addr} {xs ys : List Str} (h1 : SqT K H a (xs.map V.str)) (h2 : SqT K H b (ys.map V.str)) (q : Q (.bl (!ltN xs ys)) H) : rGeD K (.ref a) (.ref b) H Q :=
  ⟨_, _, dp_tup h1, dp_tup h2, alike_dT _ _, (by intro z; cases z), by have := depth_tup xs; omega, q⟩
/-- texts, the lesser -/
def ltS (x y : Str) : Bool := decide (x.cps.toList < y.cps.toList)
theorem ltN_cons (x y : Str) (xs ys : List Str) : ltN (x :: xs) (y :: ys) = if x = y then ltN xs ys else ltS x y := by
  unfold ltN dT ltS
  rw [dataLt_tuple, dataLt_tuple, List.map_cons, List.map_cons, dataLt_cons (by simp [alike])]
  rw [dataLt_str]
  by_cases h : x = y
  · rw [if_pos h, if_pos (by simp [PyData.eqv, h])]
  · rw [if_neg h, if_neg (by simp [PyData.eqv, h])]
theorem ltN_nil_cons (y : Str) (ys : List Str) : ltN [] (y :: ys) = true := by
  unfold ltN dT
  rw [dataLt_tuple, List.map_cons, toks_all_cons]
  simp only [List.map_nil, keyToksAll]
  rw [lex_diff (O := itemOrd) (by simp)]
  first | rfl | decide | simp [itemOrd, itemLt]
theorem ltN_nil (xs : List Str) : ltN xs [] = false := by
  cases xs with
  | nil =>
    unfold ltN
    exact lex_irrefl _
  | cons x xs =>
    unfold ltN dT
    rw [dataLt_tuple, List.map_cons, toks_all_cons]
    simp only [List.map_nil, keyToksAll]
    rw [lex_diff (O := itemOrd) (by simp)]
    first | rfl | decide | simp [itemOrd, itemLt]
theorem ltS_irrefl (x : Str) : ltS x x = false := by
  unfold ltS
  exact decide_eq_false (List.lt_irrefl _)
theorem ltS_trans {x y z : Str} (h1 : ltS x y = true) (h2 : ltS y z = true) : ltS x z = true := by
  unfold ltS at *
  rw [decide_eq_true_iff] at *
  exact List.lt_trans h1 h2
theorem ltS_total {x y : Str} (h : x ≠ y) : ltS x y = true ∨ ltS y x = true := by
  unfold ltS
  simp only [decide_eq_true_iff]
  have hne : x.cps.toList ≠ y.cps.toList := fun e => h (TL.ext_tl e)
  by_cases h1 : x.cps.toList < y.cps.toList
  · exact .inl h1
  · by_cases h2 : y.cps.toList < x.cps.toList
    · exact .inr h2
    · exact absurd (List.le_antisymm (List.not_lt.mp h2) (List.not_lt.mp h1)) hne
theorem ltS_asymm {x y : Str} (h : ltS x y = true) : ltS y x = false := by
  cases e : ltS y x with
  | false => rfl
  | true =>
    have := ltS_trans h e
    rw [ltS_irrefl] at this
    cases this
theorem ltN_irrefl : ∀ xs : List Str, ltN xs xs = false
  | [] => ltN_nil []
  | x :: xs => by rw [ltN_cons, if_pos rfl, ltN_irrefl xs]
theorem ltN_trans : ∀ {xs ys zs : List Str}, ltN xs ys = true → ltN ys zs = true → ltN xs zs = true
  | [], [], _, h, _ => by rw [ltN_nil] at h; cases h
  | _ :: _, [], _, h, _ => by rw [ltN_nil] at h; cases h
  | _, _ :: _, [], _, h => by rw [ltN_nil] at h; cases h
  | [], _ :: _, z :: zs, _, _ => ltN_nil_cons z zs
  | x :: xs, y :: ys, z :: zs, h1, h2 => by
    rw [ltN_cons] at h1 h2 ⊢
    by_cases e1 : x = y
    · rw [if_pos e1] at h1
      subst e1
      by_cases e2 : x = z
      · rw [if_pos e2] at h2 ⊢
        exact ltN_trans h1 h2
      · rw [if_neg e2] at h2 ⊢
        exact h2
    · rw [if_neg e1] at h1
      by_cases e2 : y = z
      · subst e2
        rw [if_neg e1]
        exact h1
      · rw [if_neg e2] at h2
        have h3 := ltS_trans h1 h2
        by_cases e3 : x = z
        · subst e3
          rw [ltS_irrefl] at h3
          cases h3
        · rw [if_neg e3]
          exact h3
theorem ltN_total : ∀ {xs ys : List Str}, xs ≠ ys → ltN xs ys = true ∨ ltN ys xs = true
  | [], [], h => absurd rfl h
  | [], y :: ys, _ => .inl (ltN_nil_cons y ys)
  | x :: xs, [], _ => .inr (ltN_nil_cons x xs)
  | x :: xs, y :: ys, h => by
    rw [ltN_cons, ltN_cons]
    by_cases e : x = y
    · rw [if_pos e, if_pos e.symm]
      exact ltN_total fun z => h (by rw [e, z])
    · rw [if_neg e, if_neg fun z => e z.symm]
      exact ltS_total e
theorem ltN_asymm {xs ys : List Str} (h : ltN xs ys = true) : ltN ys xs = false := by
  cases e : ltN ys xs with
  | false => rfl
  | true =>
    have := ltN_trans h e
    rw [ltN_irrefl] at this
    cases this
/-- x ≤ y -/
theorem leN_iff {xs ys : List Str} : ltN ys xs = false ↔ xs = ys ∨ ltN xs ys = true := by
  constructor
  · intro h
    by_cases e : xs = ys
    · exact .inl e
    · rcases ltN_total e with h1 | h1
      · exact .inr h1
      · rw [h] at h1; cases h1
  · rintro (rfl | h)
    · exact ltN_irrefl _
    · exact ltN_asymm h
theorem ltN_app : ∀ p xs ys : List Str, ltN (p ++ xs) (p ++ ys) = ltN xs ys
  | [], _, _ => rfl
  | x :: p, xs, ys => by rw [List.cons_append, List.cons_append, ltN_cons, if_pos rfl, ltN_app p]
end
/-! ### sorted lists of names, membership -/
section
variable {X : Cx}
def rMax2 : List V → Hp → VK → Prop := fun xs H Q => ∃ i j, xs = [.int i, .int j] ∧ Q (.int (if j > i then j else i)) H
theorem cMax2 (hc : X.calm = true) : CallR X (.builtin "max") rMax2 := call_max2 hc
end
theorem units65 {k : Nat} {A : Around} (r : Room k A) : A.units + 65 < cLine := by have := r.un; omega
section
variable {K : PySem.W.Frag} {H : Hp} {Q : VK}
theorem r_max2 {i j : Int} (q : Q (.int (if j > i then j else i)) H) : rMax2 [.int i, .int j] H Q := ⟨i, j, rfl, q⟩
theorem all_dT {L : List (List Str)} {d : PyData} (h : d ∈ L.map dT) : ∃ zs ∈ L, d = dT zs := by
  obtain ⟨zs, hz, rfl⟩ := List.mem_map.mp h
  exact ⟨zs, hz, rfl⟩
theorem dp_inv {v : V} {zs : List Str} (h : Dp K H v (dT zs)) : ∃ b, v = .ref b ∧ SqT K H b (zs.map V.str) := by
  unfold dT at h
  have key : ∀ (xs : List V) (zs : List Str), DpAll K H xs (zs.map PyData.str) → xs = zs.map V.str := by
    intro xs zs
    induction zs generalizing xs with
    | nil => intro h; cases h; rfl
    | cons z zs ih =>
      intro h
      cases h with
      | cons h1 h2 =>
        cases h1
        rw [ih _ h2]; rfl
  cases h with
  | tup hs ha => exact ⟨_, rfl, by rw [← key _ _ ha]; exact hs⟩
theorem TupsAt.of {out : List V} {L : List (List Str)} (h : DpAll K H out (L.map dT)) : TupsAt K H out L := by
  refine ⟨by have := dpAll_len h; simpa using this, fun i zs hi => ?_⟩
  obtain ⟨v, hv, hd⟩ := dpAll_get h (i := i) (d := dT zs) (by rw [List.getElem?_map, hi]; rfl)
  obtain ⟨b, rfl, hb⟩ := dp_inv hd
  exact ⟨b, hv, hb⟩
def leN (xs ys : List Str) : Bool := !ltN ys xs
theorem leN_trans {a b c : List Str} (h1 : leN a b = true) (h2 : leN b c = true) : leN a c = true := by
  unfold leN at *
  simp only [Bool.not_eq_true'] at *
  rcases leN_iff.mp h1 with rfl | h1
  · exact h2
  · rcases leN_iff.mp h2 with rfl | h2
    · exact ltN_asymm h1
    · exact ltN_asymm (ltN_trans h1 h2)
theorem leN_total (a b : List Str) : (leN a b || leN b a) = true := by
  unfold leN
  cases h : ltN b a with
  | false => rfl
  | true => rw [ltN_asymm h]; rfl
def sortN (L : List (List Str)) : List (List Str) := L.mergeSort leN
theorem sortN_perm (L : List (List Str)) : (sortN L).Perm L := List.mergeSort_perm L leN
theorem sortN_sorted (L : List (List Str)) : (sortN L).Pairwise fun a b => leN a b = true := List.pairwise_mergeSort (le := leN) (fun _ _ _ h1 h2 => leN_trans h1 h2) (fun a b => leN_total a b) L
/-- sorted(names) -/
theorem r_sortN {a : Addr} {xs : List V} {L : List (List Str)} (hs : SqL K H a xs) (hx : TupsAt K H xs L)
    (q : ∀ (ys : List V) (p : Addr) H2, TupsAt K H2 ys (sortN L) → H p = none → Same H H2 → H2 p = some (.lst ys) → Q (.ref p) H2) : rSortD K [.ref a] H Q := by
  refine r_sortD hs hx.all (fun d hd d' hd' => ?_) (.inl fun d hd => ?_) (fun d hd => ?_) fun ys p H2 h1 hp e h2 => q ys p H2 ?_ hp e h2
  · obtain ⟨x, _, rfl⟩ := all_dT hd
    obtain ⟨y, _, rfl⟩ := all_dT hd'
    exact alike_dT x y
  · obtain ⟨x, _, rfl⟩ := all_dT hd
    exact ⟨_, rfl⟩
  · obtain ⟨x, _, rfl⟩ := all_dT hd
    have := depth_tup x
    unfold dT
    omega
  · refine TupsAt.ex (TupsAt.of ?_) e
    unfold sortN
    have e : (L.mergeSort leN).map dT = (L.map dT).mergeSort (dataLe false id) := sort_maps dT fun a _ b _ => rfl
    rw [e]
    exact h1
theorem any_dT (L : List (List Str)) (zs : List Str) : ((L.map dT).any fun z => PyData.eqv z (dT zs)) = decide (zs ∈ L) := by
  induction L with
  | nil => simp
  | cons y L ih =>
    rw [List.map_cons, List.any_cons, ih]
    unfold dT
    rw [eqv_strs]
    by_cases h : y = zs
    · subst h; simp
    · simp [h]
      intro e
      exact absurd e.symm h
theorem shaped_dT {zs : List Str} (h : ∀ z ∈ zs, Asc z) : SeqAt.shaped (dT zs) = true := shaped_strs h
theorem shaped_dTs {L : List (List Str)} (h : ∀ zs ∈ L, ∀ z ∈ zs, Asc z) : SeqAt.shaped (.list (L.map dT)) = true := by
  unfold SeqAt.shaped
  rw [Bool.and_eq_true]
  refine ⟨?_, decide_eq_true ?_⟩
  · simp only [PyData.canLay0]
    induction L with
    | nil => simp [PyData.canLayAll0]
    | cons y L ih =>
      have h1 : (dT y).canLay0 = true := by
        have := shaped_dT (h y List.mem_cons_self)
        unfold SeqAt.shaped at this
        rw [Bool.and_eq_true] at this
        exact this.1
      rw [List.map_cons]
      simp only [PyData.canLayAll0, h1, ih fun zs hz => h zs (List.mem_cons_of_mem _ hz), Bool.and_self]
  · have := depth_tupsAll L
    simp only [PyData.depth]
    omega
theorem r_notInTS {a b : Addr} {out : List V} {L : List (List Str)} {zs : List Str} (hx : SqT K H b (zs.map V.str)) (hs : SqL K H a out) (hL : TupsAt K H out L) (o1 : ∀ z ∈ zs, Asc z) (o2 : ∀ zs ∈ L, ∀ z ∈ zs, Asc z) (q : Q (.bl (!decide (zs ∈ L))) H) : rNotInD K (.ref b) (.ref a) H Q :=
  ⟨dT zs, L.map dT, dp_tup hx, .lst hs hL.all, shaped_dT o1, shaped_dTs o2, by rw [any_dT]; exact q⟩
theorem r_inTS {a b : Addr} {out : List V} {L : List (List Str)} {zs : List Str} (hx : SqT K H b (zs.map V.str)) (hs : SqL K H a out) (hL : TupsAt K H out L) (o1 : ∀ z ∈ zs, Asc z) (o2 : ∀ zs ∈ L, ∀ z ∈ zs, Asc z) (q : Q (.bl (decide (zs ∈ L))) H) : rInD K (.ref b) (.ref a) H Q :=
  ⟨dT zs, L.map dT, dp_tup hx, .lst hs hL.all, shaped_dT o1, shaped_dTs o2, by rw [any_dT]; exact q⟩
end
end My

set_option Elab.async false
set_option linter.all false
set_option maxRecDepth 100000
set_option maxHeartbeats 4000000
namespace My
open PySem PySem.Spec PyProof.Rows L2
open C8 (tCut pss_cut)
/-! ### methods by their classes -/
def DefM (K : PySem.W.Frag) (C : Addr) (m q : Str) (ps : List Str) (st : Stmt) : Prop := ∃ f fd, Meth K C m f ∧ Fun K m q st f fd ∧ Binds K fd ps []
def DefI (K : PySem.W.Frag) (C : Addr) (q : Str) (ps : List Str) (st : Stmt) : Prop := ∃ f fd, Mk K C f ∧ Fun K "__init__" q st f fd ∧ Binds K fd ps []
def DefP (K : PySem.W.Frag) (C : Addr) (m q : Str) (st : Stmt) : Prop := ∃ p f fd, PropOf K C m p f ∧ Fun K m q st f fd ∧ Binds K fd ["self"] []
def FnM (P : Program) (w : World) (K : PySem.W.Frag) (mg : Str → Option Value) (base : Heap) (CX : CXT) (k : Nat) (C : Addr) (m : Str) (ps : List Str) (sp : Sp) : Prop :=
  ∃ f fd, Meth K C m f ∧ Binds K fd ps [] ∧ FnOk P w K mg base CX k f fd ps sp
def FnI (P : Program) (w : World) (K : PySem.W.Frag) (mg : Str → Option Value) (base : Heap) (CX : CXT) (k : Nat) (C : Addr) (ps : List Str) (sp : Sp) : Prop :=
  ∃ f fd, Mk K C f ∧ Binds K fd ps [] ∧ FnOk P w K mg base CX k f fd ps sp
def FnP (P : Program) (w : World) (K : PySem.W.Frag) (mg : Str → Option Value) (base : Heap) (k : Nat) (C : Addr) (m : Str) (sp : Sp) : Prop :=
  ∃ p f fd, PropOf K C m p f ∧ Binds K fd ["self"] [] ∧ FnOk P w K mg base CX0 k f fd ["self"] sp
section
variable {P : Program} {w : World} {K : PySem.W.Frag} {mg : Str → Option Value} {base : Heap}
theorem defm_mk {C : Addr} {m q : Str} {ps : List Str} {st : Stmt} {f : Addr} {oc : Value} {od an : Option Addr} {osl : Array (Option Value)} {kV doc pm cdv ct : Value}
    (hb : ∀ (kV doc pm : Value) (an : Option Addr) (cdv ct : Value) (us : List Value), us.length = ps.length → bindArgs (PySem.W.fnOf m q (defArgs st) (defBody st) (defScope st) .none kV doc pm an cdv ct) ⟨us, []⟩ = pure (ps.zip us))
    (a : PySem.W.findIn K (.ref C) m = some (some (.ref f))) (i : PySem.W.isFn K (.ref f) = true) (l : K.lookup f = some ⟨oc, od, .func (PySem.W.fnOf m q (defArgs st) (defBody st) (defScope st) .none kV doc pm an cdv ct), osl⟩)
    (c : PySem.W.codeIn K cdv q = true) (k : PySem.W.keepIn K (.ref f) = true) : DefM K C m q ps st :=
  have F := fun_mk (st := st) l c k
  ⟨f, _, ⟨a, i, k⟩, F, F.binds hb⟩
theorem defi_mk {C : Addr} {q : Str} {ps : List Str} {st : Stmt} {f : Addr} {oc : Value} {od an : Option Addr} {osl : Array (Option Value)} {kV doc pm cdv ct : Value}
    (hb : ∀ (kV doc pm : Value) (an : Option Addr) (cdv ct : Value) (us : List Value), us.length = ps.length → bindArgs (PySem.W.fnOf "__init__" q (defArgs st) (defBody st) (defScope st) .none kV doc pm an cdv ct) ⟨us, []⟩ = pure (ps.zip us))
    (a : PySem.W.findIn K (.ref C) "__init__" = some (some (.ref f))) (i : PySem.W.isFn K (.ref f) = true) (l : K.lookup f = some ⟨oc, od, .func (PySem.W.fnOf "__init__" q (defArgs st) (defBody st) (defScope st) .none kV doc pm an cdv ct), osl⟩)
    (c : PySem.W.codeIn K cdv q = true) (k : PySem.W.keepIn K (.ref f) = true) (mk : PySem.W.makesIn K C = true) (kc : PySem.W.keepIn K (.ref C) = true) : DefI K C q ps st :=
  have F := fun_mk (st := st) l c k
  ⟨f, _, ⟨mk, a, i, kc⟩, F, F.binds hb⟩
theorem defp_mk {C p : Addr} {m q : Str} {st : Stmt} {f : Addr} {rest : List Value} {oc : Value} {od an : Option Addr} {osl : Array (Option Value)} {kV doc pm cdv ct : Value}
    (hb : ∀ (kV doc pm : Value) (an : Option Addr) (cdv ct : Value) (us : List Value), us.length = 1 → bindArgs (PySem.W.fnOf m q (defArgs st) (defBody st) (defScope st) .none kV doc pm an cdv ct) ⟨us, []⟩ = pure ((["self"] : List Str).zip us))
    (a : PySem.W.findIn K (.ref C) m = some (some (.ref p))) (g : PySem.W.specialIn K (.ref p) "__get__" = some (some (.builtin "property.__get__"))) (t : PySem.W.takesIn K (.ref p) = some true) (r : PySem.W.recIn K p "property" = some (.ref f :: rest))
    (l : K.lookup f = some ⟨oc, od, .func (PySem.W.fnOf m q (defArgs st) (defBody st) (defScope st) .none kV doc pm an cdv ct), osl⟩)
    (c : PySem.W.codeIn K cdv q = true) (k : PySem.W.keepIn K (.ref f) = true) : DefP K C m q st :=
  have F := fun_mk (st := st) l c k
  ⟨p, f, _, ⟨a, g, t, rest, r⟩, F, F.binds hb⟩
theorem DefM.ok {C : Addr} {m q : Str} {ps N : List Str} {st : Stmt} {k : Nat} {sp : Sp} (d : DefM K C m q ps st) (S : FnScope N ps (defScope st)) (len : ∀ vs H Q E, sp vs H Q E → vs.length = ps.length)
    (hbody : ∀ (f : Addr) (cdv : Value) (A : Around) (outer : List Env) (s : Shared) (H : Hp) (vs : List V) (Q : VK) (E : XK), Room k (A.deeper (envOfC q (defScope st) s.heap.objs.size f cdv)) → sp vs H Q E →
      ∃ t, PSs (cxOf CX0 P w K mg base N q (defScope st) f cdv A outer s H E).nox (defBody st) t ∧ t { nx := fun _ H' => Q .non H', rt := Q } (start N vs) H) : FnM P w K mg base CX0 (k + 1) C m ps sp := by
  obtain ⟨f, fd, M, F, b⟩ := d
  exact ⟨f, fd, M, b, F.ok S len (hbody f)⟩
theorem DefM.okX {C : Addr} {m q : Str} {ps N : List Str} {st : Stmt} {k : Nat} {sp : Sp} (d : DefM K C m q ps st) (S : FnScope N ps (defScope st)) (len : ∀ vs H Q E, sp vs H Q E → vs.length = ps.length)
    (hbody : ∀ (f : Addr) (cdv : Value) (A : Around) (outer : List Env) (s : Shared) (H : Hp) (vs : List V) (Q : VK) (E : XK), Room k (A.deeper (envOfC q (defScope st) s.heap.objs.size f cdv)) → sp vs H Q E →
      ∃ t, PSs (cxOf (L2.CX P w) P w K mg base N q (defScope st) f cdv A outer s H E) (defBody st) t ∧ t { nx := fun _ H' => Q .non H', rt := Q } (start N vs) H) : FnM P w K mg base (L2.CX P w) (k + 1) C m ps sp := by
  obtain ⟨f, fd, M, F, b⟩ := d
  exact ⟨f, fd, M, b, F.okX S len (hbody f)⟩
theorem DefI.ok {C : Addr} {q : Str} {ps N : List Str} {st : Stmt} {k : Nat} {sp : Sp} (d : DefI K C q ps st) (S : FnScope N ps (defScope st)) (len : ∀ vs H Q E, sp vs H Q E → vs.length = ps.length)
    (hbody : ∀ (f : Addr) (cdv : Value) (A : Around) (outer : List Env) (s : Shared) (H : Hp) (vs : List V) (Q : VK) (E : XK), Room k (A.deeper (envOfC q (defScope st) s.heap.objs.size f cdv)) → sp vs H Q E →
      ∃ t, PSs (cxOf CX0 P w K mg base N q (defScope st) f cdv A outer s H E).nox (defBody st) t ∧ t { nx := fun _ H' => Q .non H', rt := Q } (start N vs) H) : FnI P w K mg base CX0 (k + 1) C ps sp := by
  obtain ⟨f, fd, M, F, b⟩ := d
  exact ⟨f, fd, M, b, F.ok S len (hbody f)⟩
theorem DefP.ok {C : Addr} {m q : Str} {N : List Str} {st : Stmt} {k : Nat} {sp : Sp} (d : DefP K C m q st) (S : FnScope N ["self"] (defScope st)) (len : ∀ vs H Q E, sp vs H Q E → vs.length = 1)
    (hbody : ∀ (f : Addr) (cdv : Value) (A : Around) (outer : List Env) (s : Shared) (H : Hp) (vs : List V) (Q : VK) (E : XK), Room k (A.deeper (envOfC q (defScope st) s.heap.objs.size f cdv)) → sp vs H Q E →
      ∃ t, PSs (cxOf CX0 P w K mg base N q (defScope st) f cdv A outer s H E).nox (defBody st) t ∧ t { nx := fun _ H' => Q .non H', rt := Q } (start N vs) H) : FnP P w K mg base (k + 1) C m sp := by
  obtain ⟨p, f, fd, M, F, b⟩ := d
  exact ⟨p, f, fd, M, b, F.ok S len (hbody f)⟩
end
/-! ### the rules -/
section
variable {X : Cx} {CX : CXT} {k : Nat} {C : Addr} {x m : Str} {ps : List Str} {sp : Sp} {e o : Expr} {es : List Expr} {to : TE} {t : TA} {p pos apos : Pos}
/-- o.m(e, ..) -/
def tMthd (C : Addr) (m : Str) (sp : Sp) (to : TE) (t : TA) : TE := fun σ H Q => to σ H fun x H1 => ∃ a dx fs, x = .ref a ∧ H1 a = some (.ins C dx fs) ∧ fs.lookup m = none ∧ t σ H1 fun vs H2 => sp (x :: vs) H2 Q E0
theorem pe_mth {pl : Sem Bool} (G : FnM X.prog X.w X.K X.mg X.base CX0 k C m ps sp) (c : Cls X.K C) (hr : Room k X.A) (ho : PE X o to) (ha : PA X (e :: es) t)
    (hst : starEach (e :: es) X.env = (false, eval e X.env) :: starEach es X.env := by rfl) (hpl : (backTo pos (starEach es X.env)).any (·.1) = false := by rfl)
    (ht : eval (.Call (.Attribute o m apos) (e :: es) [] pos) X.env = (do
      let ov ← eval o X.env
      standAt apos.atName
      let (f, first) ← holding [ov] (getMethod ov m pl)
      callWith pos f first (backTo pos (starEach (e :: es) X.env)) (backToKw pos (keywordEach [] X.env))) := by rfl) : PE X (.Call (.Attribute o m apos) (e :: es) [] pos) (tMthd C m sp to t) := by
  obtain ⟨f, fd, hm, hb, F⟩ := G
  have h := pe_meth ho c hm F hr hb .nil (E := E0) pass0 ha hst hpl ht
  refine ⟨fun pins s σ H Q I q => h.run pins s σ H Q I ?_⟩
  unfold tMeth
  simp only [List.append_nil]
  exact q
theorem pe_mth0 {pl : Sem Bool} (G : FnM X.prog X.w X.K X.mg X.base CX0 k C m ps sp) (c : Cls X.K C) (hr : Room k X.A) (ho : PE X o to)
    (ht : eval (.Call (.Attribute o m apos) [] [] pos) X.env = (do
      let ov ← eval o X.env
      standAt apos.atName
      let (f, first) ← holding [ov] (getMethod ov m pl)
      callWith pos f first (backTo pos (starEach [] X.env)) (backToKw pos (keywordEach [] X.env))) := by rfl) : PE X (.Call (.Attribute o m apos) [] [] pos) (tMthd C m sp to tNil) := by
  obtain ⟨f, fd, hm, hb, F⟩ := G
  have h := pe_meth0 ho c hm F hr hb .nil (E := E0) pass0 ht
  refine ⟨fun pins s σ H Q I q => h.run pins s σ H Q I ?_⟩
  unfold tMeth
  simp only [List.append_nil]
  exact q
/-- C(e, ..) -/
def MadeR (C : Addr) (sp : Sp) (vs : List V) (H1 : Hp) (Q : VK) : Prop := ∀ x dx, H1 x = none → H1 dx = none → dx ≠ x → sp (.ref x :: vs) (upd (upd H1 dx (.own x)) x (.ins C dx [])) (fun v H2 => v = .non ∧ Q (.ref x) H2) E0
def tMkC (C : Addr) (sp : Sp) (t : TA) : TE := fun σ H Q => t σ H fun vs H1 => MadeR C sp vs H1 Q
theorem pe_mk (G : FnI X.prog X.w X.K X.mg X.base CX0 k C ps sp) (hr : Room (k + 1) X.A) (hg : Gl X x) (hm : X.mg x = some (.ref C)) (ha : PA X (e :: es) t) (hdb : (x == ("__debug__" : Str)) = false := by decide)
    (he : starEach (e :: es) X.env = (false, eval e X.env) :: starEach es X.env := by rfl) (hpl : (backTo pos (starEach es X.env)).any (·.1) = false := by rfl) : PE X (.Call (.Name x p) (e :: es) [] pos) (tMkC C sp t) := by
  obtain ⟨f, fd, M, hb, F⟩ := G
  have h := pe_make (p := p) M F hr hg hm hb .nil (E := E0) pass0 ha hdb he hpl
  refine ⟨fun pins s σ H Q I q => h.run pins s σ H Q I ?_⟩
  unfold tMake
  simp only [List.append_nil]
  exact q
theorem pe_mk0 (G : FnI X.prog X.w X.K X.mg X.base CX0 k C ps sp) (hr : Room (k + 1) X.A) (hg : Gl X x) (hm : X.mg x = some (.ref C)) (hdb : (x == ("__debug__" : Str)) = false := by decide) : PE X (.Call (.Name x p) [] [] pos) (tMkC C sp tNil) := by
  obtain ⟨f, fd, M, hb, F⟩ := G
  have h := pe_make0 (p := p) (pos := pos) M F hr hg hm hb .nil (E := E0) pass0 hdb
  refine ⟨fun pins s σ H Q I q => h.run pins s σ H Q I ?_⟩
  unfold tMake
  simp only [List.append_nil]
  exact q
/-- o.m, a property -/
def tPrp (C : Addr) (sp : Sp) (to : TE) : TE := fun σ H Q => to σ H fun x H1 => ∃ a dx fs, x = .ref a ∧ H1 a = some (.ins C dx fs) ∧ sp [.ref a] H1 Q E0
theorem pe_prp (G : FnP X.prog X.w X.K X.mg X.base k C m sp) (c : Cls X.K C) (hr : Room (k + 1) X.A) (ho : PE X o to) (hab : attributeBase o m X.env (eval o X.env) = eval o X.env := by rfl) : PE X (.Attribute o m pos) (tPrp C sp to) := by
  obtain ⟨p, f, fd, hm, hb, F⟩ := G
  have h := pe_prop (pos := pos) ho c hm F hr hb .nil (E := E0) pass0 hab
  refine ⟨fun pins s σ H Q I q => h.run pins s σ H Q I ?_⟩
  unfold tProp
  exact q
/-- len(o), o with its own __len__ -/
def rLenO (C : Addr) (sp : Sp) : List V → Hp → VK → Prop := fun xs H Q => ∃ (a dx : Addr) (fs : List (Str × V)), xs = [.ref a] ∧ H a = some (.ins C dx fs) ∧ sp [.ref a] H (fun v H2 => ∃ n : Nat, v = .int (n : Int) ∧ n ≤ 100000 ∧ Q (.int (n : Int)) H2) E0
theorem call_lenO (G : FnM X.prog X.w X.K X.mg X.base CX0 k C "__len__" ["self"] sp) (hr : Room (k + 1) X.A) : CallR X (.builtin "len") (rLenO C sp) := by
  intro pins s σ H xs us Q I r h
  obtain ⟨f, fd, hm, hb, F⟩ := G
  obtain ⟨a, dx, fs, rfl, ha, q⟩ := h
  obtain ⟨u, rfl, ru⟩ := vals1 r
  obtain rfl : u = Value.ref a := ru
  obtain ⟨mA, J, _⟩ := ins_get I.hok ha
  obtain ⟨od, J, _⟩ := J.look
  refine Calls.call_function_entry kind_len plain_len entry_len (args_len1 _) ?_
  unfold Builtin.«len»
  refine wpAny_bind (m := oneArg "len" _) (wpAny_pure ?_)
  refine wpAny_bind (m := callSpecial? (.ref a) (Str.ofString "__len__")) (PySem.W.special_fn (name := "__len__") (args := []) I.kIn J hm.at_ (beq_iff_eq.mp hm.fn) (wpAny_call (codeAny_mono (F.run X.A.in1 X.stack s H ⟨[.ref a], []⟩ [.ref a] [.ref a] _ E0 hr.in1 I.env0.in1 (by
    have := hb s [.ref a] I.kIn rfl
    simpa using this) (.cons rfl .nil) q) fun r s' hq => ?_)))
  cases r with
  | error er => exact hq.elim
  | ok fl =>
    cases fl with
    | ret u =>
      obtain ⟨v, H', I3, rv, n, rfl, hn, q3⟩ := I.after hq
      obtain ⟨t, rfl⟩ := rv
      refine wpAny_bind (wpAny_holding (wpAny_pure ?_))
      refine wpAny_bind (wpAny_letGo ?_)
      show wpAny _ _ (if ((n : Nat) : Int) < 0 then _ else _) _ _ _
      rw [if_neg (by omega)]
      show wpAny _ _ (if ((n : Nat) : Int) ≥ 2 ^ 63 then _ else _) _ _ _
      rw [if_neg (by omega)]
      exact wpAny_bind (wpAny_mkInt (wpAny_pure ⟨_, rfl, .int (n : Int), H', I3.tok _, ⟨_, rfl⟩, q3⟩))
    | next => exact False.elim hq
    | brk => exact False.elim hq
    | cont => exact False.elim hq
end
/-! ### their readings -/
section
variable {σ : L2.St} {H : Hp} {Q : VK} {K : PySem.W.Frag} {C a dx : Addr} {f m : Str} {fs : List (Str × V)} {v y : V} {to tv : TE} {t : TA} {sp : Sp}
def FldR (K : PySem.W.Frag) (f : Str) (x : V) (H1 : Hp) (Q : VK) : Prop := ∃ a C dx fs v, x = .ref a ∧ H1 a = some (.ins C dx fs) ∧ Cls K C ∧ NoAttr K C f ∧ fs.lookup f = some v ∧ Q v H1
theorem r_fld (h : to σ H fun x H1 => FldR K f x H1 Q) : tFld K to f σ H Q := h
theorem r_fld1 (ha : H a = some (.ins C dx fs)) (c : Cls K C) (n : NoAttr K C f) (l : fs.lookup f = some v) (q : Q v H) : FldR K f (.ref a) H Q := ⟨a, C, dx, fs, v, rfl, ha, c, n, l, q⟩
def SetF (K : PySem.W.Frag) (f : Str) (y x : V) (H2 : Hp) (N : Hp → Prop) : Prop := ∃ a C dx fs, x = .ref a ∧ H2 a = some (.ins C dx fs) ∧ Cls K C ∧ NoAttr K C f ∧ fs.length < 1000 ∧ N (upd H2 a (.ins C dx (putF f y fs)))
theorem r_sFld {D : Ends} (h : tv σ H fun y H1 => to σ H1 fun x H2 => SetF K f y x H2 (D.nx σ)) : sFld K to tv f D σ H := h
theorem r_sFld1 {N : Hp → Prop} (ha : H a = some (.ins C dx fs)) (c : Cls K C) (n : NoAttr K C f) (hl : fs.length < 1000) (q : ∀ H2, But a H H2 → H2 a = some (.ins C dx (putF f y fs)) → N H2) : SetF K f y (.ref a) H N :=
  ⟨a, C, dx, fs, rfl, ha, c, n, hl, q _ But.upd upd_same⟩
def AugF (K : PySem.W.Frag) (f : Str) (tv : TE) (rd : V → V → Hp → VK → Prop) (σ : L2.St) (x : V) (H1 : Hp) (N : Hp → Prop) : Prop := ∃ a C dx fs v, x = .ref a ∧ H1 a = some (.ins C dx fs) ∧ Cls K C ∧ NoAttr K C f ∧ fs.lookup f = some v ∧
  tv σ H1 fun y H2 => rd v y H2 fun z H3 => ∃ dx' fs', H3 a = some (.ins C dx' fs') ∧ fs'.length < 1000 ∧ N (upd H3 a (.ins C dx' (putF f z fs')))
theorem r_aFld {D : Ends} {rd : V → V → Hp → VK → Prop} (h : to σ H fun x H1 => AugF K f tv rd σ x H1 (D.nx σ)) : sFldAug K to tv rd f D σ H := h
/-- o.f += n -/
theorem r_aFld1 {N : Hp → Prop} {i j : Int} (ha : H a = some (.ins C dx fs)) (c : Cls K C) (n : NoAttr K C f) (l : fs.lookup f = some (.int i)) (hl : fs.length < 1000) (q : ∀ H2, But a H H2 → H2 a = some (.ins C dx (putF f (.int (i + j)) fs)) → N H2) : AugF K f (tC (.int j)) rAdd σ (.ref a) H N :=
  ⟨a, C, dx, fs, .int i, rfl, ha, c, n, l, i, j, rfl, rfl, dx, fs, ha, hl, q _ But.upd upd_same⟩
def MthR (C : Addr) (m : Str) (x : V) (H1 : Hp) (R : Prop) : Prop := ∃ a dx fs, x = .ref a ∧ H1 a = some (.ins C dx fs) ∧ fs.lookup m = none ∧ R
theorem r_mth (h : to σ H fun x H1 => MthR C m x H1 (t σ H1 fun vs H2 => sp (x :: vs) H2 Q E0)) : tMthd C m sp to t σ H Q := h
theorem r_mth1 {R : Prop} (ha : H a = some (.ins C dx fs)) (l : fs.lookup m = none) (h : R) : MthR C m (.ref a) H R := ⟨a, dx, fs, rfl, ha, l, h⟩
theorem r_mkC (h : t σ H fun vs H1 => MadeR C sp vs H1 Q) : tMkC C sp t σ H Q := h
theorem r_made {vs : List V} (h : ∀ x dx H2, H x = none → Same H H2 → H2 x = some (.ins C dx []) → sp (.ref x :: vs) H2 (fun v H3 => v = .non ∧ Q (.ref x) H3) E0) : MadeR C sp vs H Q := fun x dx nx ndx nex =>
  h x dx _ nx (fun b o e => by rw [upd_ne (ne_of_none e nx), upd_ne (ne_of_none e ndx)]; exact e) upd_same
def PrpR (C : Addr) (sp : Sp) (x : V) (H1 : Hp) (Q : VK) : Prop := ∃ a dx fs, x = .ref a ∧ H1 a = some (.ins C dx fs) ∧ sp [.ref a] H1 Q E0
theorem r_prp (h : to σ H fun x H1 => PrpR C sp x H1 Q) : tPrp C sp to σ H Q := h
theorem r_prp1 (ha : H a = some (.ins C dx fs)) (q : sp [.ref a] H Q E0) : PrpR C sp (.ref a) H Q := ⟨a, dx, fs, rfl, ha, q⟩
theorem r_lenO (ha : H a = some (.ins C dx fs)) (q : sp [.ref a] H (fun v H2 => ∃ n : Nat, v = .int (n : Int) ∧ n ≤ 100000 ∧ Q (.int (n : Int)) H2) E0) : rLenO C sp [.ref a] H Q := ⟨a, dx, fs, rfl, ha, q⟩
theorem putF_nil (f : Str) (v : V) : putF f v [] = [(f, v)] := rfl
theorem putF_same (f : Str) (v u : V) (r : List (Str × V)) : putF f v ((f, u) :: r) = (f, v) :: r := by
  show (if f = f then _ else _) = _
  rw [if_pos rfl]
theorem putF_other {f g : Str} (h : ¬ g = f) (v u : V) (r : List (Str × V)) : putF f v ((g, u) :: r) = (g, u) :: putF f v r := by
  show (if g = f then _ else _) = _
  rw [if_neg h]
theorem look_same (f : Str) (v : V) (r : List (Str × V)) : List.lookup f ((f, v) :: r) = some v := by
  simp [List.lookup]
theorem look_other {f g : Str} (h : ¬ f = g) (v : V) (r : List (Str × V)) : List.lookup f ((g, v) :: r) = List.lookup f r := by
  have hb : (f == g) = false := beq_eq_false_iff_ne.mpr h
  simp only [List.lookup, hb]
end
/-! ### data behind a store -/
section
variable {K : PySem.W.Frag} {H H' : Hp} {l : Addr}
def NoTup (H : Hp) (l : Addr) : Prop := ∀ u, ¬ Rd H l (.tup u)
theorem noTup_l {ys : List V} (h : H l = some (.lst ys)) : NoTup H l := by
  rintro u (h2 | ⟨o, h2⟩)
  · rw [h] at h2; cases h2
  · rw [h] at h2; cases h2
theorem noTup_i {C dx : Addr} {fs : List (Str × V)} (h : H l = some (.ins C dx fs)) : NoTup H l := by
  rintro u (h2 | ⟨o, h2⟩)
  · rw [h] at h2; cases h2
  · rw [h] at h2; cases h2
theorem but_tN {a : Addr} {xs : List V} (e : But l H H') (n : NoTup H l) (h : SqT K H a xs) : SqT K H' a xs := by
  rcases h with h | h
  · refine .inl (but_rd e ?_ h)
    rintro rfl
    exact n _ h
  · exact .inr h
mutual
theorem dp_but (e : But l H H') (n : NoTup H l) : ∀ (d : PyData) (v : V), pureD d = true → Dp K H v d → Dp K H' v d
  | .int _, _, _, h => by cases h; exact .int _
  | .str _, _, _, h => by cases h; exact .str _
  | .tuple ds, _, p, h => by
    cases h with
    | tup hs ha => exact .tup (but_tN e n hs) (dpAll_but e n ds _ (by simp [pureD] at p; exact p.2) ha)
  | .none, _, p, _ => by simp [pureD] at p
  | .bool _, _, p, _ => by simp [pureD] at p
  | .list _, _, p, _ => by simp [pureD] at p
  | .dict _, _, p, _ => by simp [pureD] at p
theorem dpAll_but (e : But l H H') (n : NoTup H l) : ∀ (ds : List PyData) (vs : List V), pureAll ds = true → DpAll K H vs ds → DpAll K H' vs ds
  | [], _, _, h => by cases h; exact .nil
  | d :: ds, _, p, h => by
    have p' : pureD d = true ∧ pureAll ds = true := by simpa [pureAll] using p
    cases h with
    | cons h1 h2 => exact .cons (dp_but e n d _ p'.1 h1) (dpAll_but e n ds _ p'.2 h2)
end
mutual
theorem dp_ex (e : Same H H') : ∀ (d : PyData) (v : V), Dp K H v d → Dp K H' v d
  | .int _, _, h => by cases h; exact .int _
  | .str _, _, h => by cases h; exact .str _
  | .tuple ds, _, h => by
    cases h with
    | tup hs ha => exact .tup (ex_t e hs) (dpAll_ex e ds _ ha)
  | .none, _, h => by cases h; exact .non
  | .bool _, _, h => by cases h; exact .bl _
  | .list ds, _, h => by
    cases h with
    | lst hs ha => exact .lst (ex_l e hs) (dpAll_ex e ds _ ha)
  | .dict _, _, h => by cases h
theorem dpAll_ex (e : Same H H') : ∀ (ds : List PyData) (vs : List V), DpAll K H vs ds → DpAll K H' vs ds
  | [], _, h => by cases h; exact .nil
  | d :: ds, _, h => by
    cases h with
    | cons h1 h2 => exact .cons (dp_ex e d _ h1) (dpAll_ex e ds _ h2)
end
end
/-! ### a test's outcome, told by a word -/
section
variable {X : Cx}
def tCutT (t : TT) : TT := fun σ H Q => ∃ Mid : Bool → Hp → Prop, t σ H Mid ∧ ∀ c H', Mid c H' → Q c H'
theorem pt_cut {e : Expr} {t : TT} (h : PT X e t) : PT X e (tCutT t) := by
  refine ⟨fun pins s σ H Q I q => ?_⟩
  obtain ⟨Mid, hm, hk⟩ := q
  refine thn (h.run pins s σ H Mid I hm) fun c s1 q1 => ?_
  obtain ⟨H', I', m⟩ := q1
  exact ⟨H', I', hk _ _ m⟩
theorem r_cutT {t : TT} {σ : L2.St} {H : Hp} {Q : Bool → Hp → Prop} (Mid : Bool → Hp → Prop) (h : t σ H Mid) (k : ∀ c H', Mid c H' → Q c H') : tCutT t σ H Q := ⟨Mid, h, k⟩
end
end My

set_option Elab.async false
set_option linter.all false
set_option maxRecDepth 100000
set_option maxHeartbeats 4000000
namespace My
open PySem PySem.Spec PyProof.Rows L2 PySem.W
open C8 (tCut pss_cut)
/-! ### defs with parameters by keyword alone -/
def DefK (K : PySem.W.Frag) (mg : Str → Option Value) (x : Str) (n : Nat) (ks ps : List Str) (st : Stmt) : Prop := ∃ f fd, mg x = some (.ref f) ∧ Fun K x x st f fd ∧ KBn K fd ps n ks (fun a b => a ++ b) (fun a b => a ++ b)
def FnK (P : Program) (w : World) (K : PySem.W.Frag) (mg : Str → Option Value) (base : Heap) (k : Nat) (x : Str) (n : Nat) (ks ps : List Str) (sp : Sp) : Prop :=
  ∃ f fd, mg x = some (.ref f) ∧ PySem.W.keepIn K (.ref f) = true ∧ KBn K fd ps n ks (fun a b => a ++ b) (fun a b => a ++ b) ∧ FnOk P w K mg base CX0 k f fd ps sp
section
variable {P : Program} {w : World} {K : PySem.W.Frag} {mg : Str → Option Value} {base : Heap}
theorem vals_app {vs : List V} {us : List Value} {zs : List V} {ws : List Value} (h : Vals vs us) (g : Vals zs ws) : Vals (vs ++ zs) (us ++ ws) := by
  induction vs generalizing us with
  | nil => cases h; exact g
  | cons v vs ih =>
    cases h with
    | cons h1 h2 => exact .cons h1 (ih h2)
theorem defk_mk {h : Heap} {x : Str} {n : Nat} {ks ps : List Str} {st : Stmt} {f : Addr} {oc : Value} {od an : Option Addr} {osl : Array (Option Value)} {kV doc pm cdv ct : Value} (X : K.In h) (G : h.Ns mainGlobals mg)
    (hb : ∀ (kV doc pm : Value) (an : Option Addr) (cdv ct : Value) (us ws : List Value), us.length = n → ws.length = ks.length → bindArgs (PySem.W.fnOf x x (defArgs st) (defBody st) (defScope st) .none kV doc pm an cdv ct) ⟨us, ks.zip ws⟩ = pure (ps.zip (us ++ ws)))
    (a : PySem.W.nsIn K mainGlobals x = some (some (.ref f))) (l : K.lookup f = some ⟨oc, od, .func (PySem.W.fnOf x x (defArgs st) (defBody st) (defScope st) .none kV doc pm an cdv ct), osl⟩)
    (c : PySem.W.codeIn K cdv x = true) (k : PySem.W.keepIn K (.ref f) = true) : DefK K mg x n ks ps st :=
  ⟨f, _, PySem.W.mg_of X G a, fun_mk (st := st) l c k, ⟨fun s us ws _ h1 h2 => .of_eq (hb _ _ _ _ _ _ us ws h1 h2), fun h g => vals_app h g⟩⟩
theorem DefK.ok {x : Str} {n : Nat} {ks ps N : List Str} {st : Stmt} {k : Nat} {sp : Sp} (d : DefK K mg x n ks ps st) (S : FnScope N ps (defScope st)) (len : ∀ vs H Q E, sp vs H Q E → vs.length = ps.length)
    (hbody : ∀ (f : Addr) (cdv : Value) (A : Around) (outer : List Env) (s : Shared) (H : Hp) (vs : List V) (Q : VK) (E : XK), Room k (A.deeper (envOfC x (defScope st) s.heap.objs.size f cdv)) → sp vs H Q E →
      ∃ t, PSs (cxOf CX0 P w K mg base N x (defScope st) f cdv A outer s H E).nox (defBody st) t ∧ t { nx := fun _ H' => Q .non H', rt := Q } (start N vs) H) : FnK P w K mg base (k + 1) x n ks ps sp := by
  obtain ⟨f, fd, hm, F, b⟩ := d
  exact ⟨f, fd, hm, F.kp, b, F.ok S len (hbody f)⟩
end
section
variable {X : Cx} {k n : Nat} {x : Str} {ks ps : List Str} {sp : Sp} {e : Expr} {es : List Expr} {kws : List Keyword} {t tk : TA} {p pos : Pos}
def KwR (n m : Nat) (sp : Sp) (vs zs : List V) (H2 : Hp) (Q : VK) : Prop := vs.length = n ∧ zs.length = m ∧ sp (vs ++ zs) H2 Q E0
def tFnK (n m : Nat) (sp : Sp) (t tk : TA) : TE := fun σ H Q => t σ H fun vs H1 => tk σ H1 fun zs H2 => KwR n m sp vs zs H2 Q
theorem pe_fnK (G : FnK X.prog X.w X.K X.mg X.base k x n ks ps sp) (hr : Room k X.A) (hg : Gl X x) (ha : PA X (e :: es) t) (hkw : PK X kws tk) (hall : (backToKw pos (keywordEach kws X.env)).all (·.1.isSome) = true := by rfl) (hks : (backToKw pos (keywordEach kws X.env)).filterMap (·.1) = ks := by rfl)
    (hdb : (x == ("__debug__" : Str)) = false := by decide) (he : starEach (e :: es) X.env = (false, eval e X.env) :: starEach es X.env := by rfl)
    (hpl : ((backTo pos (starEach (e :: es) X.env)).any (·.1) || (backToKw pos (keywordEach kws X.env)).any (·.1.isNone)) = false := by rfl) : PE X (.Call (.Name x p) (e :: es) kws pos) (tFnK n ks.length sp t tk) := by
  obtain ⟨f, fd, hm, hk, hb, F⟩ := G
  exact pe_callN (p := p) (E := E0) F hr hg hm hk hb pass0 ha hkw hall hks hdb he hpl
theorem r_fnK {m : Nat} {σ : L2.St} {H : Hp} {Q : VK} (h : t σ H fun vs H1 => tk σ H1 fun zs H2 => KwR n m sp vs zs H2 Q) : tFnK n m sp t tk σ H Q := h
theorem r_kw {m : Nat} {vs zs : List V} {H : Hp} {Q : VK} (l1 : vs.length = n) (l2 : zs.length = m) (h : sp (vs ++ zs) H Q E0) : KwR n m sp vs zs H Q := ⟨l1, l2, h⟩
end
/-! ### x in [..], flat items; insert -/
section
variable {K : PySem.W.Frag} {H : Hp} {Q : VK} {X : Cx}
theorem r_inF {p : Addr} {xs : List V} {x : V} (h : SqL K H p xs ∨ SqT K H p xs) (fx : flatV x = true) (fs : xs.all flatV = true) (q : Q (.bl (inV x xs)) H) : L2.rIn K false x (.ref p) H Q := ⟨p, xs, rfl, h, fx, fs, q⟩
theorem r_notInF {p : Addr} {xs : List V} {x : V} (h : SqL K H p xs ∨ SqT K H p xs) (fx : flatV x = true) (fs : xs.all flatV = true) (q : Q (.bl (!inV x xs)) H) : L2.rIn K true x (.ref p) H Q := ⟨p, xs, rfl, h, fx, fs, q⟩
def rIns : V → List V → Hp → VK → Prop := fun x vs H Q => ∃ (l : Addr) (xs : List V) (i : Int) (y : V), x = .ref l ∧ vs = [.int i, y] ∧ H l = some (.lst xs) ∧ xs.length < sizeLine ∧ 0 ≤ i ∧ i < 2 ^ 63 ∧ Q .non (upd H l (.lst (xs.take i.toNat ++ [y] ++ xs.drop i.toNat)))
theorem mt_ins : MtR X "list.insert" rIns := mt_insert
theorem r_isL {l : Addr} {xs : List V} {R : Prop} (h : H l = some (.lst xs)) (h2 : R) : tyV K "list" (.ref l) H ∧ R := ⟨.inl ⟨rfl, _, SqL.of h⟩, h2⟩
theorem r_ins1 {l : Addr} {xs : List V} {i : Int} {y : V} (h : H l = some (.lst xs)) (hz : xs.length < 100000) (h0 : 0 ≤ i) (h1 : i ≤ 1000000) (q : ∀ H2, But l H H2 → H2 l = some (.lst (xs.take i.toNat ++ [y] ++ xs.drop i.toNat)) → Q .non H2) : rIns (.ref l) [.int i, y] H Q :=
  ⟨l, xs, i, y, rfl, rfl, h, Nat.lt_of_lt_of_le hz (by decide), h0, by omega, q _ But.upd upd_same⟩
end
/-! ### values of a kind -/
def nameD (d : PyData) : Prop := ∃ zs, d = dT zs ∧ (∀ z ∈ zs, Asc z) ∧ zs.length ≤ 12
def valK (κ : Str) (d : PyData) : Prop :=
  if κ = "text" then ∃ z, d = .str z ∧ Asc z
  else if κ = "mail" then ∃ (i : Int) (n : PyData), d = .tuple [.int i, n] ∧ nameD n
  else if κ = "alias" ∨ κ = "server" then nameD d
  else if κ = "start" then ∃ i j : Int, d = .tuple [.int i, .int j]
  else if κ = "gap" then ∃ n k : PyData, d = .tuple [n, k] ∧ nameD n ∧ nameD k
  else ∃ i : Int, d = .int i
theorem nameD.pure {d : PyData} (h : nameD d) : pureD d = true ∧ d.depth ≤ 1 := by
  obtain ⟨zs, rfl, h1, h2⟩ := h
  exact ⟨pure_strs (by omega) h1, by have := depth_tup zs; unfold dT; omega⟩
theorem nameD.alike {d e : PyData} (h : nameD d) (g : nameD e) : alike d e = true := by
  obtain ⟨zs, rfl, _, _⟩ := h
  obtain ⟨ys, rfl, _, _⟩ := g
  exact alike_dT zs ys
theorem pure_two {d e : PyData} (h1 : pureD d = true) (h2 : pureD e = true) : pureD (.tuple [d, e]) = true := by
  simp [pureD, pureAll, h1, h2]
theorem depth_two {d e : PyData} {n : Nat} (h1 : d.depth ≤ n) (h2 : e.depth ≤ n) : (PyData.tuple [d, e]).depth ≤ n + 1 := by
  simp only [PyData.depth, PyData.depthAll]
  omega
theorem valK.pure {κ : Str} {d : PyData} (h : valK κ d) : pureD d = true ∧ d.depth ≤ 2 := by
  unfold valK at h
  split at h
  · obtain ⟨z, rfl, hz⟩ := h
    exact ⟨pure_str hz, by simp [PyData.depth]⟩
  split at h
  · obtain ⟨i, n, rfl, hn⟩ := h
    exact ⟨pure_two rfl hn.pure.1, depth_two (by simp [PyData.depth]) hn.pure.2⟩
  split at h
  · exact ⟨h.pure.1, by have := h.pure.2; omega⟩
  split at h
  · obtain ⟨i, j, rfl⟩ := h
    exact ⟨pure_two rfl rfl, depth_two (n := 1) (by simp [PyData.depth]) (by simp [PyData.depth])⟩
  split at h
  · obtain ⟨n, k, rfl, hn, hk⟩ := h
    exact ⟨pure_two hn.pure.1 hk.pure.1, depth_two hn.pure.2 hk.pure.2⟩
  · obtain ⟨i, rfl⟩ := h
    exact ⟨rfl, by simp [PyData.depth]⟩
theorem alike_two {a b c d : PyData} (h1 : alike a c = true) (h2 : alike b d = true) : alike (.tuple [a, b]) (.tuple [c, d]) = true := by
  simp [alike, alikeAll, h1, h2]
theorem alike_int (i j : Int) : alike (.int i) (.int j) = true := by simp [alike]
theorem valK.alike {κ : Str} {d e : PyData} (h : valK κ d) (g : valK κ e) : alike d e = true := by
  unfold valK at h g
  split at h
  · rename_i c
    rw [if_pos c] at g
    obtain ⟨z, rfl, hz⟩ := h
    obtain ⟨y, rfl, hy⟩ := g
    simp [PySem.W.alike]
  rename_i c1
  rw [if_neg c1] at g
  split at h
  · rename_i c
    rw [if_pos c] at g
    obtain ⟨i, n, rfl, hn⟩ := h
    obtain ⟨j, m, rfl, hm⟩ := g
    exact alike_two (alike_int i j) (hn.alike hm)
  rename_i c2
  rw [if_neg c2] at g
  split at h
  · rename_i c
    rw [if_pos c] at g
    exact nameD.alike h g
  rename_i c3
  rw [if_neg c3] at g
  split at h
  · rename_i c
    rw [if_pos c] at g
    obtain ⟨i, j, rfl⟩ := h
    obtain ⟨i', j', rfl⟩ := g
    exact alike_two (alike_int i i') (alike_int j j')
  rename_i c4
  rw [if_neg c4] at g
  split at h
  · rename_i c
    rw [if_pos c] at g
    obtain ⟨n, k, rfl, hn, hk⟩ := h
    obtain ⟨n', k', rfl, hn', hk'⟩ := g
    exact alike_two (hn.alike hn') (hk.alike hk')
  · rename_i c
    rw [if_neg c] at g
    obtain ⟨i, rfl⟩ := h
    obtain ⟨j, rfl⟩ := g
    exact alike_int i j
theorem pure_ne {d : PyData} (h : pureD d = true) : d ≠ .none := by rintro rfl; simp [pureD] at h
section
variable {K : PySem.W.Frag}
/-! ### pure tuples -/
theorem dpAll_app {H : Hp} : ∀ {xs ys : List V} {ds es : List PyData}, DpAll K H xs ds → DpAll K H ys es → DpAll K H (xs ++ ys) (ds ++ es)
  | _, _, _, _, .nil, h => h
  | _, _, _, _, .cons h t, u => .cons h (dpAll_app t u)
theorem dpAll_drop {H : Hp} : ∀ (n : Nat) {xs : List V} {ds : List PyData}, DpAll K H xs ds → DpAll K H (xs.drop n) (ds.drop n)
  | 0, _, _, h => h
  | _ + 1, _, _, .nil => .nil
  | n + 1, _, _, .cons _ t => dpAll_drop n t
theorem dpAll_take {H : Hp} : ∀ (n : Nat) {xs : List V} {ds : List PyData}, DpAll K H xs ds → DpAll K H (xs.take n) (ds.take n)
  | 0, _, _, _ => .nil
  | _ + 1, _, _, .nil => .nil
  | n + 1, _, _, .cons h t => .cons h (dpAll_take n t)
theorem depthAll_iff (n : Nat) : ∀ ds : List PyData, PyData.depthAll ds ≤ n ↔ ∀ d ∈ ds, d.depth ≤ n
  | [] => by simp [PyData.depthAll]
  | d :: ds => by
    have := depthAll_iff n ds
    simp only [PyData.depthAll, List.mem_cons, forall_eq_or_imp, ← this]
    omega
/-- a tuple of pure data -/
def PT (K : PySem.W.Frag) (H : Hp) (a : Addr) (ds : List PyData) : Prop := ∃ vs, SqT K H a vs ∧ DpAll K H vs ds
def GoodT (D L : Nat) (ds : List PyData) : Prop := (∀ d ∈ ds, pureD d = true ∧ d.depth ≤ D) ∧ ds.length ≤ L
theorem PT.dp {H : Hp} {a : Addr} {ds : List PyData} (h : PT K H a ds) : Dp K H (.ref a) (.tuple ds) := by
  obtain ⟨vs, h1, h2⟩ := h
  exact .tup h1 h2
theorem GoodT.pure {D L : Nat} {ds : List PyData} (h : GoodT D L ds) (hL : L ≤ 10000) : pureD (.tuple ds) = true := by
  simp only [pureD, Bool.and_eq_true, decide_eq_true_eq]
  exact ⟨by have := h.2; omega, (pureAll_iff ds).mpr fun d hd => (h.1 d hd).1⟩
theorem GoodT.depth {D L : Nat} {ds : List PyData} (h : GoodT D L ds) : (PyData.tuple ds).depth ≤ D + 1 := by
  have := (depthAll_iff D ds).mpr fun d hd => (h.1 d hd).2
  simp only [PyData.depth]
  omega
theorem GoodT.mono {D L D' L' : Nat} {ds : List PyData} (h : GoodT D L ds) (h1 : D ≤ D') (h2 : L ≤ L') : GoodT D' L' ds := ⟨fun d hd => ⟨(h.1 d hd).1, Nat.le_trans (h.1 d hd).2 h1⟩, Nat.le_trans h.2 h2⟩
theorem GoodT.nil (D L : Nat) : GoodT D L [] := ⟨fun _ h => (by cases h), Nat.zero_le _⟩
theorem GoodT.one {D : Nat} {d : PyData} (h : pureD d = true) (hd : d.depth ≤ D) : GoodT D 1 [d] := ⟨fun x hx => by rw [List.mem_singleton.mp hx]; exact ⟨h, hd⟩, Nat.le_refl _⟩
theorem GoodT.app {D L M : Nat} {ds es : List PyData} (h : GoodT D L ds) (g : GoodT D M es) : GoodT D (L + M) (ds ++ es) := ⟨fun d hd => (List.mem_append.mp hd).elim (h.1 d) (g.1 d), by rw [List.length_append]; have := h.2; have := g.2; omega⟩
theorem GoodT.sub {D L : Nat} {ds es : List PyData} (h : GoodT D L ds) (hs : ∀ e ∈ es, e ∈ ds) (hl : es.length ≤ ds.length) : GoodT D L es := ⟨fun e he => h.1 e (hs e he), Nat.le_trans hl h.2⟩
theorem PT.ex {H H' : Hp} {a : Addr} {ds : List PyData} (h : PT K H a ds) (e : Same H H') : PT K H' a ds := by
  obtain ⟨vs, h1, h2⟩ := h
  exact ⟨vs, ex_t e h1, dpAll_ex e _ _ h2⟩
theorem PT.but {H H' : Hp} {a l : Addr} {ds : List PyData} (h : PT K H a ds) (e : But l H H') (n : NoTup H l) (p : pureAll ds = true) : PT K H' a ds := by
  obtain ⟨vs, h1, h2⟩ := h
  exact ⟨vs, but_tN e n h1, dpAll_but e n _ _ p h2⟩
theorem GoodT.all {D L : Nat} {ds : List PyData} (h : GoodT D L ds) : pureAll ds = true := (pureAll_iff ds).mpr fun d hd => (h.1 d hd).1
def cutD (ds : List PyData) (lo hi : Option Int) : List PyData := (ds.drop (HT.sIx ds.length 0 lo)).take (HT.sIx ds.length ds.length hi - HT.sIx ds.length 0 lo)
theorem cutD_mem {ds : List PyData} {lo hi : Option Int} : (∀ e ∈ cutD ds lo hi, e ∈ ds) ∧ (cutD ds lo hi).length ≤ ds.length := by
  unfold cutD
  refine ⟨fun e he => List.mem_of_mem_drop (List.mem_of_mem_take he), ?_⟩
  rw [List.length_take, List.length_drop]
  omega
theorem GoodT.cut {D L : Nat} {ds : List PyData} (h : GoodT D L ds) (lo hi : Option Int) : GoodT D L (cutD ds lo hi) := h.sub cutD_mem.1 cutD_mem.2
theorem r_slPT {H : Hp} {Q : VK} {a : Addr} {ds : List PyData} {lo hi : Option Int} (h : PT K H a ds) (q : ∀ p H2, Same H H2 → PT K H2 p (cutD ds lo hi) → Q (.ref p) H2) : rSlA K (.ref a) lo hi H Q := by
  obtain ⟨vs, h1, h2⟩ := h
  refine r_slA h1 fun p H2 e hp => q p H2 e ⟨_, hp, ?_⟩
  have e1 := dpAll_len h2
  unfold cutV cutD
  rw [← e1]
  exact dpAll_take _ (dpAll_drop _ (dpAll_ex e _ _ h2))
theorem r_catPT {H : Hp} {Q : VK} {a b : Addr} {ds es : List PyData} (h : PT K H a ds) (g : PT K H b es) (hz : ds.length + es.length ≤ 100000) (q : ∀ p H2, Same H H2 → PT K H2 p (ds ++ es) → Q (.ref p) H2) : rCatA K (.ref a) (.ref b) H Q := by
  obtain ⟨vs, h1, h2⟩ := h
  obtain ⟨us, g1, g2⟩ := g
  have e1 := dpAll_len h2
  have e2 := dpAll_len g2
  exact r_catA h1 g1 (by omega) fun r H2 e hr => q r H2 e ⟨_, hr, dpAll_app (dpAll_ex e _ _ h2) (dpAll_ex e _ _ g2)⟩
def SgsAt (K : PySem.W.Frag) (H : Hp) (l : Addr) (G : List PyData) : Prop := ∃ es, SqL K H l es ∧ DpAll K H es G
theorem SgsAt.ex {H H' : Hp} {l : Addr} {G : List PyData} (h : SgsAt K H l G) (e : Same H H') : SgsAt K H' l G := by
  obtain ⟨es, h1, h2⟩ := h
  exact ⟨es, ex_l e h1, dpAll_ex e _ _ h2⟩
theorem ints_mem {xs : List Int} {i : Nat} {v : V} (h : (xs.map V.int)[i]? = some v) : ∃ z : Int, v = .int z := by
  obtain ⟨z, _, rfl⟩ := List.mem_map.mp (List.mem_of_getElem? h)
  exact ⟨z, rfl⟩
theorem dpAll_mem {H : Hp} {xs : List V} {ds : List PyData} {i : Nat} {v : V} (h : DpAll K H xs ds) (hi : xs[i]? = some v) : ∃ d, ds[i]? = some d ∧ Dp K H v d := by
  have hl := dpAll_len h
  have hlt : i < ds.length := by rw [← hl]; exact (List.getElem?_eq_some_iff.mp hi).1
  have hz := List.getElem?_eq_getElem hlt
  obtain ⟨u, hu, hd⟩ := dpAll_get h hz
  rw [hi] at hu
  cases hu
  exact ⟨_, hz, hd⟩
theorem dp_pt {H : Hp} {v : V} {ds : List PyData} (h : Dp K H v (.tuple ds)) : ∃ a, v = .ref a ∧ PT K H a ds := by
  cases h with
  | tup hs ha => exact ⟨_, rfl, _, hs, ha⟩
theorem shaped_listP {ES : List PyData} (h : ∀ e ∈ ES, pureD e = true ∧ e.depth ≤ 30) : SeqAt.shaped (.list ES) = true := by
  unfold SeqAt.shaped
  rw [Bool.and_eq_true]
  refine ⟨?_, decide_eq_true ?_⟩
  · simp only [PyData.canLay0]
    exact canLay_pureAll ES ((pureAll_iff ES).mpr fun e he => (h e he).1)
  · have := (depthAll_iff 30 ES).mpr fun e he => (h e he).2
    simp only [PyData.depth]
    omega
def C94 : Str := (" !\"#$&'()*+,-./0123456789:;<=>?@ABCDEFGHIJKLMNOPQRSTUVWXYZ[\\]^_`" : Str) ++ ("abcdefghijklmnopqrstuvwxyz{|}~" : Str)
theorem C94_len : C94.cps.toList.length = 94 := by decide +kernel
theorem C94_len2 : C94.length ≤ 100000 := by decide +kernel
theorem C94_asc : Asc C94 := by decide +kernel

theorem r_notInP {H : Hp} {Q : VK} {p : Addr} {v : V} {d : PyData} {es : List V} {ES : List PyData} (hv : Dp K H v d) (hl : SqL K H p es) (hd : DpAll K H es ES) (pd : pureD d = true) (dd : d.depth ≤ 30) (pe : ∀ e ∈ ES, pureD e = true ∧ e.depth ≤ 30)
    (q : Q (.bl (!ES.any fun z => PyData.eqv z d)) H) : rNotInD K v (.ref p) H Q := ⟨d, ES, hv, .lst hl hd, shaped_pure pd (by omega), shaped_listP pe, q⟩
theorem r_ltP {H : Hp} {Q : VK} {v u : V} {d e : PyData} (hv : Dp K H v d) (hu : Dp K H u e) (a : alike d e = true) (pd : pureD d = true) (dd : d.depth ≤ 30) (q : Q (.bl (dataLt d e)) H) : rLtD K v u H Q := ⟨d, e, hv, hu, a, pure_ne pd, by omega, q⟩
theorem r_leP {H : Hp} {Q : VK} {v u : V} {d e : PyData} (hv : Dp K H v d) (hu : Dp K H u e) (a : alike d e = true) (pd : pureD d = true) (dd : d.depth ≤ 30) (q : Q (.bl (!dataLt e d)) H) : rLeD K v u H Q := ⟨d, e, hv, hu, a, pure_ne pd, by omega, q⟩
theorem r_eqP {H : Hp} {Q : VK} {v u : V} {d e : PyData} (hv : Dp K H v d) (hu : Dp K H u e) (pd : pureD d = true) (pe : pureD e = true) (dd : d.depth ≤ 30) (de : e.depth ≤ 30) (q : Q (.bl (PyData.eqv d e)) H) : rEqD K v u H Q := r_eqD hv hu (shaped_pure pd (by omega)) (shaped_pure pe (by omega)) q
theorem nat_of {d : Int} {n : Int} (h0 : 0 ≤ d) (h1 : d < n) : ∃ b : Nat, d = (b : Int) ∧ (b : Int) < n := ⟨d.toNat, by omega, by omega⟩
end
end My

set_option Elab.async false
set_option linter.all false
set_option maxRecDepth 100000
set_option maxHeartbeats 4000000
namespace My
open PySem PySem.Spec PyProof.Rows L2
open C8 (tCut pss_cut)
/-! ### constant tuples of the module -/
def KT (K : PySem.W.Frag) (a : Addr) (xs : List V) : Prop := ∃ (o : Obj) (its : Array Value) (n : Nat), K.lookup a = some o ∧ o.cls = .type "tuple" ∧ o.data = .seq its n ∧ its.size ≤ sizeLine ∧ Vals xs its.toList
theorem KT.sq {K : PySem.W.Frag} {a : Addr} {xs : List V} (h : KT K a xs) (H : Hp) : SqT K H a xs := .inr h
def KTy (K : PySem.W.Frag) (a : Addr) : Prop := ∃ o, K.lookup a = some o ∧ o.cls = .type "tuple" ∧ o.dict = none
def GK (K : PySem.W.Frag) (mg : Str → Option Value) (x : Str) (xs : List V) : Prop := ∃ a, mg x = some (.ref a) ∧ KT K a xs ∧ KTy K a
theorem gk_mk {K : PySem.W.Frag} {mg : Str → Option Value} {x : Str} {xs : List V} {a : Addr} {o : Obj} {its : Array Value} {n : Nat} {h : Heap} (X : K.In h) (G : h.Ns mainGlobals mg) (z : PySem.W.nsIn K mainGlobals x = some (some (.ref a)))
    (l : K.lookup a = some o) (hc : o.cls = .type "tuple") (hd : o.data = .seq its n) (hz : its.size ≤ sizeLine) (hv : Vals xs its.toList) (hn : o.dict = none) : GK K mg x xs := ⟨a, PySem.W.mg_of X G z, ⟨o, its, n, l, hc, hd, hz, hv⟩, o, l, hc, hn⟩
def tKt (K : PySem.W.Frag) (xs : List V) : TE := fun σ H Q => ∀ a, KT K a xs → KTy K a → Q (.ref a) H
section
variable {X : Cx}
theorem pe_gk {x : Str} {xs : List V} {pos : Pos} (h : GK X.K X.mg x xs) (hg : Gl X x) (hd : (x == ("__debug__" : Str)) = false := by decide) : PE X (.Name x pos) (tKt X.K xs) := by
  obtain ⟨a, hm, k, ky⟩ := h
  have p : PE X (.Name x pos) (tC (.ref a)) := pe_glob hg hm rfl hd
  exact ⟨fun pins s σ H Q I q => p.run pins s σ H Q I (q a k ky)⟩
theorem r_kt {K : PySem.W.Frag} {xs : List V} {σ : L2.St} {H : Hp} {Q : VK} (q : ∀ a, SqT K H a xs → KTy K a → Q (.ref a) H) : tKt K xs σ H Q := fun a h hy => q a (h.sq H) hy
theorem r_isTy {K : PySem.W.Frag} {a : Addr} {H : Hp} {R : Prop} (h : KTy K a) (h2 : R) : tyV K "tuple" (.ref a) H ∧ R := ⟨.inr (.inl ⟨rfl, h⟩), h2⟩
/-! ### bits, powers, abs, sum -/
def rShr : R2 := fun x y H Q => ∃ (i : Int) (k : Nat), x = .int i ∧ y = .int (k : Int) ∧ Q (.int (i / 2 ^ k)) H
theorem oShr : OpR X (binaryOp .RShift) rShr := op_shrN
theorem r_shr {i : Int} {k : Nat} {H : Hp} {Q : VK} (q : Q (.int (i / 2 ^ k)) H) : rShr (.int i) (.int (k : Int)) H Q := ⟨i, k, rfl, rfl, q⟩
def rAndB : R2 := fun x y H Q => ∃ i : Int, x = .int i ∧ y = .int 255 ∧ Q (.int (i % 256)) H
theorem oAndB : OpR X (binaryOp .BitAnd) rAndB := by
  intro pins s σ H x y v u Q I rx ry h
  obtain ⟨i, rfl, rfl, q⟩ := h
  exact op_andM pins s σ H _ _ v u Q I rx ry ⟨i, 8, rfl, rfl, q⟩
theorem r_andB {i : Int} {H : Hp} {Q : VK} (q : Q (.int (i % 256)) H) : rAndB (.int i) (.int 255) H Q := ⟨i, rfl, rfl, q⟩
def rShl1 : R2 := fun x y H Q => ∃ k : Nat, x = .int 1 ∧ y = .int (k : Int) ∧ k ≤ 134217727 ∧ Q (.int (2 ^ k)) H
theorem oShl1 : OpR X (binaryOp .LShift) rShl1 := op_oneShl
theorem r_shl1 {k : Nat} {H : Hp} {Q : VK} (hk : k ≤ 1000) (q : Q (.int (2 ^ k)) H) : rShl1 (.int 1) (.int (k : Int)) H Q := ⟨k, rfl, rfl, by omega, q⟩
def rPow (i : Int) (k : Nat) : R2 := fun x y H Q => x = .int i ∧ y = .int (k : Int) ∧ Q (.int (i ^ k)) H
theorem oPow18 : OpR X (binaryOp .Pow) (rPow 10 18) := by
  intro pins s σ H x y v u Q I rx ry h
  obtain ⟨rfl, rfl, q⟩ := h
  exact op_pow pins s σ H _ _ v u Q I rx ry ⟨10, 18, rfl, rfl, ⟨by decide, by decide, by decide⟩, q⟩
theorem r_pow {i : Int} {k : Nat} {H : Hp} {Q : VK} (q : Q (.int (i ^ k)) H) : rPow i k (.int i) (.int (k : Int)) H Q := ⟨rfl, rfl, q⟩
theorem r_pow18 {H : Hp} {Q : VK} (q : Q (.int 1000000000000000000) H) : rPow 10 18 (.int 10) (.int 18) H Q := ⟨rfl, rfl, q⟩
def rAbs : List V → Hp → VK → Prop := fun xs H Q => ∃ i, xs = [.int i] ∧ Q (.int (if i < 0 then -i else i)) H
theorem cr_abs : CallR X (.builtin "abs") rAbs := call_abs
theorem r_abs {i : Int} {H : Hp} {Q : VK} (q : Q (.int (i.natAbs : Int)) H) : rAbs [.int i] H Q := by
  refine ⟨i, rfl, ?_⟩
  have e : (if i < 0 then -i else i) = (i.natAbs : Int) := by split <;> omega
  rw [e]
  exact q
theorem r_sum {K : PySem.W.Frag} {a : Addr} {ns : List Int} {H : Hp} {Q : VK} (h : SqL K H a (ns.map V.int)) (q : Q (.int ns.sum) H) : rSum K [.ref a] H Q := ⟨a, ns, rfl, h, q⟩
/-! ### t.index(x), xs.extend(ys) -/
def rTupIdx (K : PySem.W.Frag) : V → List V → Hp → VK → Prop := fun x xs H Q => ∃ p, ∃ ys : List Str, ∃ z j, x = .ref p ∧ xs = [.str z] ∧ SqT K H p (ys.map V.str) ∧ ys[j]? = some z ∧ (∀ m, m < j → ys[m]? ≠ some z) ∧ Q (.int (j : Nat)) H
theorem mtTupIdx : MtR X "tuple.index" (rTupIdx X.K) := mt_tup_index
theorem r_extend {l b : Addr} {xs zs : List V} {H : Hp} {Q : VK} (h : H l = some (.lst xs)) (g : H b = some (.lst zs)) (hz : xs.length + zs.length ≤ 16000000) (q : ∀ H2, But l H H2 → H2 l = some (.lst (xs ++ zs)) → Q .non H2) : rExtend (.ref l) [.ref b] H Q :=
  ⟨l, b, xs, zs, rfl, rfl, h, g, Nat.le_trans hz (by decide), q _ But.upd upd_same⟩
/-! ### reversed(range(n)) in a comprehension -/
def RvB (n : Int) (R : It → Prop) : Prop := -(2 ^ 62) ≤ (0 : Int) ∧ (0 : Int) < 2 ^ 62 ∧ -(2 ^ 62) ≤ n ∧ n < 2 ^ 62 ∧ R (Itc (0 + (((n - 0).toNat : Nat) : Int) - 1) (-1) (n - 0).toNat)
theorem r_revR {ta : TE} {σ : L2.St} {H : Hp} {R : It → Hp → Prop} (h : ta σ H fun x H1 => ∃ n, x = .int n ∧ RvB n fun J => R J H1) : iRevR (tRg1 ta) σ H R := h
theorem r_revR1 {n : Nat} {QS : It → Prop} (hn : n ≤ 1000000) (q : QS (Itc ((n : Int) - 1) (-1) n)) : ∃ m, V.int (n : Int) = .int m ∧ RvB m QS := by
  refine ⟨_, rfl, by omega, by omega, by omega, by omega, ?_⟩
  have e : ((n : Int) - 0).toNat = n := by omega
  rw [e]
  have e2 : 0 + (n : Int) - 1 = (n : Int) - 1 := by omega
  rw [e2]
  exact q
variable {σ : L2.St} {H : Hp} {Q : VK} {K : PySem.W.Frag} {g : TG} {tt : TT} {te : TE} {vs : List Nat}
theorem lcRv {lo c : Int} {n : Nat} (Pv : Addr → Nat → Hp → Prop) (h0 : ∀ D H2, H D = none → Same H H2 → H2 D = some (.lst []) → Pv D 0 H2)
    (hs : ∀ D i H', i < n → Pv D i H' → g (.int (lo + (i : Nat) * c)) (wipe σ vs) H' fun σ2 H2 => wipe σ2 vs = wipe σ vs ∧ tt σ2 H2 fun b H3 => if b = true then te σ2 H3 fun y H4 => Yield D (Pv D (i + 1)) y H4 else Pv D (i + 1) H3)
    (hd : ∀ D H', Pv D n H' → Q (.ref D) H') : LcR (Itc lo c n) g tt te vs Q σ H := fun D hD =>
  lc_it walk_rangeC (Pv D) (h0 D _ hD (ex_new hD) upd_same) (fun _ _ _ _ => trivial) (fun i x H H' hi p y => by obtain ⟨rfl, rfl⟩ := y; exact hs D i _ hi p) (hd D)
end
end My

set_option Elab.async false
set_option linter.all false
set_option maxRecDepth 100000
set_option maxHeartbeats 4000000
namespace My
open PySem PySem.Spec PyProof.Rows L2
open C8 (tCut pss_cut)
open PySem.W (alike dataLt)
/-! ### whole numbers of two factors, a wide divisor -/
section
variable {X : Cx}
def CDivB (_ j : Int) : Prop := 0 < j ∧ j ≤ 1000000000000000000000000000000000000000000000000000000000000
theorem CDivB.w {i j : Int} (h : CDivB i j) : CDivW i j := by
  refine ⟨h.1, ?_⟩
  have h3 : j ≤ 1000000000000000000000000000000000000000000000000000000000000 := h.2
  have h1 : 0 < j := h.1
  have h4 : j.natAbs ≤ 1000000000000000000000000000000000000000000000000000000000000 := by omega
  have h2 : j.natAbs < 2 ^ 9000 := Nat.lt_of_le_of_lt h4 (by decide +kernel)
  by_cases h0 : j.natAbs = 0
  · rw [h0]; decide +kernel
  · exact (Nat.log2_lt h0).mpr h2
theorem oDivB : OpR X (binaryOp .FloorDiv) (rI CDivB fun i j => .int (i / j)) := by
  intro pins s σ H x y v u Q I rx ry h
  obtain ⟨i, j, rfl, rfl, hc, q⟩ := h
  exact op_fdivW pins s σ H _ _ v u Q I rx ry ⟨i, j, rfl, rfl, hc.w, q⟩
theorem r_rep {l : Addr} {n : Int} {H : Hp} {Q : VK} {xs : List V} (h : H l = some (.lst xs)) (h0 : 0 ≤ n ∧ n ≤ 1000) (hl : xs.length ≤ 1000) (q : ∀ p H2, H p = none → Same H H2 → H2 p = some (.lst (List.replicate n.toNat xs).flatten) → Q (.ref p) H2) : rRep (.ref l) (.int n) H Q := by
  refine ⟨l, n, xs, rfl, rfl, h, by omega, by omega, ?_, fun p hp => q p _ hp (ex_new hp) upd_same⟩
  have : xs.length * n.toNat ≤ 1000 * 1000 := Nat.mul_le_mul hl (by omega)
  exact Nat.le_trans this (by decide)
theorem flat_rep (n : Nat) (v : V) : (List.replicate n [v]).flatten = List.replicate n v := by
  induction n with
  | zero => rfl
  | succ n ih => simp [List.replicate_succ, ih]
end
/-! ### octets: what is written -/
def wNum (n : Int) (c : Nat) : List Int := (List.range c).map fun k => n / 256 ^ (c - 1 - k) % 256
theorem wNum_len (n : Int) (c : Nat) : (wNum n c).length = c := by simp [wNum]
theorem wNum_succ (n : Int) (c : Nat) : wNum n (c + 1) = (n / 256 ^ c % 256) :: wNum n c := by
  unfold wNum
  rw [List.range_succ_eq_map, List.map_cons, List.map_map]
  congr 1
  refine List.map_congr_left fun k hk => ?_
  show n / 256 ^ (c + 1 - 1 - (k + 1)) % 256 = _
  have e : c + 1 - 1 - (k + 1) = c - 1 - k := by omega
  rw [e]
theorem wNum_get (n : Int) (c i : Nat) (h : i < c) : (wNum n c)[i]? = some (n / 256 ^ (c - 1 - i) % 256) := by
  unfold wNum
  rw [List.getElem?_map, List.getElem?_range h]
  rfl
def wTxt (z : Str) : List Int := (z.length : Int) :: z.cps.toList.map Int.ofNat
theorem wTxt_len (z : Str) : (wTxt z).length = z.length + 1 := by simp [wTxt, Str.length]
def wTxtD : PyData → List Int
  | .str z => wTxt z
  | _ => []
def wNmD : PyData → List Int
  | .tuple ds => (ds.length : Int) :: (ds.map wTxtD).flatten
  | _ => []
def wWdD : PyData → List Int
  | .int i => wNum i 4
  | _ => []
def KN : List Str := ["address", "text", "mail", "alias", "server", "start", "key", "link", "gap"]
def kIdx (z : Str) : Nat := KN.idxOf z
theorem kIdx_fact : ∀ κ ∈ KN, KN[kIdx κ]? = some κ ∧ (∀ m, m < kIdx κ → KN[m]? ≠ some κ) ∧ kIdx κ < 9 := by decide +kernel
theorem KN_asc : ∀ z ∈ KN, Asc z ∧ z.length ≤ 7 := by decide +kernel
def CD : List Str := ["data", "alias", "nodata", "noname", "referral", "refused"]
def cIdx (z : Str) : Nat := CD.idxOf z
theorem cIdx_fact : ∀ κ ∈ CD, CD[cIdx κ]? = some κ ∧ (∀ m, m < cIdx κ → CD[m]? ≠ some κ) ∧ cIdx κ < 6 := by decide +kernel
theorem CD_asc : ∀ z ∈ CD, Asc z ∧ z.length ≤ 8 := by decide +kernel
def kBit : PyData → Int
  | .str z => 2 ^ kIdx z
  | _ => 0
def kBits (ks : List PyData) : Int := (ks.map kBit).sum
/-- the kinds that the bits of b name -/
def pick (b : Nat) : List Str := (List.range 9).filterMap fun i => if b / 2 ^ i % 2 = 1 then KN[i]? else none
theorem fm_cong {α β : Type} {f g : α → Option β} : ∀ {l : List α}, (∀ x ∈ l, f x = g x) → l.filterMap f = l.filterMap g
  | [], _ => rfl
  | x :: l, h => by
    rw [List.filterMap_cons, List.filterMap_cons, h x List.mem_cons_self, fm_cong fun y hy => h y (List.mem_cons_of_mem _ hy)]
theorem pick_mod (b : Nat) : pick b = pick (b % 512) := by
  unfold pick
  refine fm_cong fun i hi => ?_
  have hi := List.mem_range.mp hi
  have e : b / 2 ^ i % 2 = b % 512 / 2 ^ i % 2 := by
    rcases (by omega : i = 0 ∨ i = 1 ∨ i = 2 ∨ i = 3 ∨ i = 4 ∨ i = 5 ∨ i = 6 ∨ i = 7 ∨ i = 8) with rfl | rfl | rfl | rfl | rfl | rfl | rfl | rfl | rfl <;> omega
  rw [e]
def lawBit (ks : List Str) (j : Nat) : Int := match KN[j]? with
  | some z => if inV (.str z) (ks.map V.str) = true then 2 ^ j else 0
  | none => 0
def lawBits (ks : List Str) (i : Nat) : Int := ((List.range i).map (lawBit ks)).sum
theorem lawBits_succ (ks : List Str) (i : Nat) : lawBits ks (i + 1) = lawBits ks i + lawBit ks i := by
  unfold lawBits
  rw [List.range_succ, List.map_append, List.sum_append]
  simp
theorem lawBits_pick : ∀ b : Nat, b < 512 → lawBits (pick b) 9 = kBits ((pick b).map PyData.str) := by decide +kernel
theorem pick_fact : ∀ b : Nat, (∀ z ∈ pick b, z ∈ KN) ∧ (pick b).length ≤ 9 := fun b => by
  refine ⟨fun z hz => ?_, ?_⟩
  · unfold pick at hz
    obtain ⟨i, _, hi⟩ := List.mem_filterMap.mp hz
    split at hi
    · exact List.mem_of_getElem? hi
    · cases hi
  · have := List.length_filterMap_le (fun i => if b / 2 ^ i % 2 = 1 then KN[i]? else none) (List.range 9)
    simpa [pick] using this
/-- the octets of a value of a kind -/
def wVal (κ : Str) (d : PyData) : List Int :=
  if κ = "text" then wTxtD d
  else if κ = "mail" then (match d with
    | .tuple [.int i, n] => wNum i 2 ++ wNmD n
    | _ => [])
  else if κ = "alias" ∨ κ = "server" then wNmD d
  else if κ = "start" then (match d with
    | .tuple [.int i, .int j] => wNum i 4 ++ wNum j 4
    | _ => [])
  else if κ = "gap" then (match d with
    | .tuple [n, .tuple ks] => wNmD n ++ wNum (kBits ks) 2
    | _ => [])
  else wWdD d
def wRec : PyData → List Int
  | .tuple [o, .str κ, .int t, .tuple vs] => wNmD o ++ [(kIdx κ : Int)] ++ wNum t 4 ++ [(vs.length : Int)] ++ (vs.map (wVal κ)).flatten
  | _ => []
def wSig : PyData → List Int
  | .tuple (n :: ws) => wNmD n ++ (ws.map wWdD).flatten
  | _ => []
def wSet : PyData → List Int
  | .tuple [r, .tuple sgs] => wRec r ++ [(sgs.length : Int)] ++ (sgs.map wSig).flatten
  | _ => []
def wRpl : PyData → List Int
  | .tuple [.str c, .tuple sets] => [(cIdx c : Int)] ++ wNum (sets.length : Int) 2 ++ (sets.map wSet).flatten
  | _ => []
/-! ### what is good to write -/
def nmW (d : PyData) : Prop := ∃ zs : List Str, d = dT zs ∧ (∀ z ∈ zs, Asc z ∧ z.length ≤ 20) ∧ zs.length ≤ 12
def txW (d : PyData) : Prop := ∃ z : Str, d = .str z ∧ Asc z ∧ z.length ≤ 60
def vlW (κ : Str) (d : PyData) : Prop :=
  if κ = "text" then txW d
  else if κ = "mail" then ∃ (i : Int) (n : PyData), d = .tuple [.int i, n] ∧ nmW n
  else if κ = "alias" ∨ κ = "server" then nmW d
  else if κ = "start" then ∃ i j : Int, d = .tuple [.int i, .int j]
  else if κ = "gap" then ∃ (n : PyData) (b : Nat), d = .tuple [n, dT (pick b)] ∧ nmW n ∧ b < 512
  else ∃ i : Int, d = .int i
def rcW (d : PyData) : Prop := ∃ (o : PyData) (κ : Str) (t : Int) (vs : List PyData), d = .tuple [o, .str κ, .int t, .tuple vs] ∧ nmW o ∧ κ ∈ KN ∧ (∀ v ∈ vs, vlW κ v) ∧ vs.length ≤ 100
def sgW (d : PyData) : Prop := ∃ (n : PyData) (ws : List Int), d = .tuple (n :: ws.map PyData.int) ∧ nmW n ∧ ws.length = 5
def stW (d : PyData) : Prop := ∃ (r : PyData) (sgs : List PyData), d = .tuple [r, .tuple sgs] ∧ rcW r ∧ (∀ s ∈ sgs, sgW s) ∧ sgs.length ≤ 20
def rpW (d : PyData) : Prop := ∃ (c : Str) (sets : List PyData), d = .tuple [.str c, .tuple sets] ∧ c ∈ CD ∧ (∀ s ∈ sets, stW s) ∧ sets.length ≤ 200
theorem nmW.nameD {d : PyData} (h : nmW d) : nameD d := by
  obtain ⟨zs, rfl, h1, h2⟩ := h
  exact ⟨zs, rfl, fun z hz => (h1 z hz).1, h2⟩
theorem vlW.valK {κ : Str} {d : PyData} (h : vlW κ d) : valK κ d := by
  unfold vlW at h
  unfold My.valK
  split
  · rename_i c; rw [if_pos c] at h; obtain ⟨z, rfl, h1, _⟩ := h; exact ⟨z, rfl, h1⟩
  rename_i c; rw [if_neg c] at h
  split
  · rename_i c; rw [if_pos c] at h; obtain ⟨i, n, rfl, h1⟩ := h; exact ⟨i, n, rfl, h1.nameD⟩
  rename_i c; rw [if_neg c] at h
  split
  · rename_i c; rw [if_pos c] at h; exact h.nameD
  rename_i c; rw [if_neg c] at h
  split
  · rename_i c; rw [if_pos c] at h; exact h
  rename_i c; rw [if_neg c] at h
  split
  · rename_i c; rw [if_pos c] at h
    obtain ⟨n, b, rfl, h1, _⟩ := h
    refine ⟨n, _, rfl, h1.nameD, pick b, rfl, fun z hz => (KN_asc z ((pick_fact b).1 z hz)).1, ?_⟩
    have := (pick_fact b).2
    omega
  rename_i c; rw [if_neg c] at h
  exact h
/-! ### how long the octets are -/
theorem flat_len {ds : List PyData} {f : PyData → List Int} {n : Nat} (h : ∀ d ∈ ds, (f d).length ≤ n) : ((ds.map f).flatten).length ≤ ds.length * n := by
  induction ds with
  | nil => simp
  | cons d ds ih =>
    have h1 := h d List.mem_cons_self
    have h2 := ih fun x hx => h x (List.mem_cons_of_mem _ hx)
    have e : (ds.length + 1) * n = ds.length * n + n := Nat.succ_mul _ _
    rw [List.map_cons, List.flatten_cons, List.length_append, List.length_cons, e]
    omega
theorem flat_len' {ds : List PyData} {f : PyData → List Int} {n m : Nat} (h : ∀ d ∈ ds, (f d).length ≤ n) (hm : ds.length ≤ m) : ((ds.map f).flatten).length ≤ m * n :=
  Nat.le_trans (flat_len h) (Nat.mul_le_mul_right _ hm)
theorem flat_take {ds : List PyData} {f : PyData → List Int} {n m i : Nat} (h : ∀ d ∈ ds, (f d).length ≤ n) (hm : ds.length ≤ m) : (((ds.take i).map f).flatten).length ≤ m * n :=
  flat_len' (fun d hd => h d (List.mem_of_mem_take hd)) (by rw [List.length_take]; omega)
theorem flat_step {ds : List PyData} {f : PyData → List Int} {i : Nat} {d : PyData} (h : ds[i]? = some d) : (((ds.take (i + 1)).map f).flatten) = ((ds.take i).map f).flatten ++ f d := by
  rw [List.take_add_one, h, List.map_append, List.flatten_append]
  simp
theorem flat_all {ds : List PyData} {f : PyData → List Int} {i : Nat} (h : ds.length ≤ i) : (((ds.take i).map f).flatten) = (ds.map f).flatten := by rw [List.take_of_length_le h]
theorem wNmD_len {d : PyData} (h : nmW d) : (wNmD d).length ≤ 253 := by
  obtain ⟨zs, rfl, h1, h2⟩ := h
  show (((zs.map PyData.str).map wTxtD).flatten).length + 1 ≤ 253
  have := flat_len' (ds := zs.map PyData.str) (f := wTxtD) (n := 21) (m := 12) (fun d hd => by
    obtain ⟨z, hz, rfl⟩ := List.mem_map.mp hd
    have := (h1 z hz).2
    show (wTxt z).length ≤ 21
    rw [wTxt_len]; omega) (by rw [List.length_map]; exact h2)
  omega
theorem wWdD_len (d : PyData) : (wWdD d).length ≤ 4 := by
  unfold wWdD
  split
  · rw [wNum_len]; omega
  · simp
theorem wVal_len {κ : Str} {d : PyData} (h : vlW κ d) : (wVal κ d).length ≤ 300 := by
  unfold vlW at h
  unfold wVal
  split
  · rename_i c; rw [if_pos c] at h
    obtain ⟨z, rfl, _, hz⟩ := h
    show (wTxt z).length ≤ 300
    rw [wTxt_len]; omega
  rename_i c; rw [if_neg c] at h
  split
  · rename_i c; rw [if_pos c] at h; obtain ⟨i, n, rfl, h1⟩ := h
    show (wNum i 2 ++ wNmD n).length ≤ 300
    have := wNmD_len h1
    rw [List.length_append, wNum_len]; omega
  rename_i c; rw [if_neg c] at h
  split
  · rename_i c; rw [if_pos c] at h
    have := wNmD_len h
    omega
  rename_i c; rw [if_neg c] at h
  split
  · rename_i c; rw [if_pos c] at h; obtain ⟨i, j, rfl⟩ := h
    show (wNum i 4 ++ wNum j 4).length ≤ 300
    rw [List.length_append, wNum_len, wNum_len]; omega
  rename_i c; rw [if_neg c] at h
  split
  · rename_i c; rw [if_pos c] at h
    obtain ⟨n, b, rfl, h1, _⟩ := h
    show (wNmD n ++ wNum (kBits ((pick b).map PyData.str)) 2).length ≤ 300
    have := wNmD_len h1
    rw [List.length_append, wNum_len]; omega
  exact Nat.le_trans (wWdD_len d) (by decide)
theorem wRec_len {d : PyData} (h : rcW d) : (wRec d).length ≤ 30300 := by
  obtain ⟨o, κ, t, vs, rfl, h1, h2, h3, h4⟩ := h
  show (wNmD o ++ [(kIdx κ : Int)] ++ wNum t 4 ++ [(vs.length : Int)] ++ (vs.map (wVal κ)).flatten).length ≤ 30300
  have a1 := wNmD_len h1
  have a2 := flat_len' (f := wVal κ) (n := 300) (fun v hv => wVal_len (h3 v hv)) h4
  simp only [List.length_append, wNum_len, List.length_singleton]
  omega
theorem wSig_len {d : PyData} (h : sgW d) : (wSig d).length ≤ 273 := by
  obtain ⟨n, ws, rfl, h1, h2⟩ := h
  show (wNmD n ++ ((ws.map PyData.int).map wWdD).flatten).length ≤ 273
  have a1 := wNmD_len h1
  have a2 := flat_len' (ds := ws.map PyData.int) (f := wWdD) (n := 4) (m := 5) (fun v _ => wWdD_len v) (by rw [List.length_map]; omega)
  rw [List.length_append]
  omega
theorem wSet_len {d : PyData} (h : stW d) : (wSet d).length ≤ 36000 := by
  obtain ⟨r, sgs, rfl, h1, h2, h3⟩ := h
  show (wRec r ++ [(sgs.length : Int)] ++ (sgs.map wSig).flatten).length ≤ 36000
  have a1 := wRec_len h1
  have a2 := flat_len' (f := wSig) (n := 273) (fun v hv => wSig_len (h2 v hv)) h3
  simp only [List.length_append, List.length_singleton]
  omega
theorem wRpl_len {d : PyData} (h : rpW d) : (wRpl d).length ≤ 7300000 := by
  obtain ⟨c, sets, rfl, h1, h2, h3⟩ := h
  show ([(cIdx c : Int)] ++ wNum (sets.length : Int) 2 ++ (sets.map wSet).flatten).length ≤ 7300000
  have a2 := flat_len' (f := wSet) (n := 36000) (fun v hv => wSet_len (h2 v hv)) h3
  simp only [List.length_append, List.length_singleton, wNum_len]
  omega
/-! ### pure -/
theorem nmW.pure {d : PyData} (h : nmW d) : pureD d = true ∧ d.depth ≤ 1 := h.nameD.pure
theorem pure_list {ds : List PyData} {n : Nat} (h : ∀ d ∈ ds, pureD d = true ∧ d.depth ≤ n) (hl : ds.length ≤ 10000) : pureD (.tuple ds) = true ∧ (PyData.tuple ds).depth ≤ n + 1 := by
  have g : GoodT n 10000 ds := ⟨h, hl⟩
  exact ⟨g.pure (by decide), g.depth⟩
theorem rcW.pure {d : PyData} (h : rcW d) : pureD d = true ∧ d.depth ≤ 4 := by
  obtain ⟨o, κ, t, vs, rfl, h1, h2, h3, h4⟩ := h
  refine pure_list (n := 3) (fun d hd => ?_) (by show 4 ≤ 10000; decide)
  simp only [List.mem_cons, List.not_mem_nil, or_false] at hd
  rcases hd with rfl | rfl | rfl | rfl
  · exact ⟨h1.pure.1, by have := h1.pure.2; omega⟩
  · exact ⟨pure_str (KN_asc κ h2).1, by simp [PyData.depth]⟩
  · exact ⟨rfl, by simp [PyData.depth]⟩
  · exact pure_list (fun v hv => (h3 v hv).valK.pure) (by omega)
theorem sgW.pure {d : PyData} (h : sgW d) : pureD d = true ∧ d.depth ≤ 2 := by
  obtain ⟨n, ws, rfl, h1, h2⟩ := h
  refine pure_list (n := 1) (fun d hd => ?_) (by rw [List.length_cons, List.length_map]; omega)
  rcases List.mem_cons.mp hd with rfl | hd
  · exact h1.pure
  · obtain ⟨i, _, rfl⟩ := List.mem_map.mp hd
    exact ⟨rfl, by simp [PyData.depth]⟩
theorem stW.pure {d : PyData} (h : stW d) : pureD d = true ∧ d.depth ≤ 5 := by
  obtain ⟨r, sgs, rfl, h1, h2, h3⟩ := h
  refine pure_list (n := 4) (fun d hd => ?_) (by show 2 ≤ 10000; decide)
  simp only [List.mem_cons, List.not_mem_nil, or_false] at hd
  rcases hd with rfl | rfl
  · exact h1.pure
  · have := pure_list (n := 2) (fun v hv => (h2 v hv).pure) (by omega : sgs.length ≤ 10000)
    exact ⟨this.1, by omega⟩
theorem rpW.pure {d : PyData} (h : rpW d) : pureD d = true ∧ d.depth ≤ 7 := by
  obtain ⟨c, sets, rfl, h1, h2, h3⟩ := h
  refine pure_list (n := 6) (fun d hd => ?_) (by show 2 ≤ 10000; decide)
  simp only [List.mem_cons, List.not_mem_nil, or_false] at hd
  rcases hd with rfl | rfl
  · exact ⟨pure_str (CD_asc c h1).1, by simp [PyData.depth]⟩
  · exact pure_list (n := 5) (fun v hv => (h2 v hv).pure) (by omega)
section
variable {X : Cx}
def rOrd : List V → Hp → VK → Prop := fun xs H Q => ∃ x, xs = [.str x] ∧ x.length = 1 ∧ Q (.int (x.cps.getD 0 0 : Nat)) H
theorem cOrd : CallR X (.builtin "ord") rOrd := call_ord
theorem r_ord {c : Nat} {H : Hp} {Q : VK} (q : Q (.int (c : Nat)) H) : rOrd [.str ⟨#[c]⟩] H Q := ⟨_, rfl, rfl, q⟩
def rIdxS (K : PySem.W.Frag) : V → List V → Hp → VK → Prop := fun x xs H Q => ∃ p, ∃ ys : List Str, ∃ z j, x = .ref p ∧ xs = [.str z] ∧ SqL K H p (ys.map V.str) ∧ ys[j]? = some z ∧ (∀ m, m < j → ys[m]? ≠ some z) ∧ Q (.int (j : Nat)) H
theorem flat_strs (ys : List Str) : (ys.map V.str).all flatV = true := by
  rw [List.all_map]
  exact List.all_eq_true.mpr fun _ _ => rfl
theorem mtIdxS : MtR X "list.index" (rIdxS X.K) := by
  intro pins s σ H x xs v us Q I rx rxs h
  obtain ⟨p, ys, z, j, rfl, rfl, hq, hy, hno, q⟩ := h
  refine mt_index pins s σ H _ _ v us Q I rx rxs ⟨p, ys.map V.str, .str z, j, .str z, rfl, rfl, hq, rfl, flat_strs ys, by rw [List.getElem?_map, hy]; rfl, beq_self_eq_true z, fun m z' hm hz => ?_, q⟩
  obtain ⟨y, hy', rfl⟩ := map_get hz
  show (y == z) = false
  rw [beq_eq_false_iff_ne]
  rintro rfl
  exact hno m hm hy'
theorem r_idxS {K : PySem.W.Frag} {p : Addr} {ys : List Str} {z : Str} {j : Nat} {H : Hp} {Q : VK} (h : SqL K H p (ys.map V.str)) (hy : ys[j]? = some z) (hno : ∀ m, m < j → ys[m]? ≠ some z) (q : Q (.int (j : Nat)) H) : rIdxS K (.ref p) [.str z] H Q := ⟨p, ys, z, j, rfl, rfl, h, hy, hno, q⟩
theorem r_tupIdx {K : PySem.W.Frag} {p : Addr} {ys : List Str} {z : Str} {j : Nat} {H : Hp} {Q : VK} (h : SqT K H p (ys.map V.str)) (hy : ys[j]? = some z) (hno : ∀ m, m < j → ys[m]? ≠ some z) (q : Q (.int (j : Nat)) H) : rTupIdx K (.ref p) [.str z] H Q := ⟨p, ys, z, j, rfl, rfl, h, hy, hno, q⟩
/-- a new list of whole numbers -/
def Oct (os : List Int) (H : Hp) (Q : VK) : Prop := ∀ p H', H p = none → Same H H' → H' p = some (.lst (os.map V.int)) → Q (.ref p) H'
theorem r_catO {l b : Addr} {xs ys : List Int} {H : Hp} {Q : VK} (h1 : H l = some (.lst (xs.map V.int))) (h2 : H b = some (.lst (ys.map V.int))) (hz : xs.length + ys.length ≤ 100000) (q : Oct (xs ++ ys) H Q) : rCat (.ref l) (.ref b) H Q :=
  r_cat h1 h2 (by simpa using hz) fun p H2 n e h => q p H2 n e (by rw [h, List.map_append])
theorem r_extO {l b : Addr} {xs zs : List Int} {H : Hp} {Q : VK} (h : H l = some (.lst (xs.map V.int))) (g : H b = some (.lst (zs.map V.int))) (hz : xs.length + zs.length ≤ 16000000) (q : ∀ H2, But l H H2 → H2 l = some (.lst ((xs ++ zs).map V.int)) → Q .non H2) : rExtend (.ref l) [.ref b] H Q :=
  r_extend h g (by simpa using hz) fun H2 b h => q H2 b (by rw [h, List.map_append])
def spW (K : PySem.W.Frag) (val : PyData → Prop) (wf : PyData → List Int) : Sp := fun vs H Q _ => ∃ v d, vs = [v] ∧ Dp K H v d ∧ val d ∧ Oct (wf d) H Q
theorem r_W {K : PySem.W.Frag} {val : PyData → Prop} {wf : PyData → List Int} {v : V} {d : PyData} {H : Hp} {Q : VK} (hv : Dp K H v d) (g : val d) (q : Oct (wf d) H Q) : spW K val wf [v] H Q E0 := ⟨v, d, rfl, hv, g, q⟩
def spN : Sp := fun vs H Q _ => ∃ (n : Int) (c : Nat), vs = [.int n, .int (c : Nat)] ∧ c ≤ 8 ∧ Oct (wNum n c) H Q
def spV (K : PySem.W.Frag) : Sp := fun vs H Q _ => ∃ κ v d, vs = [.str κ, v] ∧ Dp K H v d ∧ vlW κ d ∧ Oct (wVal κ d) H Q
end
section
variable {σ : L2.St} {H : Hp} {Q : VK} {g : TG} {tt : TT} {te : TE} {vs : List Nat}
theorem lcS {z : Str} (Pv : Addr → Nat → Hp → Prop) (h0 : ∀ D H2, H D = none → Same H H2 → H2 D = some (.lst []) → Pv D 0 H2)
    (hs : ∀ D i c H', z.cps.toList[i]? = some c → Pv D i H' → g (.str ⟨#[c]⟩) (wipe σ vs) H' fun σ2 H2 => wipe σ2 vs = wipe σ vs ∧ tt σ2 H2 fun b H3 => if b = true then te σ2 H3 fun y H4 => Yield D (Pv D (i + 1)) y H4 else Pv D (i + 1) H3)
    (hd : ∀ D H', Pv D z.length H' → Q (.ref D) H') : LcR (Its z) g tt te vs Q σ H := fun D hD =>
  lc_it walk_str (Pv D) (h0 D _ hD (ex_new hD) upd_same) (fun _ _ _ _ => trivial) (fun i x H H' hi p y => by obtain ⟨rfl, c, hc, rfl⟩ := y; exact hs D i c _ (by simpa using hc) p) (hd D)
end
section
variable {X : Cx}
/-- C.index(e), C a constant tuple of texts -/
def tKIdx (xs : List V) (te : TE) : TE := fun σ H Q => ∀ (K : PySem.W.Frag) (a : Addr), KT K a xs → KTy K a → tyV K "tuple" (.ref a) H ∧ te σ H fun y H1 => rTupIdx K (.ref a) [y] H1 Q
theorem pe_kidx {x : Str} {xs : List V} {p apos pos : Pos} {e : Expr} {te : TE} (h : GK X.K X.mg x xs) (hg : Gl X x) (he : PE X e te) (hd : (x == ("__debug__" : Str)) = false := by decide)
    (hbase : attributeBase (.Name x p) "index" X.env (eval (.Name x p) X.env) = eval (.Name x p) X.env := by rfl)
    (hfew : ((backTo pos (starEach [e] X.env)).all (fun x => !x.1) && (backToKw pos (keywordEach [] X.env)).all (fun x => x.1.isSome)
      && decide (([e] : List Expr).length + ([] : List Keyword).length + (if ([] : List Keyword).isEmpty then 0 else 1) < 30)) = true := by rfl)
    (hline : (apos.endLine == pos.line) = true := by rfl) (hs : starEach [e] X.env = (false, eval e X.env) :: starEach [] X.env := by rfl) (hplain : (backTo pos (starEach [] X.env)).any (·.1) = false := by rfl) : PE X (.Call (.Attribute (.Name x p) "index" apos) [e] [] pos) (tKIdx xs te) := by
  have q := pe_bm (apos := apos) (cpos := pos) PySem.F.plainAttrs_tuple PySem.F.slot_tuple_index PySem.F.type_tuple_index mtTupIdx (pe_gk (pos := p) h hg hd) (pa_cons he pa_nil hs) hbase hfew hline hs hplain
  exact ⟨fun pins s σ H Q I r => q.run pins s σ H Q I fun a k ky => r X.K a k ky⟩
theorem r_kidx {xs : List V} {te : TE} {σ : L2.St} {H : Hp} {Q : VK} (h : ∀ (K : PySem.W.Frag) (a : Addr), (∀ H, SqT K H a xs) → te σ H fun y H1 => rTupIdx K (.ref a) [y] H1 Q) : tKIdx xs te σ H Q := fun K a k ky => r_isTy ky (h K a fun H => k.sq H)
end
theorem r_rvB {n : Nat} {QS : It → Prop} (hn : n ≤ 1000000) (q : QS (Itc ((n : Int) - 1) (-1) n)) : RvB (n : Int) QS := by
  obtain ⟨m, e, h⟩ := r_revR1 hn q
  cases e
  exact h
theorem wNmD_dT (zs : List Str) : wNmD (dT zs) = [(zs.length : Int)] ++ ((zs.map PyData.str).map wTxtD).flatten := by
  show ((((zs.map PyData.str).length : Nat) : Int) :: ((zs.map PyData.str).map wTxtD).flatten) = _
  rw [List.length_map]
  rfl
end My

set_option Elab.async false
set_option linter.all false
set_option maxRecDepth 100000
set_option maxHeartbeats 4000000
namespace My
open PySem PySem.Spec PyProof.Rows L2
open C8 (tCut pss_cut)
/-! ### comprehensions whose element may raise -/
section
variable {X : Cx} {pins : List (Addr × Obj)} {σ : L2.St} {H : Hp} {s : Shared}
/-- the same state under another wish for errors -/
theorem inv_xe {X Y : Cx} {q : Value → Shared → Prop} (e : Y = { X with xe := q }) (I : Inv X pins σ H s) : Inv Y pins σ H s := by
  subst e
  obtain ⟨o, i1, i2, i3, i4, i5, i6, i7, i8, i9, i10⟩ := I
  obtain ⟨a1, a2, a3, a4, a5, a6, a7, a8, a9, a10, a11, a12, a13, a14, a15, a16, a17, a18⟩ := o
  exact ⟨⟨a1, a2, a3, a4, a5, a6, a7, a8, a9, a10, a11, a12, a13, a14, a15, a16, a17, a18⟩, i1, i2, i3, i4, i5, i6, i7, i8, i9, i10⟩
/-- a call's error passes a comprehension's block and is in the def's air -/
theorem raise_blk {E : XK} {use : Option (Value → Sem Unit)} {Qf : Value → Shared → Prop} {D C : Addr} {H3 : Hp} {s3 : Shared} {scope : Scope} {cl : List (Str × Addr)} {fp : List Addr}
    (I3 : Inv X pins σ H3 s3) (hs : X.stack = X.env :: X.outer) (hf : X.env.frame = some X.env.locals) (tk : Takes X fun c d _ H => E c d H) (hfp : ∀ b ∈ fp, FpOk X pins H3 b) (hC : s3.heap.objs.size ≤ C)
    (q1 : List (Addr × Obj)) (σ1 : L2.St) (H1 : Hp) (s1 : Shared) (u : Value) (s2 : Shared) (J : Inv (X.blk s3 H3 scope (compEnvC scope cl C X.env) fp) q1 σ1 H1 s1) (c : L2.CX X.prog X.w X.stack H1 s1 E u s2) :
    notedBy (model X.prog X.w) X.A (compEnvC scope cl C X.env) (fun e t => compEnds (model X.prog X.w) X.A X.xe use Qf (.ref D) (compEnvC scope cl C X.env) (.error e) t) u s2 := by
  obtain ⟨a, B, sI, q2, σ2, Hx, cls, d, eu, Jx, nb, up, sky, na, os, ag, w⟩ := XE.of_call (W := fun c d _ H => E c d H) J (fun _ _ _ h => h) c
  obtain ⟨a', B', _, cls', d', eu', fl', _⟩ := c
  subst eu
  cases eu'
  have sky : Sky B X.stack a (Zc cls d) C s2.heap := sky
  have fl : HandSPX.FlyingZ B X.stack a (Zc cls d) s2.heap := by
    obtain ⟨_, _, _, oe1, vs1, T1, oT1, ts1, g1, _, g2, g3, _, _, g6, g7, g8⟩ := fl'
    rcases sky with ⟨_, _, _, oe, vs, k1, _, k2, k3⟩ | fl | hh
    · rw [g1] at k1; cases k1
      rw [g2] at k2; cases k2
      rw [g3] at k3; cases k3
    · exact fl
    · obtain ⟨_, _, _, oe2, vs2, T2, oT2, ts2, k1, _, k2, k3, _, _, k6, k7, k8⟩ := hh
      rw [g1] at k1; cases k1
      rw [g2] at k2; cases k2
      rw [g3] at k3; cases k3
      rw [g6] at k6; cases k6
      rw [g7] at k7; cases k7
      rw [g8] at k8; cases k8
  have fr : X.A.frames = some (X.env :: X.outer) := by rw [← hs]; exact I3.ok.frames
  rw [hs] at fl
  have hxC : Hx C = none := Jx.free
  have fC := I3.fpOk hC hxC
  have ncs : C ∉ frs X.stack := fun hm => by
    obtain ⟨ev, he, hv⟩ := List.mem_filterMap.mp hm
    rw [hs] at he
    rcases List.mem_cons.mp he with rfl | he
    · rw [hf] at hv; cases hv; exact fC.2.1 rfl
    · exact fC.2.2.1 (List.mem_filterMap.mpr ⟨ev, he, hv⟩)
  show wpAny _ _ (noteFrame (.ref a) (compEnvC scope cl C X.env)) _ _ _
  rw [noteFrame_env (.ref a) (cenv := compEnvC scope cl C X.env) (env := X.env) rfl]
  refine HandSPX.looks_onZ Zc.steady fr hf fl fun h1 hh u1 => ?_
  obtain ⟨m, hn, _⟩ := Jx.loc
  have hn : sI.heap.Ns C m := hn
  have hn1 : h1.Ns C m := (hn.upToSlots up).upToSlots u1
  show CompFails _ _ _ _ _ _
  refine ⟨m, hn1, fun h2 m2 hn2 sb => ?_⟩
  have hn2 : h2.Ns C m2 := hn2
  have sb : Heap.SameBut C h1 h2 := sb
  obtain ⟨oI, esI, epI, hoI, hdI, _⟩ := id hn
  obtain ⟨o1, es1, ep1, ho1, hd1, _⟩ := id hn1
  obtain ⟨o2, es2, ep2, ho2, hd2, _⟩ := id hn2
  have hBC : B.get? C = some oI := nb C oI hoI ncs
  have nfr : o2.isFreed = false := (Heap.get?_some_iff.mp ho2).2
  have b2C : (B.update C fun _ => o2).get? C = some o2 := Heap.get?_update_self (fun _ => o2) hBC nfr
  have b2o : ∀ b, b ≠ C → (B.update C fun _ => o2).get? b = B.get? b := fun b hb => Heap.get?_update_other _ _ (Ne.symm hb)
  have i2C : (sI.heap.update C fun _ => o2).get? C = some o2 := Heap.get?_update_self (fun _ => o2) hoI nfr
  have i2o : ∀ b, b ≠ C → (sI.heap.update C fun _ => o2).get? b = sI.heap.get? b := fun b hb => Heap.get?_update_other _ _ (Ne.symm hb)
  obtain ⟨k1, k2, k3, oe, vs, T, oT, ts, t1, tz, t2, t3, t4, t5, t6, t7, t8⟩ := hh
  have haC : a ≠ C := by rintro rfl; rw [t1] at ho1; cases ho1; rw [t2] at hd1; cases hd1
  have hTC : T ≠ C := by rintro rfl; rw [t6] at ho1; cases ho1; rw [t7] at hd1; cases hd1
  have hh2 : HandSPX.HeldZ (B.update C fun _ => o2) (X.env :: X.outer) a (Zc cls d) X.env.locals h2 := by
    refine ⟨fun b o e => ?_, (b2o a haC).trans k2, funFrames_none (Heap.FunFrames.sameBut sb hn2 k3) fun L hL => ?_, oe, vs, T, oT, ts, (sb.2 a haC).trans t1, tz, t2, t3, (b2o T hTC).trans t4, t5, (sb.2 T hTC).trans t6, t7, t8⟩
    · by_cases hb : b = C
      · subst hb
        rw [b2C] at e
        cases e
        exact ho2
      · rw [b2o b hb] at e
        exact (sb.2 b hb).trans (k1 b o e)
    · have hLC : L ≠ C := by rintro rfl; exact ncs (hs ▸ hL)
      exact (b2o L hLC).trans (k3.mem hL).1
  unfold PySem.passOn
  refine wpAny_bind (wpAny_field ((sb.2 a haC).trans t1) t2 t3 ?_)
  rw [if_neg (by simp)]
  have hcf : (compEnvC scope cl C X.env).frame = some X.env.locals := hf
  rw [hcf]
  refine wpAny_bind (HandSPX.setFlight_onZ hh2 fun h3 hh3 u3 => wpAny_throw ?_)
  have I8 : Inv X pins σ Hx sI := I3.call' (ch := fp) Jx.os Jx.base Jx.hok Jx.bare fun b hb => ⟨(hfp b hb).2.2.2.1, (hfp b hb).2.1, (hfp b hb).2.2.2.2.1, (hfp b hb).2.2.2.2.2⟩
  have I9 : Inv X pins σ Hx { sI with heap := sI.heap.update C fun _ => o2 } := I8.turned (t' := sI.toks) (it := C) (fun b o hb e => (i2o b hb).trans e) hxC fC.2.1 fC.2.2.2.1 fC.2.2.2.2.1 fC.2.2.2.2.2
  refine tk _ _ ⟨a, B.update C fun _ => o2, { sI with heap := sI.heap.update C fun _ => o2 }, pins, σ, Hx, cls, d, rfl, I9, fun b o e hb => ?_, fun b o e nf => ?_, .inr (.inr (by rw [hs]; exact hh3)), na, os, ag, w⟩
  · have e : (sI.heap.update C fun _ => o2).get? b = some o := e
    by_cases hbC : b = C
    · subst hbC
      rw [i2C] at e
      rw [b2C]
      exact e
    · rw [i2o b hbC] at e
      exact (b2o b hbC).trans (nb b o e hb)
  · have e : (sI.heap.update C fun _ => o2).get? b = some o := e
    by_cases hbC : b = C
    · subst hbC
      rw [i2C] at e
      cases e
      exact u3 b o2 ho2 nf
    · rw [i2o b hbC] at e
      obtain ⟨l1, z1⟩ := up b o e nf
      obtain ⟨l2, z2⟩ := u1 b _ z1 nf
      obtain ⟨l3, z3⟩ := u3 b _ ((sb.2 b hbC).trans z2) nf
      exact ⟨l3, z3⟩
/-- [elt for x in iter], the element may raise: E is what is wanted of an error -/
def PEx (X : Cx) (E : XK) (scope : Scope) (elt : Expr) (te : TE) : Prop := ∀ (s : Shared) (H : Hp) (C : Addr) (cl : List (Str × Addr)) (fp : List Addr) (q : Value → Shared → Prop),
  (∀ σ, PassesAt (L2.CX X.prog X.w) { X.blk s H scope (compEnvC scope cl C X.env) fp with xe := q } σ E) → PE { X.blk s H scope (compEnvC scope cl C X.env) fp with xe := q } elt te
theorem core_x {E : XK} {Q : VK} {elt tg iter : Expr} {scope : Scope} {own : List (Str × Nat)} {pos pos' : Pos} {wi : TI} {g : TG} {te : TE} {use : Option (Value → Sem Unit)} {Qf : Value → Shared → Prop}
    (calm : X.calm = true) (hs : X.stack = X.env :: X.outer) (hf : X.env.frame = some X.env.locals) (tk : Takes X fun c d _ H => E c d H) (nd : X.N.Nodup) (I : Inv X pins σ H s) (hi : PI X tg iter wi) (ok : BlkOk X.N X.env.scope scope own)
    (hg : ∀ (s : Shared) (H : Hp) (C : Addr) (cl : List (Str × Addr)) (fp : List Addr), PG (X.blk s H scope (compEnvC scope cl C X.env) fp) tg g)
    (he : PEx X E scope elt te) (hfold : ∀ x, foldedSetIterable iter X.env x = pure x) (h : tLc wi g tYes te (own.map (·.2)) σ H Q)
    (fin : ∀ D C t m H', Inv X pins σ H' t → Q (.ref D) H' → t.heap.Ns C m → FpOk X pins H' C → ∀ cenv : Env, cenv.locals = C → compEnds (model X.prog X.w) X.A X.xe use Qf (.ref D) cenv (.ok .next) t) :
    wpAny (model X.prog X.w) X.A (comprehension (.ListComp elt [⟨tg, iter, [], 0⟩] scope pos) scope X.env pos' (newList []) false (eval iter X.env) use) Qf X.xe s := by
  have free : ∀ p ∈ scope.names, p.2 = .free → ∃ c, X.env.cells.lookup p.1 = some c := by
    intro p hp hk
    exact (ok.free p hp hk).elim (fun z => I.ok.has _ (.inl z)) fun z => I.ok.has _ (.inr z)
  refine comprehension_at rfl hfold (closure_ok free) ok.kind (fun p hp hk => by rw [ok.uniq p hp, hk]) ?_
  refine thn (hi.run pins s σ H _ I h) fun v1 t1 r1 => ?_
  refine thn r1 fun v2 t2 r2 => ?_
  obtain ⟨it, fp, tn, J, H2, ev, I2, T, z2, f2, turns⟩ := r2
  subst ev
  refine wpAny_newObj_type ?_ (by show 0 ≤ sizeLine; decide)
  refine newEnv_comp ?_
  have dn : H2 t2.heap.objs.size = none := I2.hok.fresh (Nat.le_refl _)
  obtain ⟨W, ⟨n0, w0⟩, turn⟩ := turns t2.heap.objs.size dn
  generalize hD : t2.heap.objs.size = D at dn w0 turn
  obtain ⟨t3, e3⟩ : ∃ t3 : Shared, t3 = { t2 with heap := t2.heap.push { cls := .type "list", data := .seq ([] : List Value).toArray } } := ⟨_, rfl⟩
  have keep3 : ∀ b o, t2.heap.get? b = some o → t3.heap.get? b = some o := by
    intro b o e
    rw [e3]
    exact Heap.get?_push_of_some _ e
  have I3 : Inv X pins σ (upd H2 D (.lst [])) t3 := by
    subst e3
    refine I2.laid (t' := t2.toks) (fun b o e => Heap.get?_push_of_some _ e) (Nat.le_of_eq hD) ⟨Nat.zero_le _, [], 0, .nil, ?_⟩
    subst hD
    exact Heap.get?_push_size _ rfl
  have old : ∀ b ∈ fp, b < t2.heap.objs.size := by
    intro b hb
    obtain ⟨o, e, _⟩ := T.obj _ _ z2 b hb
    exact Heap.lt_size e
  have f3 : ∀ b ∈ fp, FpOk X pins (upd H2 D (.lst [])) b ∧ b < t3.heap.objs.size := by
    intro b hb
    have lt := old b hb
    have ne : b ≠ D := by rw [← hD]; exact Nat.ne_of_lt lt
    refine ⟨⟨(upd_ne ne).trans (f2 b hb).1, (f2 b hb).2⟩, ?_⟩
    rw [e3]
    show b < (t2.heap.push _).objs.size
    rw [Heap.size_push]
    exact Nat.lt_succ_of_lt lt
  have z3 : tn 0 t3.heap := T.keep _ _ _ z2 fun b _ o e => keep3 b o e
  have I4 := block_start I3 ok nd f3
  rw [← e3]
  obtain ⟨H3, eH⟩ : ∃ H3, H3 = upd H2 D (.lst []) := ⟨_, rfl⟩
  obtain ⟨C, eC⟩ : ∃ C, C = t3.heap.objs.size := ⟨_, rfl⟩
  obtain ⟨cl, ecl⟩ : ∃ cl, cl = cellsFrom (t3.heap.objs.size + 1) scope.names (cloFrom X.env.cells scope.names []) := ⟨_, rfl⟩
  obtain ⟨t4, e4⟩ : ∃ t4 : Shared, t4 = { t3 with heap := pushCells (t3.heap.push { cls := .type "dict", data := .dict #[] }) scope.names } := ⟨_, rfl⟩
  rw [← eH] at I3 I4 w0 f3
  rw [← ecl, ← eC, ← e4] at I4
  show codeAny (model X.prog X.w) X.A (.compStart (.ListComp elt [⟨tg, iter, [], 0⟩] scope pos) 0 (.ref it) (.ref D) (compEnvC scope (cellsFrom (t3.heap.objs.size + 1) scope.names (cloFrom X.env.cells scope.names [])) t3.heap.objs.size X.env)) (compEnds (model X.prog X.w) X.A X.xe use Qf (.ref D) (compEnvC scope (cellsFrom (t3.heap.objs.size + 1) scope.names (cloFrom X.env.cells scope.names [])) t3.heap.objs.size X.env)) { t3 with heap := pushCells (t3.heap.push { cls := .type "dict", data := .dict #[] }) scope.names }
  rw [← ecl, ← eC, ← e4]
  have z4 : tn 0 t4.heap := T.keep _ _ _ z3 fun b _ o e => by
    rw [e4]
    exact pushCells_keeps _ _ _ _ (Heap.get?_push_of_some _ e)
  have nf : ∀ b ∈ fp, H3 b = none := fun b hb => (f3 b hb).1.1
  have stay : ∀ {σ' : L2.St} {H' : Hp} {t : Shared}, Inv (X.blk t3 H3 scope (compEnvC scope cl C X.env) fp) [] σ' H' t → (∀ b ∈ fp, H' b = none) → ∀ b ∈ fp, FpOk (X.blk t3 H3 scope (compEnvC scope cl C X.env) fp) [] H' b := by
    intro σ' H' t J' hn b hb
    refine ⟨hn b hb, (J'.ok.exf b hb).1, J'.ok.exfs b hb, .inl hb, (J'.ok.exf b hb).2, fun p hp => ?_⟩
    have hp : p ∈ ([] : List (Addr × Obj)) ++ [] := hp
    simp at hp
  have air := raise_blk (use := use) (Qf := Qf) (D := D) (cl := cl) (scope := scope) (fp := fp) I3 hs hf tk (fun b hb => (f3 b hb).1) (Nat.le_of_eq eC.symm)
  have pg := hg t3 H3 C cl fp
  have pe := he t3 H3 C cl fp (notedBy (model X.prog X.w) X.A (compEnvC scope cl C X.env) fun e t => compEnds (model X.prog X.w) X.A X.xe use Qf (.ref D) (compEnvC scope cl C X.env) (.error e) t)
    fun σ1 q1 H1 s1 u s2 J' c => air q1 σ1 H1 s1 u s2 (inv_xe (Y := X.blk t3 H3 scope (compEnvC scope cl C X.env) fp) rfl J') c
  have ring : codeAny (model X.prog X.w) X.A (.compLoop (.ListComp elt [⟨tg, iter, [], 0⟩] scope pos) 0 (.ref it) (.ref D) (compEnvC scope cl C X.env)) (compEnds (model X.prog X.w) X.A X.xe use Qf (.ref D) (compEnvC scope cl C X.env)) t4 := by
    refine compLoop_any (fun n t => ∃ i H', Inv (X.blk t3 H3 scope (compEnvC scope cl C X.env) fp) [] (wipe σ (own.map (·.2))) H' t ∧ tn i t.heap ∧ (∀ b ∈ fp, H' b = none) ∧ W i n H') ?_ n0 ⟨0, H3, I4, z4, nf, w0⟩
    rintro n t5 ⟨i, H5, I5, z5, n5, w5⟩
    rcases turn i n H5 w5 with ⟨stop, done⟩ | ⟨go, Nx, less, step⟩
    · have td := T.done (X.blk t3 H3 scope (compEnvC scope cl C X.env) fp) rfl rfl rfl calm i [] t5 _ H5 (fun _ _ => False) I5 (stay I5 n5) z5 stop
      refine thnF td fun r t6 hr => ?_
      obtain ⟨er, I6⟩ := hr
      subst er
      have hxC : H5 C = none := I6.free
      have I7 : Inv X pins σ H5 t6 := I3.call' (ch := fp) I6.os I6.base I6.hok I6.bare fun b hb => ⟨(f3 b hb).1.2.2.2.1, (f3 b hb).1.2.1, (f3 b hb).1.2.2.2.2.1, (f3 b hb).1.2.2.2.2.2⟩
      obtain ⟨m, hn, _⟩ := I6.loc
      exact fin D C t6 m H5 I7 done hn (I3.fpOk (Nat.le_of_eq eC.symm) hxC) _ rfl
    · have ti := T.item (X.blk t3 H3 scope (compEnvC scope cl C X.env) fp) rfl rfl rfl calm i [] t5 _ H5 (fun _ _ => False) I5 (stay I5 n5) z5 go
      refine thnF ti fun r t6 hr => ?_
      obtain ⟨u, er, r6⟩ := hr
      subst er
      refine thnF r6 fun _ t7 hr => ?_
      obtain ⟨x, H7, I7, rx, y7, z7, n7⟩ := hr
      have P7 := I7.pinned (stay I7 n7) (T.obj _ _ z7)
      refine thnF (pg.run _ t7 _ H7 x u _ P7 rx (step x H7 y7)) fun _ t8 hr => ?_
      obtain ⟨σ8, H8, I8, e8, q8⟩ := hr
      have next : ∀ {t : Shared} {H' : Hp}, Inv (X.blk t3 H3 scope (compEnvC scope cl C X.env) fp) ([] ++ pinsAt fp t7.heap) σ8 H' t → Nx H' → ∃ m, m < n ∧ ∃ i H', Inv (X.blk t3 H3 scope (compEnvC scope cl C X.env) fp) [] (wipe σ (own.map (·.2))) H' t ∧ tn i t.heap ∧ (∀ b ∈ fp, H' b = none) ∧ W i m H' := by
        intro t H' J' nx
        obtain ⟨m', lt, w'⟩ := less H' nx
        have pn : ∀ b ∈ fp, ∀ o, t7.heap.get? b = some o → t.heap.get? b = some o ∧ H' b = none := by
          intro b hb o e
          have z := J'.pin (b, o) (List.mem_append_right _ (List.mem_append_right _ (mem_pinsAt hb e)))
          exact ⟨z.1, z.2.1⟩
        have len : (wipe σ (own.map (·.2))).length = σ8.length := by rw [← e8, wipe_length]
        have I9 : Inv (X.blk t3 H3 scope (compEnvC scope cl C X.env) fp) [] (wipe σ (own.map (·.2))) H' t := (J'.unpinned (pins := [])).weak len fun j v e => by
          rw [← e8] at e
          exact (wipe_some e).1
        refine ⟨m', lt, i + 1, H', I9, T.keep _ _ _ z7 fun b hb o e => (pn b hb o e).1, fun b hb => ?_, w'⟩
        obtain ⟨o, e, _⟩ := T.obj _ _ z7 b hb
        exact (pn b hb o e).2
      have tests : wpAny (model X.prog X.w) X.A (forIn ([] : List Expr) true fun c r => if r = true then do let ok ← isTrue c (compEnvC scope cl C X.env) (eval c (compEnvC scope cl C X.env)); pure (ForInStep.yield ok) else pure (ForInStep.yield r)) (fun b t => b = true ∧ t = t8) (fun _ _ => False) t8 := by
        rw [List.forIn_nil]
        exact wpAny_pure ⟨rfl, rfl⟩
      refine thnF tests fun b t9 hb => ?_
      obtain ⟨rfl, rfl⟩ := hb
      rw [if_pos rfl]
      have q8 : te σ8 H8 fun y H4 => ∃ acc, H4 D = some (.lst acc) ∧ acc.length < sizeLine ∧ Nx (upd H4 D (.lst (acc ++ [y]))) := q8
      refine wpAny_mono (pe.run _ t9 σ8 H8 _ (inv_xe rfl I8) q8) (fun z t10 hz => ?_) fun _ _ hz => hz
      obtain ⟨yv, H10, I10, ry, acc, hD10, len10, nx⟩ := hz
      exact app_ok (X := X.blk t3 H3 scope (compEnvC scope cl C X.env) fp) (inv_xe rfl I10) hD10 len10 ry fun t11 I11 => next I11 nx
  exact codeAny_compStart_list ring (T.self X.A 0 _ _ _ z4 ring)
/-- as a value -/
theorem pe_lcX {E : XK} {elt tg iter : Expr} {scope : Scope} {own : List (Str × Nat)} {pos : Pos} {wi : TI} {g : TG} {te : TE} (tk : Takes X fun c d _ H => E c d H) (calm : X.calm = true) (hs : X.stack = X.env :: X.outer) (hf : X.env.frame = some X.env.locals) (nd : X.N.Nodup) (hi : PI X tg iter wi) (ok : BlkOk X.N X.env.scope scope own)
    (hg : ∀ (s : Shared) (H : Hp) (C : Addr) (cl : List (Str × Addr)) (fp : List Addr), PG (X.blk s H scope (compEnvC scope cl C X.env) fp) tg g)
    (he : PEx X E scope elt te) (hfold : ∀ x, foldedSetIterable iter X.env x = pure x := by intro _; rfl) : PE X (.ListComp elt [⟨tg, iter, [], 0⟩] scope pos) (tLc wi g tYes te (own.map (·.2))) := by
  refine ⟨fun pins s σ H Q I h => ?_⟩
  rw [eval_ListComp]
  refine core_x calm hs hf tk nd I hi ok hg he hfold h fun D C t m H' J' q hn fk cenv ec => ?_
  subst ec
  refine ⟨m, hn, fun h2 sb => ?_⟩
  exact ⟨.ref D, H', J'.turned (t' := t.toks) (fun b o hb e => (sb.2 b hb).trans e) fk.1 fk.2.1 fk.2.2.2.1 fk.2.2.2.2.1 fk.2.2.2.2.2, rfl, q⟩
end
section
variable {X : Cx} {k : Nat} {x : Str} {ps : List Str} {sp : Sp} {E : XK}
def tFnP (sp : Sp) (E : XK) (t : TA) : TE := fun σ H Q => t σ H fun vs H1 => sp vs H1 Q E
theorem pe_fnP {e : Expr} {es : List Expr} {t : TA} {p pos : Pos} (G : FnX X.prog X.w X.K X.mg X.base k x ps sp) (hr : Room k X.A) (hg : Gl X x) (hp : ∀ σ, PassesAt (L2.CX X.prog X.w) X σ E) (ha : PA X (e :: es) t) (hdb : (x == ("__debug__" : Str)) = false := by decide)
    (he : starEach (e :: es) X.env = (false, eval e X.env) :: starEach es X.env := by rfl) (hpl : (backTo pos (starEach es X.env)).any (·.1) = false := by rfl) : PE X (.Call (.Name x p) (e :: es) [] pos) (tFnP sp E t) := by
  obtain ⟨f, fd, hm, hk, hb, F⟩ := G
  exact pe_callS (p := p) (E := fun _ => E) F hr hg hm hk hb hp ha hdb he hpl
theorem r_fnP {σ : L2.St} {H : Hp} {Q : VK} {t : TA} (h : t σ H fun vs H1 => sp vs H1 Q E) : tFnP sp E t σ H Q := h
end
end My

set_option Elab.async false
set_option linter.all false
set_option maxRecDepth 100000
set_option maxHeartbeats 4000000
namespace My
open PySem PySem.Spec PyProof.Rows L2
open C8 (tCut pss_cut)
open PySem.W (alike dataLt)
/-! ### methods that may raise -/
section
variable {X : Cx} {k : Nat} {C : Addr} {m : Str} {ps : List Str} {sp : Sp} {E : XK} {o : Expr} {to : TE} {pos apos : Pos}
def tMthX (C : Addr) (m : Str) (sp : Sp) (E : XK) (to : TE) : TE := fun σ H Q => to σ H fun x H1 => MthR C m x H1 (sp [x] H1 Q E)
theorem pe_mthX0 {pl : Sem Bool} (G : FnM X.prog X.w X.K X.mg X.base (L2.CX X.prog X.w) k C m ps sp) (c : Cls X.K C) (hr : Room k X.A) (tk : Takes X fun c d _ H => E c d H) (ho : PE X o to)
    (ht : eval (.Call (.Attribute o m apos) [] [] pos) X.env = (do
      let ov ← eval o X.env
      standAt apos.atName
      let (f, first) ← holding [ov] (getMethod ov m pl)
      callWith pos f first (backTo pos (starEach [] X.env)) (backToKw pos (keywordEach [] X.env))) := by rfl) : PE X (.Call (.Attribute o m apos) [] [] pos) (tMthX C m sp E to) := by
  obtain ⟨f, fd, hm, hb, F⟩ := G
  have h := pe_meth0 ho c hm F hr hb .nil (E := E) (passes_call tk fun _ _ _ _ h => h) ht
  refine ⟨fun pins s σ H Q I q => h.run pins s σ H Q I ?_⟩
  unfold tMeth
  simp only [List.append_nil]
  exact q
theorem r_mthX {σ : L2.St} {H : Hp} {Q : VK} (h : to σ H fun x H1 => MthR C m x H1 (sp [x] H1 Q E)) : tMthX C m sp E to σ H Q := h
end
theorem r_fnSE {sp : Sp} {E : XK} {t : TA} {σ : L2.St} {H : Hp} {Q : VK} (h : t σ H fun vs H1 => sp vs H1 Q E) : tFnS sp (fun c d _ H => E c d H) t σ H Q := h
theorem r_raiseE {C : Addr} {E : XK} {t : TA} {σ : L2.St} {H : Hp} {D : Ends} (h : t σ H fun vs H1 => vs.length ≤ sizeLine ∧ E (.ref C) none H1) : tRaise C (fun c d _ H => E c d H) t D σ H := h
theorem int_len {i : Int} (hi : -1000000000000 ≤ i ∧ i ≤ 1000000000000) : (Str.ofString (toString i)).length ≤ 20 := by
  rw [PySem.ofString_length]
  have hn : i.natAbs ≤ 1000000000000 := by omega
  have := int_text_length_le10 (a := i) (k := 13) (by decide) (Nat.lt_of_le_of_lt hn (by decide))
  omega
/-- f'.. {i}' -/
theorem r_msgI {σ : L2.St} {H : Hp} {Q : VK} {s : Str} {i : Int} {j : Nat} (hv : σ[j]? = some (some (.int i))) (h1 : s.length ≤ 1000) (hi : -1000000000000 ≤ i ∧ i ≤ 1000000000000) (q : ∀ out, Q (.str out) H) : tJoined [tC (.str s), tFmt (tVar j)] σ H Q := by
  have hl := int_len hi
  have hb : i.natAbs.log2 < 1920 := by
    by_cases h0 : i.natAbs = 0
    · rw [h0]; decide +kernel
    · exact (Nat.log2_lt h0).mpr (Nat.lt_of_le_of_lt (m := 1000000000000) (by omega) (by decide +kernel))
  refine ⟨s, rfl, ?_, .int i, hv, .inr ⟨i, rfl, hb, _, rfl, ?_, q _⟩⟩
  · rw [len_app]
    show 0 + s.length ≤ sizeLine
    have : 1000 ≤ sizeLine := by decide
    omega
  · rw [len_app, len_app]
    show 0 + s.length + _ ≤ sizeLine
    have : 11000 ≤ sizeLine := by decide
    omega
section
variable {X : Cx} {K : PySem.W.Frag}
theorem op_eqDK (hK : X.K = K) (hu : X.A.units + 64 < cLine) : OpR X (compareOp .Eq) (rEqD K) := hK ▸ op_eqD hu
end
/-! ### reading octets: the words -/
section
variable {α β : Type}
abbrev Ps (α : Type) := List Int → Option (α × List Int)
def pBind (p : Ps α) (f : α → Ps β) : Ps β := fun l => match p l with
  | some (a, r) => f a r
  | none => none
def pPure (a : α) : Ps α := fun l => some (a, l)
def pFail : Ps α := fun _ => none
def pOct : Ps Int
  | [] => none
  | x :: r => if 0 ≤ x ∧ x ≤ 255 then some (x, r) else none
def isCh (x : Int) : Bool := decide (32 ≤ x ∧ x ≤ 126 ∧ x ≠ 37)
def pChr : Ps Nat := pBind pOct fun x => if isCh x = true then pPure x.toNat else pFail
def pRep (p : Ps α) : Nat → Ps (List α)
  | 0 => pPure []
  | n + 1 => pBind p fun a => pBind (pRep p n) fun as => pPure (a :: as)
def pTxt : Ps Str := pBind pOct fun n => pBind (pRep pChr n.toNat) fun cs => pPure ⟨cs.toArray⟩
def pNm : Ps (List Str) := pBind pOct fun n => pBind (pRep pTxt n.toNat) fun zs => if nameB zs = true then pPure zs else pFail
def pKd : Ps Str := pBind pOct fun n => if n < 9 then pPure (KN.getD n.toNat "") else pFail
def pQs : Ps (List Str × List Str × Str) := pBind pNm fun a => pBind pNm fun b => pBind pKd fun k => if k = "gap" then pFail else pPure (a, b, k)
theorem pBind_some {p : Ps α} {f : α → Ps β} {l r : List Int} {a : α} (h : p l = some (a, r)) : pBind p f l = f a r := by unfold pBind; rw [h]
theorem pBind_none {p : Ps α} {f : α → Ps β} {l : List Int} (h : p l = none) : pBind p f l = none := by unfold pBind; rw [h]
/-! ### what is read to its end is read so before anything, and its beginnings are not -/
def BadT (b : List Int) : Prop := b = [] ∨ ∃ x t, b = x :: t ∧ ¬ (0 ≤ x ∧ x ≤ 255)
def Strict (p : Ps α) : Prop := ∀ l v r, p l = some (v, r) → ∃ u, l = u ++ r ∧ (∀ r', p (u ++ r') = some (v, r')) ∧ ∀ k, k < u.length → ∀ b, BadT b → p (u.take k ++ b) = none
theorem strict_pure (a : α) : Strict (pPure a) := fun l v r h => by
  have h : some (a, l) = some (v, r) := h
  cases h
  exact ⟨[], rfl, fun _ => rfl, fun k hk => absurd hk (by simp)⟩
theorem strict_fail : Strict (pFail : Ps α) := fun _ _ _ h => by cases h
theorem strict_oct : Strict pOct := by
  intro l v r h
  cases l with
  | nil => cases h
  | cons x t =>
    have h : (if 0 ≤ x ∧ x ≤ 255 then some (x, t) else none) = some (v, r) := h
    by_cases hx : 0 ≤ x ∧ x ≤ 255
    · rw [if_pos hx] at h
      cases h
      refine ⟨[v], rfl, fun r' => if_pos hx, fun k hk b hb => ?_⟩
      have : k = 0 := by simp at hk; omega
      subst this
      rcases hb with rfl | ⟨y, t', rfl, hy⟩
      · rfl
      · exact if_neg hy
    · rw [if_neg hx] at h; cases h
theorem strict_bind {p : Ps α} {f : α → Ps β} (hp : Strict p) (hf : ∀ a, Strict (f a)) : Strict (pBind p f) := by
  intro l v r h
  cases e : p l with
  | none => rw [pBind_none e] at h; cases h
  | some x =>
    obtain ⟨a, r1⟩ := x
    rw [pBind_some e] at h
    obtain ⟨u1, e1, s1, b1⟩ := hp l a r1 e
    obtain ⟨u2, e2, s2, b2⟩ := hf a r1 v r h
    refine ⟨u1 ++ u2, by rw [e1, e2, List.append_assoc], fun r' => ?_, fun k hk b hb => ?_⟩
    · rw [List.append_assoc, pBind_some (s1 _)]
      exact s2 r'
    · by_cases hk1 : k < u1.length
      · rw [List.take_append_of_le_length (by omega)]
        exact pBind_none (b1 k hk1 b hb)
      · rw [List.length_append] at hk
        rw [List.take_append, List.take_of_length_le (by omega), List.append_assoc, pBind_some (s1 _)]
        exact b2 _ (by omega) b hb
theorem strict_if {c : Prop} [Decidable c] {p : Ps α} (hp : Strict p) : Strict (if c then p else pFail) := by
  split
  · exact hp
  · exact strict_fail
theorem strict_ifn {c : Prop} [Decidable c] {p : Ps α} (hp : Strict p) : Strict (if c then pFail else p) := by
  split
  · exact strict_fail
  · exact hp
theorem strict_rep {p : Ps α} (hp : Strict p) : ∀ n, Strict (pRep p n)
  | 0 => strict_pure _
  | n + 1 => strict_bind hp fun _ => strict_bind (strict_rep hp n) fun _ => strict_pure _
theorem strict_chr : Strict pChr := strict_bind strict_oct fun _ => strict_if (strict_pure _)
theorem strict_txt : Strict pTxt := strict_bind strict_oct fun _ => strict_bind (strict_rep strict_chr _) fun _ => strict_pure _
theorem strict_nm : Strict pNm := strict_bind strict_oct fun _ => strict_bind (strict_rep strict_txt _) fun _ => strict_if (strict_pure _)
theorem strict_kd : Strict pKd := strict_bind strict_oct fun _ => strict_if (strict_pure _)
theorem strict_qs : Strict pQs := strict_bind strict_nm fun _ => strict_bind strict_nm fun _ => strict_bind strict_kd fun _ => strict_ifn (strict_pure _)
/-! ### so many, one after the other -/
def RepInv (p : Ps α) (l0 : List Int) (as : List α) (l : List Int) : Prop := ∀ m, pRep p (as.length + m) l0 = (pRep p m l).map fun x => (as ++ x.1, x.2)
theorem RepInv.start (p : Ps α) (l0 : List Int) : RepInv p l0 [] l0 := fun m => by
  rw [List.length_nil, Nat.zero_add]
  cases pRep p m l0 with
  | none => rfl
  | some x => rfl
theorem RepInv.step {p : Ps α} {l0 l r : List Int} {as : List α} {v : α} (h : RepInv p l0 as l) (hp : p l = some (v, r)) : RepInv p l0 (as ++ [v]) r := fun m => by
  have e : (as ++ [v]).length + m = as.length + (m + 1) := by simp; omega
  rw [e, h (m + 1)]
  have e2 : pRep p (m + 1) l = pBind (pRep p m) (fun as => pPure (v :: as)) r := pBind_some hp
  rw [e2]
  cases e3 : pRep p m r with
  | none => rw [pBind_none e3]; rfl
  | some x =>
    obtain ⟨bs, r2⟩ := x
    rw [pBind_some e3]
    show some (as ++ v :: bs, r2) = some ((as ++ [v]) ++ bs, r2)
    rw [List.append_assoc]
    rfl
theorem RepInv.fail {p : Ps α} {l0 l : List Int} {as : List α} (h : RepInv p l0 as l) (hp : p l = none) {n : Nat} (hn : as.length < n) : pRep p n l0 = none := by
  obtain ⟨m, rfl⟩ : ∃ m, n = as.length + (m + 1) := ⟨n - as.length - 1, by omega⟩
  have e2 : pRep p (m + 1) l = none := pBind_none hp
  rw [h (m + 1), e2]
  rfl
theorem RepInv.done {p : Ps α} {l0 l : List Int} {as : List α} (h : RepInv p l0 as l) : pRep p as.length l0 = some (as, l) := by
  have := h 0
  rw [Nat.add_zero] at this
  rw [this]
  show some (as ++ [], l) = _
  rw [List.append_nil]
theorem rep_map {γ : Type} {p : Ps α} {w : γ → List Int} {g : γ → α} (h : ∀ c r, p (w c ++ r) = some (g c, r)) : ∀ (cs : List γ) (r : List Int), pRep p cs.length ((cs.map w).flatten ++ r) = some (cs.map g, r)
  | [], r => rfl
  | c :: cs, r => by
    show pBind p _ ((w c ++ (cs.map w).flatten) ++ r) = _
    rw [List.append_assoc, pBind_some (h c _), pBind_some (rep_map h cs r)]
    rfl
end
/-! ### what is written is read -/
theorem oct_cons {x : Int} {r : List Int} (h : 0 ≤ x ∧ x ≤ 255) : pOct (x :: r) = some (x, r) := if_pos h
def chOk (z : Str) : Prop := z.length ≤ 255 ∧ ∀ c ∈ z.cps.toList, isCh (c : Int) = true
theorem rep_chr : ∀ (cs : List Nat) (r : List Int), (∀ c ∈ cs, isCh (c : Int) = true) → pRep pChr cs.length (cs.map Int.ofNat ++ r) = some (cs, r)
  | [], r, _ => rfl
  | c :: cs, r, h => by
    have hc := h c List.mem_cons_self
    have hc2 : 0 ≤ (c : Int) ∧ (c : Int) ≤ 255 := by
      unfold isCh at hc
      have := of_decide_eq_true hc
      omega
    have e : pChr ((c : Int) :: (cs.map Int.ofNat ++ r)) = some (c, cs.map Int.ofNat ++ r) := by
      unfold pChr
      rw [pBind_some (oct_cons hc2), if_pos hc]
      show some ((c : Int).toNat, _) = _
      rw [Int.toNat_natCast]
    show pBind pChr _ ((c : Int) :: (cs.map Int.ofNat ++ r)) = _
    rw [pBind_some e, pBind_some (rep_chr cs r fun d hd => h d (List.mem_cons_of_mem _ hd))]
    rfl
theorem txt_back {z : Str} (h : chOk z) (r : List Int) : pTxt (wTxt z ++ r) = some (z, r) := by
  have e : wTxt z ++ r = (z.length : Int) :: (z.cps.toList.map Int.ofNat ++ r) := rfl
  have hl := len_list z
  unfold pTxt
  rw [e, pBind_some (oct_cons ⟨by omega, by have := h.1; omega⟩)]
  have e2 : ((z.length : Nat) : Int).toNat = z.cps.toList.length := by omega
  rw [e2, pBind_some (rep_chr _ r h.2)]
  show some ((⟨z.cps.toList.toArray⟩ : Str), r) = some (z, r)
  rw [Array.toArray_toList]
theorem lab_ch {z : Str} (h : plainB z = true ∨ z = "*") : chOk z := by
  have hf := lab_fact h
  refine ⟨by omega, fun c hc => ?_⟩
  rcases h with h | rfl
  · have key : ∀ c ∈ CH.cps.toList, isCh (c : Int) = true := by decide +kernel
    exact key c ((plain_iff.mp h).2 c hc)
  · have key : ∀ c ∈ ("*" : Str).cps.toList, isCh (c : Int) = true := by decide +kernel
    exact key c hc
theorem rep_txt : ∀ (zs : List Str) (r : List Int), (∀ z ∈ zs, chOk z) → pRep pTxt zs.length (((zs.map PyData.str).map wTxtD).flatten ++ r) = some (zs, r)
  | [], r, _ => rfl
  | z :: zs, r, h => by
    show pBind pTxt _ ((wTxt z ++ ((zs.map PyData.str).map wTxtD).flatten) ++ r) = _
    rw [List.append_assoc, pBind_some (txt_back (h z List.mem_cons_self) _), pBind_some (rep_txt zs r fun y hy => h y (List.mem_cons_of_mem _ hy))]
    rfl
theorem nm_back {zs : List Str} (h : nameB zs = true) (r : List Int) : pNm (wNmD (dT zs) ++ r) = some (zs, r) := by
  have hl := name_len h
  rw [wNmD_dT, List.append_assoc, List.singleton_append]
  unfold pNm
  rw [pBind_some (oct_cons ⟨by omega, by omega⟩)]
  have e2 : ((zs.length : Nat) : Int).toNat = zs.length := by omega
  rw [e2, pBind_some (rep_txt zs r fun z hz => lab_ch (name_mem h hz)), if_pos h]
  rfl
def CHS : Str := " !\"#$ &'()*+,-./0123456789:;<=>?@ABCDEFGHIJKLMNOPQRSTUVWXYZ[\\]^_`abcdefghijklmnopqrstuvwxyz{|}~"
theorem CHS_at : ∀ c : Nat, c < 127 → 32 ≤ c → c ≠ 37 → CHS.cps.toList[c - 32]? = some c := by decide +kernel
theorem CHS_len : CHS.cps.toList.length = 95 := by decide +kernel
/-! ### the reader -/
section
variable {K : PySem.W.Frag} {C : Addr} {H H' : Hp} {r q : Addr} {xs : List Int} {i j : Nat}
def RdAt (C : Addr) (H : Hp) (r q : Addr) (xs : List Int) (i : Nat) : Prop := (∃ dx, H r = some (.ins C dx [("_octets", .ref q), ("_place", .int (i : Nat))])) ∧ H q = some (.lst (xs.map V.int)) ∧ i ≤ xs.length ∧ r ≠ q
def SmallI (xs : List Int) : Prop := ∀ x ∈ xs, -1000000000000 ≤ x ∧ x ≤ 1000000000000
theorem RdAt.ex (h : RdAt C H r q xs i) (e : Same H H') : RdAt C H' r q xs i := by
  obtain ⟨⟨dx, h1⟩, h2, h3, h4⟩ := h
  exact ⟨⟨dx, e _ _ h1⟩, e _ _ h2, h3, h4⟩
theorem RdAt.but {l : Addr} (h : RdAt C H r q xs i) (e : But l H H') (h1 : r ≠ l) (h2 : q ≠ l) : RdAt C H' r q xs i := by
  obtain ⟨⟨dx, k1⟩, k2, k3, k4⟩ := h
  exact ⟨⟨dx, e _ _ h1 k1⟩, e _ _ h2 k2, k3, k4⟩
theorem RdAt.noTup (h : RdAt C H r q xs i) : NoTup H r := by
  obtain ⟨⟨dx, h1⟩, _⟩ := h
  exact noTup_i h1
/-- a def that reads -/
def spRd {α : Type} (C eB : Addr) (p : Ps α) (res : Hp → V → α → Prop) : Sp := fun vs H Q E => ∃ r q xs i, vs = [.ref r] ∧ RdAt C H r q xs i ∧ SmallI xs ∧
  (∀ v rest, p (xs.drop i) = some (v, rest) → ∀ H' x j, But r H H' → RdAt C H' r q xs j → xs.drop j = rest → res H' x v → Q x H') ∧ (p (xs.drop i) = none → ∀ H', But r H H' → E (.ref eB) none H')
def resI (_ : Hp) (x : V) (v : Int) : Prop := x = .int v ∧ 0 ≤ v ∧ v ≤ 255
def resC (_ : Hp) (x : V) (c : Nat) : Prop := x = .str ⟨#[c]⟩ ∧ c < 128
def resS (_ : Hp) (x : V) (z : Str) : Prop := x = .str z ∧ Asc z ∧ z.length ≤ 255
def resN (K : PySem.W.Frag) (H : Hp) (x : V) (zs : List Str) : Prop := ∃ a, x = .ref a ∧ SqT K H a (zs.map V.str) ∧ nameB zs = true
def resK (_ : Hp) (x : V) (κ : Str) : Prop := x = .str κ
end
end My

set_option Elab.async false
set_option linter.all false
set_option maxRecDepth 100000
set_option maxHeartbeats 4000000
namespace My
open PySem PySem.Spec PyProof.Rows L2
open PySem.W (EachIs)
/-! ### nested keys: what a set asks of them -/
section
variable {P : Program} {w : World}
theorem all_at {h : Heap} : ∀ {ks : List NestedKey} {vs : List Value}, NestedAll h ks vs → ∀ v ∈ vs, ∃ k ∈ ks, NestedIs h k v
  | _, _, .nil, v, hv => by cases hv
  | _, _, .cons h1 h2, v, hv => by
    rcases List.mem_cons.mp hv with rfl | hv
    · exact ⟨_, List.mem_cons_self, h1⟩
    · obtain ⟨k, hk, hi⟩ := all_at h2 v hv
      exact ⟨k, List.mem_cons_of_mem _ hk, hi⟩
theorem depth_le {n : Nat} : ∀ {ks : List NestedKey}, NestedKey.depthAll ks ≤ n → ∀ k ∈ ks, k.depth ≤ n
  | k :: ks, h, x, hx => by
    simp only [NestedKey.depthAll] at h
    rcases List.mem_cons.mp hx with rfl | hx
    · omega
    · exact depth_le (ks := ks) (by omega) x hx
/-- asked of its items, none of them says yes -/
theorem class_no : ∀ (n : Nat) (k : NestedKey) (v : Value) (s : Shared), NestedIs s.heap k v → k.depth ≤ n → ∀ (A : Around) (E : Value → Shared → Prop) (Q : Bool → Shared → Prop), Q false s → wpAny (model P w) A (ofAClassStatement n v) Q E s := by
  intro n
  have plain : ∀ (m : Nat) (v : Value), (∀ a, v ≠ .ref a) → ofAClassStatement m v = pure false := fun m v hv => by
    cases v <;> first | (cases m <;> rfl) | exact absurd rfl (hv _)
  induction n with
  | zero =>
    intro k v s hk hd A E Q q
    cases hk with
    | tup _ _ _ _ => simp only [NestedKey.depth] at hd; omega
    | none => rw [plain _ _ (by intro a z; cases z)]; exact wpAny_pure q
    | bool _ => rw [plain _ _ (by intro a z; cases z)]; exact wpAny_pure q
    | int _ _ => rw [plain _ _ (by intro a z; cases z)]; exact wpAny_pure q
    | text _ _ => rw [plain _ _ (by intro a z; cases z)]; exact wpAny_pure q
  | succ n ih =>
    intro k v s hk hd A E Q q
    cases hk with
    | none => rw [plain _ _ (by intro a z; cases z)]; exact wpAny_pure q
    | bool _ => rw [plain _ _ (by intro a z; cases z)]; exact wpAny_pure q
    | int _ _ => rw [plain _ _ (by intro a z; cases z)]; exact wpAny_pure q
    | text _ _ => rw [plain _ _ (by intro a z; cases z)]; exact wpAny_pure q
    | @tup a o vs m ks ho hc hdat hall =>
      simp only [NestedKey.depth] at hd
      unfold ofAClassStatement
      refine wpAny_bind (wpAny_typeOf ⟨o, ho, hc⟩ ?_)
      dsimp only
      simp only [beq_self_eq_true, if_true, Bool.not_true, Bool.false_eq_true, if_false]
      try refine wpAny_bind (wpAny_pure ?_)
      try simp only [Bool.not_true, Bool.false_eq_true, if_false]
      show wpAny _ _ (seqItems? (.ref a) >>= _) _ _ s
      refine wpAny_bind (wpAny_seqItems ho hdat ?_)
      dsimp only
      refine wpAny_bind ?_
      show wpAny _ _ (forIn vs _ _) _ _ s
      rw [← Array.forIn_toList]
      refine wpAny_forIn_list _ (fun l r t => r.1 = none ∧ t = s ∧ ∀ v ∈ l, v ∈ vs.toList) _ ?_ ?_ _ _ ⟨rfl, rfl, fun v hv => hv⟩
      · rintro v l r t ⟨hr, rfl, hl⟩
        obtain ⟨k', hk', hi⟩ := all_at hall v (hl v List.mem_cons_self)
        refine wpAny_bind (ih k' v t hi (depth_le (by omega) k' hk') A _ _ ?_)
        simp only [Bool.false_eq_true, if_false]
        exact wpAny_pure ⟨rfl, rfl, fun u hu => hl u (List.mem_cons_of_mem _ hu)⟩
      · rintro ⟨r1, r2⟩ t ⟨hr, rfl, _⟩
        simp only at hr
        subst hr
        exact wpAny_pure q
/-- is its hash known by value: yes or no, and nothing else happens -/
theorem byValue_some : ∀ (n : Nat) (k : NestedKey) (v : Value) (s : Shared), NestedIs s.heap k v → ∀ (A : Around) (E : Value → Shared → Prop) (Q : Bool → Shared → Prop), (∀ b, Q b s) → wpAny (model P w) A (hashByValue n v) Q E s := by
  intro n
  induction n with
  | zero =>
    intro k v s hk A E Q q
    cases hk <;> exact wpAny_pure (q _)
  | succ n ih =>
    intro k v s hk A E Q q
    cases hk with
    | none => exact wpAny_pure (q _)
    | bool _ => exact wpAny_pure (q _)
    | int _ _ => exact wpAny_pure (q _)
    | text _ _ => exact wpAny_pure (q _)
    | @tup a o vs m ks ho hc hdat hall =>
      unfold hashByValue
      refine wpAny_bind (wpAny_specialOf ⟨o, ho, hc⟩ F.slot_tuple_hash.lookup ?_)
      show wpAny _ _ (seqItems? (.ref a) >>= _) _ _ s
      refine wpAny_bind (wpAny_seqItems ho hdat ?_)
      refine wpAny_bind ?_
      show wpAny _ _ (forIn vs _ _) _ _ s
      rw [← Array.forIn_toList]
      refine wpAny_forIn_list _ (fun l r t => (r.1 = none ∨ r.1 = some false) ∧ t = s ∧ ∀ v ∈ l, v ∈ vs.toList) _ ?_ ?_ _ _ ⟨.inl rfl, rfl, fun v hv => hv⟩
      · rintro v l r t ⟨hr, rfl, hl⟩
        obtain ⟨k', hk', hi⟩ := all_at hall v (hl v List.mem_cons_self)
        refine wpAny_bind (ih k' v t hi A _ _ fun b => ?_)
        cases b
        · simp only [Bool.not_false, if_true]
          exact wpAny_pure (wpAny_pure (q _))
        · simp only [Bool.not_true, Bool.false_eq_true, if_false]
          exact wpAny_pure ⟨.inl rfl, rfl, fun u hu => hl u (List.mem_cons_of_mem _ hu)⟩
      · rintro ⟨r1, r2⟩ t ⟨hr, rfl, _⟩
        cases r1 with
        | none => exact wpAny_pure (q _)
        | some b => exact wpAny_pure (q _)
/-- a tuple that is such a key, not too deep -/
def TupK (h : Heap) (k : NestedKey) (v : Value) : Prop := NestedIs h k v ∧ k.depth ≤ 7 ∧ ∃ a, v = .ref a
theorem seen_no {A : Around} {E : Value → Shared → Prop} {s : Shared} {k : NestedKey} {x : Value} {Q : Bool → Shared → Prop} (hx : TupK s.heap k x) {ys : List Value} (hy : ∀ y ∈ ys, ∃ k', TupK s.heap k' y) (q : Q false s) : wpAny (model P w) A (searchCouldBeSeen x ys) Q E s := by
  unfold searchCouldBeSeen
  refine wpAny_bind ?_
  refine wpAny_forIn_list _ (fun l r t => r.1 = none ∧ t = s ∧ ∀ y ∈ l, ∃ k', TupK s.heap k' y) _ ?_ ?_ _ _ ⟨rfl, rfl, hy⟩
  · rintro v l r t ⟨hr, rfl, hl⟩
    obtain ⟨k', hv⟩ := hl v List.mem_cons_self
    have next : ∀ u ∈ l, ∃ k', TupK t.heap k' u := fun u hu => hl u (List.mem_cons_of_mem _ hu)
    obtain ⟨i1, d1, b1, rfl⟩ := hx
    obtain ⟨i2, d2, b2, rfl⟩ := hv
    dsimp only
    by_cases c : (b1 == b2 || (carriedByValue (.ref b1) && carriedByValue (.ref b2))) = true
    · exact wp_if_pos c (wpAny_pure ⟨rfl, rfl, next⟩)
    · refine wp_if_neg c ?_
      refine wpAny_bind (quiet_key k _ 8 t i1 (by omega) A _ _ ?_)
      simp only [Bool.not_true, Bool.false_eq_true, if_false]
      refine wpAny_bind (quiet_key k' _ 8 t i2 (by omega) A _ _ ?_)
      simp only [Bool.not_true, Bool.false_eq_true, if_false]
      refine wpAny_bind (class_no 8 k _ t i1 (by omega) A _ _ ?_)
      simp only [Bool.false_eq_true, if_false]
      refine wpAny_bind (class_no 8 k' _ t i2 (by omega) A _ _ ?_)
      simp only [Bool.false_eq_true, if_false]
      exact wpAny_pure ⟨rfl, rfl, next⟩
  · rintro ⟨r1, r2⟩ t ⟨hr, rfl, _⟩
    have hr : r1 = none := hr
    subst hr
    exact wpAny_pure q
/-! ### a set of such tuples -/
abbrev KV := NestedKey × Value
def hashK (w : World) (p : KV) : Int := p.1.hash w
def rowK (w : World) (L : List KV) : List (Int × Value) := L.map fun p => (hashK w p, p.2)
structure SetN (w : World) (h : Heap) (a : Addr) (L : List KV) (es : Array (Int × Value)) (ep : Nat) (t : SetTable) : Prop where
  ob : ∃ o, h.get? a = some o ∧ o.ExactSet ∧ o.data = .set es ep t
  rw : es.toList = rowK w L
  tab : TabOk t (L.map (hashK w))
  nd : (L.map Prod.fst).Nodup
  ok : ∀ p ∈ L, TupK h p.1 p.2
  led : w.params.followText "set-order" = true ∨ t.led = true
  free : L.length * 5 < t.mask * 3
  few : L.length < 64
section
variable {A : Around} {E : Value → Shared → Prop} {s : Shared} {a : Addr} {L : List KV} {es : Array (Int × Value)} {ep : Nat} {t : SetTable}
theorem SetN.len {h : Heap} (R : SetN w h a L es ep t) : es.size = L.length := by
  rw [← Array.length_toList, R.rw]
  simp [rowK]
theorem SetN.fit {h : Heap} (R : SetN w h a L es ep t) : t.fits es.size = true := by
  have z1 : t.place.size = L.length := by have := R.tab.sz; simpa using this
  have z2 := R.free
  unfold SetTable.fits SetTable.fill
  rw [R.tab.dm, R.len, Bool.and_eq_true, beq_iff_eq, decide_eq_true_iff]
  refine ⟨z1, ?_⟩
  show t.place.size + 0 ≤ _
  omega
theorem SetN.row {h : Heap} (R : SetN w h a L es ep t) {i : Nat} {p : KV} (hp : L[i]? = some p) : es[i]? = some (hashK w p, p.2) := by
  rw [← Array.getElem?_toList, R.rw]
  unfold rowK
  rw [List.getElem?_map, hp]
  rfl
/-- where the search for k stands after c steps -/
abbrev posK (t : SetTable) (h : Int) (c : Nat) : SetTable.Probe := nth t.mask (runAt t.mask (SetTable.bits h % (t.mask + 1)) (SetTable.bits h)) c
theorem pos_dummy (t : SetTable) (h : Int) : ∀ c, (posK t h c).dummy = none
  | 0 => rfl
  | c + 1 => by
    rw [show posK t h (c + 1) = adv t.mask (posK t h c) from nth_succ _ _ _]
    have ih := pos_dummy t h c
    unfold adv
    split <;> exact ih
theorem look_go (R : SetN w s.heap a L es ep t) {x : Value} {k : NestedKey} (hx : TupK s.heap k x) (hu : A.units + 16 < cLine) {K : Nat} (hK0 : K < 10 * SetTable.turns t.mask)
    (hK : way t.mask (k.hash w) K ∉ t.place.toList) (hK1 : ∀ c, c < K → way t.mask (k.hash w) c ∈ t.place.toList) {Q : SetFound → Shared → Prop}
    (yes : k ∈ L.map Prod.fst → Q (.there none) s) (no : k ∉ L.map Prod.fst → Q (.free (way t.mask (k.hash w) K) false) s) :
    ∀ (f c : Nat) (st : Option SetTable.Probe), st.getD (t.probeStart (k.hash w)) = posK t (k.hash w) c → c ≤ K → K - c < f →
      (∀ (i : Nat) (p : KV), L[i]? = some p → p.1 = k → ∃ c', c ≤ c' ∧ c' < K ∧ t.place.toList[i]? = some (way t.mask (k.hash w) c')) →
      wpAny (model P w) A (setSearchFrom a x (k.hash w) true f st) Q E s := by
  intro f
  induction f with
  | zero => intro c st _ _ h; exact absurd h (Nat.not_lt_zero _)
  | succ f ih =>
    intro c st e0 hc hf ahead
    obtain ⟨o, ho, hex, hd⟩ := R.ob
    have hgw : ¬ t.gaveWay = true := by
      unfold SetTable.gaveWay
      rw [mask_odd R.tab.mok]
      decide
    rw [setSearchFrom_succ]
    refine wpAny_bind (wpAny_setState_of ho hd R.fit ?_)
    dsimp only
    refine wp_if_neg hgw ?_
    try refine wpAny_bind (wpAny_pure ?_)
    have shift : ∀ q, nth t.mask (posK t (k.hash w) c) q = posK t (k.hash w) (c + q) := fun q => (nth_add _ _ _ _).symm
    have hashes : ∀ (i : Nat) (p : KV), L[i]? = some p → (es[i]?.map (·.1)).getD 0 = p.1.hash w := fun i p hp => by
      rw [R.row hp]
      rfl
    have met := go_spec t R.tab.ris R.tab.dm (fun i => (es[i]?.map (·.1)).getD 0) (k.hash w) (10 * SetTable.turns t.mask) (K - c) (posK t (k.hash w) c) (pos_dummy t _ c) (by omega)
      (fun q hq => by rw [shift]; exact hK1 (c + q) (by omega)) (by rw [shift, show c + (K - c) = K by omega]; exact hK)
    rcases met with ⟨q, i, hq, hi, hh, hno, hpr⟩ | ⟨hno, hpr⟩
    · rw [shift] at hi hpr
      rw [shift] at hpr
      have hpr : t.probe (fun i => (es[i]?.map (·.1)).getD 0) (k.hash w) (st.getD (t.probeStart (k.hash w))) = some (.candidate (way t.mask (k.hash w) (c + q)) i (posK t (k.hash w) (c + (q + 1)))) := by
        rw [e0]
        exact hpr
      rw [hpr]
      dsimp only
      have hi2 : i < L.length := by
        have z1 := (List.getElem?_eq_some_iff.mp hi).1
        have z2 := R.tab.sz
        rw [List.length_map] at z2
        rw [Array.length_toList] at z1
        omega
      obtain ⟨p, hp⟩ : ∃ p, L[i]? = some p := ⟨_, List.getElem?_eq_getElem hi2⟩
      have hm := List.mem_of_getElem? hp
      obtain ⟨y1, y2, b, hb⟩ := R.ok p hm
      have cmp : wpAny (model P w) A (searchRest a x (k.hash w) true f es t (way t.mask (k.hash w) (c + q)) i (posK t (k.hash w) (c + (q + 1)))) Q E s := by
        unfold searchRest
        rw [R.row hp]
        dsimp only
        refine wpAny_bind (wpAny_holding (eqAt_key p.1 k A s p.2 x y1 hx.1 (by have := hx.2.1; omega) _ _ _ _ ?_))
        refine wpAny_bind (wpAny_setState_of ho hd R.fit ?_)
        dsimp only
        rw [← NestedKey.decide_eq]
        by_cases same : p.1 = k
        · rw [decide_eq_true same]
          refine wp_if_pos rfl (wpAny_pure (yes ?_))
          exact List.mem_map.mpr ⟨p, hm, same⟩
        · rw [decide_eq_false same]
          refine wp_if_neg (by decide) ?_
          try refine wpAny_bind (wpAny_pure ?_)
          rw [sameMem]
          dsimp only
          have live : t.slot (way t.mask (k.hash w) (c + q)) = .live i := slot_live R.tab.ris hi
          simp only [if_true, live, R.row hp]
          rw [hb]
          refine wpAny_bind (wpAny_isSame_ref_self (wpAny_bind (wpAny_pure ?_)))
          simp only [if_true]
          refine wp_if_neg (by decide) ?_
          refine ih (c + (q + 1)) _ rfl (by omega) (by omega) fun i0 p0 h0 hk0 => ?_
          obtain ⟨c', a1, a2, a3⟩ := ahead i0 p0 h0 hk0
          refine ⟨c', ?_, a2, a3⟩
          have z1 : ¬ c' < c + q := fun z => hno (c' - c) i0 (by omega) (by rw [shift, show c + (c' - c) = c' by omega]; exact a3) (by rw [hashes i0 p0 h0, hk0])
          have z2 : c' ≠ c + q := fun z => by
            rw [z] at a3
            have live0 := slot_live R.tab.ris a3
            rw [live] at live0
            cases live0
            rw [hp] at h0
            cases h0
            exact same hk0
          omega
      by_cases hl : t.led = true
      · refine wp_if_neg (by simp [hl]) ?_
        try refine wpAny_bind (wpAny_pure ?_)
        exact cmp
      · refine wp_if_pos (by simp [hl]) ?_
        refine wpAny_bind (seen_no hx (fun y hy => ?_) ?_)
        · obtain ⟨e, he, ee⟩ := List.mem_map.mp hy
          have he1 : e ∈ es.toList := by
            have : e ∈ es ∧ e.1 = k.hash w := by simpa using he
            simpa using this.1
          rw [R.rw] at he1
          obtain ⟨p2, hp2, e2⟩ := List.mem_map.mp he1
          refine ⟨p2.1, ?_⟩
          rw [← ee, ← e2]
          exact R.ok p2 hp2
        · refine wp_if_neg (by decide) ?_
          try refine wpAny_bind (wpAny_pure ?_)
          exact cmp
    · rw [shift, show c + (K - c) = K by omega] at hpr
      have hpr : t.probe (fun i => (es[i]?.map (·.1)).getD 0) (k.hash w) (st.getD (t.probeStart (k.hash w))) = some (.empty (way t.mask (k.hash w) K) none) := by
        rw [e0]
        exact hpr
      rw [hpr]
      dsimp only
      refine wpAny_pure (no fun hm => ?_)
      obtain ⟨p0, h0, hk0⟩ := List.mem_map.mp hm
      obtain ⟨i0, hi0⟩ := List.mem_iff_getElem?.mp h0
      obtain ⟨c', a1, a2, a3⟩ := ahead i0 p0 hi0 hk0
      exact hno (c' - c) i0 (by omega) (by rw [shift, show c + (c' - c) = c' by omega]; exact a3) (by rw [hashes i0 p0 hi0, hk0])
theorem look_at (R : SetN w s.heap a L es ep t) {x : Value} {k : NestedKey} (hx : TupK s.heap k x) (hu : A.units + 16 < cLine) {Q : SetFound → Shared → Prop} (yes : k ∈ L.map Prod.fst → Q (.there none) s)
    (no : ∀ K, k ∉ L.map Prod.fst → way t.mask (k.hash w) K ∉ t.place.toList → (∀ c, c < K → way t.mask (k.hash w) c ∈ t.place.toList) → Q (.free (way t.mask (k.hash w) K) false) s) : wpAny (model P w) A (setSearch a x (k.hash w) true) Q E s := by
  have hfree := R.free
  have hm : (L.map (hashK w)).length ≤ t.mask := by rw [List.length_map]; omega
  obtain ⟨K, h1, h2, h3⟩ := R.tab.first hm (k.hash w)
  have hturn : 10 * SetTable.turns t.mask ≤ 1420 := by
    unfold SetTable.turns
    rcases R.tab.mok with e | e | e <;> omega
  unfold setSearch
  refine look_go R hx hu h1 h2 h3 yes (fun n => no K n h2 h3) 100000 0 none rfl (Nat.zero_le _) (by omega) fun i p hp hk => ?_
  have hh : (L.map (hashK w))[i]? = some (k.hash w) := by
    rw [List.getElem?_map, hp, ← hk]
    rfl
  have hi : i < t.place.toList.length := by
    have z := (List.getElem?_eq_some_iff.mp hh).1
    rw [Array.length_toList, R.tab.sz]
    exact z
  have hj := List.getElem?_eq_getElem hi
  obtain ⟨c, hc, e⟩ := R.tab.before h2 hh hj
  exact ⟨c, Nat.zero_le _, hc, by rw [hj, e]⟩
/-! adding -/
theorem range_all {α : Type} : ∀ L : List α, ((List.range L.length).filterMap fun i => L[i]?) = L
  | [] => rfl
  | x :: L => by
    rw [List.length_cons, List.range_succ_eq_map, List.filterMap_cons]
    show x :: _ = _
    rw [List.filterMap_map]
    exact congrArg (x :: ·) (range_all L)
theorem in_order {L : List KV} {es : Array (Int × Value)} {order : Array Nat} (hr : es.toList = rowK w L) (hp : order.toList.Perm (List.range L.length)) :
    ∃ L2 : List KV, (order.filterMap (es[·]?)).toList = rowK w L2 ∧ L2.Perm L ∧ L2.map (hashK w) = order.toList.map fun i => (es.map (·.1)).getD i 0 := by
  have at_i : ∀ i, es[i]? = (L[i]?).map fun p => (hashK w p, p.2) := fun i => by
    rw [← Array.getElem?_toList, hr]
    unfold rowK
    rw [List.getElem?_map]
  have lt : ∀ i ∈ order.toList, i < L.length := fun i hi => List.mem_range.mp (hp.mem_iff.mp hi)
  refine ⟨order.toList.filterMap fun i => L[i]?, ?_, ?_, ?_⟩
  · rw [Array.toList_filterMap]
    unfold rowK
    rw [List.map_filterMap]
    exact congrFun (congrArg _ (funext fun i => at_i i)) _
  · have h := hp.filterMap fun i => L[i]?
    rw [range_all] at h
    exact h
  · have key : ∀ l : List Nat, (∀ i ∈ l, i < L.length) → (l.filterMap fun i => L[i]?).map (hashK w) = l.map fun i => (es.map (·.1)).getD i 0 := fun l => by
      induction l with
      | nil => intro _; rfl
      | cons i l ih =>
        intro h
        obtain ⟨p, hi⟩ : ∃ p, L[i]? = some p := ⟨_, List.getElem?_eq_getElem (h i List.mem_cons_self)⟩
        have e : (es.map (·.1)).getD i 0 = hashK w p := by
          rw [Array.getD_eq_getD_getElem?, Array.getElem?_map, at_i, hi]
          rfl
        rw [List.filterMap_cons, hi, List.map_cons, List.map_cons, ih fun j hj => h j (List.mem_cons_of_mem _ hj), e]
    exact key _ lt
theorem TupK.but {h h' : Heap} {k : NestedKey} {v : Value} {a : Addr} {o : Obj} {es : Array (Int × Value)} {ep : Nat} {t : SetTable} (x : TupK h k v) (ho : h.get? a = some o) (hd : o.data = .set es ep t) (sb : Heap.SameBut a h h') : TupK h' k v := by
  refine ⟨NestedIs.at (fun b u vs n hb hq => (sb.2 b fun z => ?_).trans hb) _ _ x.1, x.2⟩
  subst z
  rw [ho] at hb
  cases hb
  rw [hd] at hq
  cases hq
/-- the table is laid anew -/
theorem wider {o : Obj} (ho : s.heap.get? a = some o) (hex : o.ExactSet) (hd : o.data = .set es ep t) (hr : es.toList = rowK w L) (sz : t.place.size = es.size) (dm : t.dummies = #[]) (fl : es.size ≤ t.mask) (nd : (L.map Prod.fst).Nodup) (ok : ∀ p ∈ L, TupK s.heap p.1 p.2)
    (led : w.params.followText "set-order" = true ∨ t.led = true) (few : L.length < 64) {wanted M : Nat} (hw : SetTable.sizeAbove wanted - 1 = M) (hM : MaskOk M) (h128 : SetTable.sizeAbove wanted ≤ 128) (room : L.length * 5 < M * 3) {Q : Unit → Shared → Prop}
    (q : ∀ h' L' es' ep' t', Heap.SameBut a s.heap h' → SetN w h' a L' es' ep' t' → L'.Perm L → Q () { s with heap := h' }) : wpAny (model P w) A (setRelay a wanted) Q E s := by
  have n1 : es.size = L.length := by
    rw [← Array.length_toList, hr]
    simp [rowK]
  have fit : t.fits es.size = true := by
    unfold SetTable.fits SetTable.fill
    rw [dm, Bool.and_eq_true, beq_iff_eq, decide_eq_true_iff]
    refine ⟨sz, ?_⟩
    show t.place.size + 0 ≤ _
    omega
  obtain ⟨t2, order, e, hp, T2, em, el, _, _⟩ := relaid_ok t (hs := es.map (·.1)) (wanted := wanted) hw hM (by rw [Array.size_map]; omega)
  rw [Array.size_map, n1] at hp
  obtain ⟨L2, r1, r2, r3⟩ := in_order (w := w) hr hp
  rw [← r3] at T2
  have n2 : (order.filterMap (es[·]?)).size = es.size := by
    rw [← Array.length_toList, r1, n1, ← r2.length_eq]
    simp [rowK]
  rw [setRelay_eq]
  refine wpAny_bind (wpAny_setState_of ho hd fit ?_)
  dsimp only
  refine wp_if_neg (by rw [sizeLine_eq]; omega) ?_
  try refine wpAny_bind (wpAny_pure ?_)
  rw [e]
  dsimp only
  refine wpAny_bind ?_
  refine wp_if_neg (by rw [n2]; simp) ?_
  try refine wpAny_bind (wpAny_pure ?_)
  refine wpAny_pure ?_
  dsimp only
  refine wpAny_storeSet_of ho hd ?_ (by rw [n2, n1, sizeLine_eq]; omega)
  have sb : Heap.SameBut a s.heap (s.heap.update a (Obj.putSet (order.filterMap (es[·]?)) t2)) := Heap.SameBut.update ..
  refine q _ L2 _ (ep + 1) t2 sb ⟨⟨_, store_at ho hd, hex, rfl⟩, r1, T2, (r2.map _).nodup_iff.mpr nd, fun p hm => (ok p (r2.mem_iff.mp hm)).but ho hd sb, by rw [el]; exact led, by rw [r2.length_eq, em]; exact room, by rw [r2.length_eq]; exact few⟩ r2
theorem add_n (R : SetN w s.heap a L es ep t) {x : Value} {k : NestedKey} (hx : TupK s.heap k x) (hu : A.units + 16 < cLine) (few : L.length + 1 < 64) {Q : Bool → Shared → Prop}
    (q : ∀ b h' L' es' ep' t', Heap.SameBut a s.heap h' → SetN w h' a L' es' ep' t' → (k ∈ L.map Prod.fst → L' = L) → (k ∉ L.map Prod.fst → L'.Perm ((k, x) :: L)) → Q b { s with heap := h' }) : wpAny (model P w) A (setAddHashed a x (k.hash w)) Q E s := by
  obtain ⟨o, ho, hex, hd⟩ := R.ob
  have n1 := R.len
  have fr := R.free
  obtain ⟨i1, i2, b0, hb0⟩ := id hx
  unfold setAddHashed
  refine wpAny_holding ?_
  rw [show (100000 : Nat) = 99999 + 1 from rfl, setAddHashedIn_succ]
  refine wpAny_bind (wpAny_setState_of ho hd R.fit ?_)
  dsimp only
  refine wp_if_neg (by rw [hb0]; simp [byScan, Value.scannable]) ?_
  try refine wpAny_bind (wpAny_pure ?_)
  refine wpAny_bind (look_at R hx hu (fun yes => ?_) fun K no hK hK1 => ?_)
  · dsimp only
    exact wpAny_pure (q false s.heap L es ep t (Heap.SameBut.refl a s.heap) R (fun _ => rfl) fun z => absurd yes z)
  · dsimp only
    refine wpAny_bind (wpAny_setState_of ho hd R.fit ?_)
    dsimp only
    obtain ⟨q1, q2, q3, q4, q5, q6, q7, q8, q9⟩ := R.tab.put hK hK1
    obtain ⟨pt, ept⟩ : ∃ pt, pt = t.put (way t.mask (k.hash w) K) := ⟨_, rfl⟩
    rw [← ept] at q1 q3 q4 q5 q6 q9 ⊢
    obtain ⟨t1, pl⟩ := pt
    dsimp only at q1 q3 q4 q5 q6 q9 ⊢
    subst q1
    have ins : (SetTable.insertAt es (SetTable.below t.place (way t.mask (k.hash w) K)) (k.hash w, x)).toList = rowK w (L.take (SetTable.below t.place (way t.mask (k.hash w) K)) ++ (k, x) :: L.drop (SetTable.below t.place (way t.mask (k.hash w) K))) := by
      rw [SetTable.toList_insertAt, R.rw]
      unfold rowK
      rw [List.map_append, List.map_cons, List.map_take, List.map_drop]
      rfl
    obtain ⟨pl, epl⟩ : ∃ pl, pl = SetTable.below t.place (way t.mask (k.hash w) K) := ⟨_, rfl⟩
    rw [← epl] at q2 q3 ins ⊢
    have pm : (L.take pl ++ (k, x) :: L.drop pl).Perm ((k, x) :: L) := put_perm L pl (k, x)
    obtain ⟨L1, eL1⟩ : ∃ L1, L1 = L.take pl ++ (k, x) :: L.drop pl := ⟨_, rfl⟩
    have eh : L1.map (hashK w) = (L.map (hashK w)).take pl ++ k.hash w :: (L.map (hashK w)).drop pl := by
      rw [eL1, List.map_append, List.map_cons, List.map_take, List.map_drop]
      rfl
    rw [← eh] at q3
    rw [← eL1] at ins pm
    have n2 : L1.length = L.length + 1 := pm.length_eq
    obtain ⟨es1, ees⟩ : ∃ es1, es1 = SetTable.insertAt es pl (k.hash w, x) := ⟨_, rfl⟩
    rw [← ees] at ins ⊢
    have n3 : es1.size = L.length + 1 := by
      rw [← Array.length_toList, ins, ← n2]
      simp [rowK]
    have nd1 : (L1.map Prod.fst).Nodup := (pm.map _).nodup_iff.mpr (List.nodup_cons.mpr ⟨no, R.nd⟩)
    have rest : ∀ t2 : SetTable, t2.place = t1.place → t2.dummies = t1.dummies → t2.mask = t1.mask → t2.led = t1.led → t2.tooFull = t1.tooFull → TabOk t2 (L1.map (hashK w)) →
        wpAny (model P w) A (do
          storeSet a es1 t2
          if !false && t2.tooFull then setRelay a (SetTable.grown (es.size + 1))
          return true) Q E s := by
      intro t2 u1 u2 u3 u4 u5 T2
      refine wpAny_bind (wpAny_storeSet_of ho hd ?_ (by rw [n3, sizeLine_eq]; omega))
      have sb : Heap.SameBut a s.heap (s.heap.update a (Obj.putSet es1 t2)) := Heap.SameBut.update ..
      have ho1 := store_at (es' := es1) (t' := t2) ho hd
      obtain ⟨h1, eh1⟩ : ∃ h1, h1 = s.heap.update a (Obj.putSet es1 t2) := ⟨_, rfl⟩
      rw [← eh1] at sb ho1 ⊢
      have ok1 : ∀ p ∈ L1, TupK h1 p.1 p.2 := fun p hp => by
        rcases List.mem_cons.mp (pm.mem_iff.mp hp) with z | z
        · rw [z]; exact hx.but ho hd sb
        · exact (R.ok p z).but ho hd sb
      have led1 : w.params.followText "set-order" = true ∨ t2.led = true := by rw [u4, q5]; exact R.led
      by_cases full : t2.tooFull = true
      · have big : (L.length + 1) * 5 ≥ t.mask * 3 := by
          have z := full
          rw [u5] at z
          unfold SetTable.tooFull at z
          rw [decide_eq_true_iff, q9, List.length_map, q4] at z
          exact z
        have which : (t.mask = 7 ∧ L.length = 4) ∨ (t.mask = 31 ∧ L.length = 18) := by
          rcases R.tab.mok with e | e | e
          · exact .inl ⟨e, by omega⟩
          · exact .inr ⟨e, by omega⟩
          · omega
        have go : ∀ M, SetTable.sizeAbove (SetTable.grown (L.length + 1)) - 1 = M → MaskOk M → SetTable.sizeAbove (SetTable.grown (L.length + 1)) ≤ 128 → (L.length + 1) * 5 < M * 3 →
            wpAny (model P w) A (setRelay a (SetTable.grown (L.length + 1))) (fun _ s' => wpAny (model P w) A (pure true) Q E s') E { s with heap := h1 } := fun M m1 m2 m3 m4 => by
          refine wider (s := { s with heap := h1 }) ho1 hex rfl ins (by have := T2.sz; rw [List.length_map, n2] at this; rw [this, n3]) T2.dm (by rw [n3, u3, q4]; rcases which with ⟨z, z2⟩ | ⟨z, z2⟩ <;> omega) nd1 ok1 led1 (by omega) m1 m2 m3 (by rw [n2]; exact m4) fun h2 L2 es2 ep2 t3 sb2 R2 pm2 => ?_
          exact wpAny_pure (q true h2 L2 es2 ep2 t3 (sb.trans sb2) R2 (fun z => absurd z no) fun _ => pm2.trans pm)
        rw [n1]
        first
          | (refine wpAny_bind ?_; refine wp_if_pos (by simp [full]) ?_)
          | (refine wp_if_pos (by simp [full]) ?_; refine wpAny_bind ?_)
        rcases which with ⟨_, z⟩ | ⟨_, z⟩
        · exact go 31 (by rw [z, size_20]) (.inr (.inl rfl)) (by rw [z, size_20]; decide) (by omega)
        · exact go 127 (by rw [z, size_76]) (.inr (.inr rfl)) (by rw [z, size_76]; decide) (by omega)
      · first
          | refine wp_if_neg (by simp [full]) ?_
          | (refine wpAny_bind ?_; refine wp_if_neg (by simp [full]) ?_; refine wpAny_pure ?_)
        refine wpAny_pure (q true h1 L1 es1 (ep + 1) t2 sb ⟨⟨_, ho1, hex, rfl⟩, ins, T2, nd1, ok1, led1, ?_, by omega⟩ (fun z => absurd z no) fun _ => pm)
        have z := full
        rw [u5] at z
        unfold SetTable.tooFull at z
        rw [decide_eq_true_iff, q9, List.length_map] at z
        rw [u3, n2]
        omega
    have T1b : ∀ b, TabOk { t1 with plain := b } (L1.map (hashK w)) := fun b => ⟨q3.ris, q3.dm, q3.sz, q3.mok, q3.bd, q3.reach⟩
    by_cases pp : t1.plain = true
    · first
        | (refine wpAny_bind ?_; refine wp_if_pos pp ?_)
        | (refine wp_if_pos pp ?_; refine wpAny_bind ?_)
      refine byValue_some 8 k x s i1 A _ _ fun b => ?_
      cases b
      · simp only [Bool.false_eq_true, if_false]
        exact rest { t1 with plain := false } rfl rfl rfl rfl rfl (T1b false)
      · simp only [if_true]
        exact rest t1 rfl rfl rfl rfl rfl q3
    · first
        | (refine wpAny_bind ?_; refine wp_if_neg pp ?_; refine wpAny_pure ?_)
        | (refine wp_if_neg pp ?_; refine wpAny_bind ?_; refine wpAny_pure ?_)
      simp only [if_true]
      exact rest t1 rfl rfl rfl rfl rfl q3
end
end
end My

set_option Elab.async false
set_option linter.all false
set_option maxRecDepth 100000
set_option maxHeartbeats 4000000
namespace My
open PySem PySem.Spec PyProof.Rows L2
open C8 (tCut pss_cut)
/-! ### max(a, b, key=len) of two tuples -/
section
variable {prog : Program} {w : World} {A : Around} {E : Value → Shared → Prop} {s : Shared}
theorem args_max2key (a b v : Value) : argsOk "max" ⟨[a, b], [(Str.ofString "key", v)]⟩ := by unfold argsOk; kernel_rfl
theorem max_two_len {p q : Addr} {xs ys : Array Value} {Q : Value → Shared → Prop} (hh : A.handled = none) (hp : IsTup s.heap p xs) (hq : IsTup s.heap q ys) (hx : (xs.size : Int) < 2 ^ 63) (hy : (ys.size : Int) < 2 ^ 63)
    (h : ∀ h' tk, (∀ c o, s.heap.get? c = some o → h'.get? c = some o) → Q (if ys.size > xs.size then .ref q else .ref p) { s with heap := h', toks := tk }) :
    wpAny (model prog w) A (call (.builtin "max") [.ref p, .ref q] [(Str.ofString "key", .builtin "len")]) Q E s := by
  have hname : (toString "max" ++ toString ".loop" : String) = "max.loop" := by decide
  refine PyProof.Rows.kmk_tree F.kind_max F.plain_max F.entry_max (args_max2key _ _ _) ?_
  show wpAny _ A.in1 (Builtin.Builtins.bindParams "max" ["key", "default"] 0 ⟨[], [(Str.ofString "key", .builtin "len")]⟩ >>= _) _ _ s
  refine wpAny_bind (wpAny_of_eq (show Builtin.Builtins.bindParams "max" ["key", "default"] 0 ⟨[], [(Str.ofString "key", .builtin "len")]⟩ = pure [some (.builtin "len"), none] from rfl) ?_)
  show wpAny _ A.in1 (newTuple [.ref p, .ref q] >>= _) _ _ s
  refine wpAny_bind (wpAny_newObj_type ?_)
  obtain ⟨t, et⟩ : ∃ t, t = s.heap.objs.size := ⟨_, rfl⟩
  obtain ⟨h1, e1⟩ : ∃ h1, h1 = s.heap.push { cls := .type "tuple", data := .seq #[.ref p, .ref q] } := ⟨_, rfl⟩
  have k1 : ∀ c o, s.heap.get? c = some o → h1.get? c = some o := fun c o e => by rw [e1]; exact Heap.get?_push_of_some _ e
  have z1 : h1.objs.size = t + 1 := by rw [e1, et]; exact Heap.size_push ..
  have hT : h1.IsTuple t #[.ref p, .ref q] := by rw [e1, et]; exact ⟨_, Heap.get?_push_size _ rfl, rfl, 0, rfl⟩
  rw [← e1, ← et]
  refine wpAny_bind (wpAny_pyIter_tuple hT ?_)
  show wpAny _ _ _ _ _ { s with heap := h1.push { cls := .type "tuple_iterator", data := .fields #[.ref t, .int 0 0] } }
  obtain ⟨h2, e2⟩ : ∃ h2, h2 = h1.push { cls := .type "tuple_iterator", data := .fields #[.ref t, .int 0 0] } := ⟨_, rfl⟩
  obtain ⟨I, eI⟩ : ∃ I, I = h1.objs.size := ⟨_, rfl⟩
  have k2 : ∀ c o, h1.get? c = some o → h2.get? c = some o := fun c o e => by rw [e2]; exact Heap.get?_push_of_some _ e
  have z2 : h2.objs.size = I + 1 := by rw [e2, eI]; exact Heap.size_push ..
  have hI : h2.IsTupleIter I t 0 := by rw [e2, eI]; exact ⟨_, Heap.get?_push_size _ rfl, rfl, rfl⟩
  rw [← e2]
  show wpAny _ A.in1 (newList [] >>= _) _ _ _
  refine wpAny_bind (wpAny_newObj_type ?_)
  show wpAny _ _ _ _ _ { s with heap := h2.push { cls := .type "list", data := .seq #[] } }
  rw [hname]
  obtain ⟨S, eS⟩ : ∃ S, S = h2.objs.size := ⟨_, rfl⟩
  obtain ⟨h3, e3⟩ : ∃ h3, h3 = h2.push { cls := .type "list", data := .seq #[] } := ⟨_, rfl⟩
  have k3 : ∀ c o, h2.get? c = some o → h3.get? c = some o := fun c o e => by rw [e3]; exact Heap.get?_push_of_some _ e
  have hS : h3.get? S = some { cls := .type "list", dict := none, data := .seq #[] 0, slots := #[] } := by rw [e3, eS]; exact Heap.get?_push_size _ rfl
  have old : ∀ c o, s.heap.get? c = some o → c ≠ S ∧ c ≠ I := fun c o e => by
    have hc : @LT.lt Nat _ c s.heap.objs.size := Heap.lt_size e
    refine ⟨fun z => ?_, fun z => ?_⟩
    · have z : @Eq Nat c S := z
      omega
    · have z : @Eq Nat c I := z
      omega
  have tI : t ≠ I := fun z => by
    have z : @Eq Nat t I := z
    omega
  have SI : S ≠ I ∧ S ≠ t := ⟨fun z => by
    have z : @Eq Nat S I := z
    omega, fun z => by
    have z : @Eq Nat S t := z
    omega⟩
  have hW := Walks.tuple (prog := prog) (w := w) (A := A.in1) hh I t tI #[.ref p, .ref q]
  have hsz : (#[Value.ref p, Value.ref q] : Array Value).size = 2 := rfl
  rw [hsz] at hW
  refine wpAny_pure ⟨plainId_quiet F.plain_max_loop _, ?_⟩
  rw [← e3, ← eI, ← eS]
  have kv : ∀ i v, (#[Value.ref p, Value.ref q] : Array Value)[i]? = some v → i < 2 → (i = 0 ∧ v = .ref p) ∨ (i = 1 ∧ v = .ref q) := fun i v e hi => by
    rcases (by omega : i = 0 ∨ i = 1) with rfl | rfl
    · exact .inl ⟨rfl, by simpa using e.symm⟩
    · exact .inr ⟨rfl, by simpa using e.symm⟩
  refine codeAny_max_loop_firstKB (q := "len") (A := A) (J := fun s' => (∀ c o, s.heap.get? c = some o → s'.heap.get? c = some o) ∧ s'.gens = s.gens ∧ s'.drawn = s.drawn ∧ s'.os = s.os)
    (V := fun i k _ => ∃ u, k = .int ((if i = 0 then xs.size else ys.size : Nat) : Int) u) (bt := fun i j => decide (((if i = 0 then xs.size else ys.size : Nat) : Int) > ((if j = 0 then xs.size else ys.size : Nat) : Int)))
    hW.toS S (by simp [SI.1, SI.2]) ⟨?_, ?_, ?_, ?_⟩ [] (by decide) (s := { s with heap := h3 }) ⟨fun c o e => k3 c o (k2 c o (k1 c o e)), rfl, rfl, rfl⟩ ⟨hI.at fun o e => k3 _ o e, (hT.at fun o e => k3 _ o (k2 _ o e))⟩ hS ?_
  · rintro s1 s2 ⟨a1, a2, a3, a4⟩ m
    refine ⟨fun c o e => m.heap c o ?_ (a1 c o e), m.gens.trans a2, m.drawn.trans a3, m.os.trans a4⟩
    have := old c o e
    simp [this.1, this.2]
  · rintro i k s1 s2 h _
    exact h
  · rintro i v s1 o Q' E' hi hv ⟨a1, a2, a3, a4⟩ hst hS1 hq'
    rcases kv i v hv hi with ⟨rfl, rfl⟩ | ⟨rfl, rfl⟩
    · obtain ⟨op, h1, h2, n, h3⟩ := id hp
      exact len_tuple (t := p) (items := xs) ⟨op, a1 _ _ h1, h2, n, h3⟩ hx (hq' _ _ ⟨a1, a2, a3, a4⟩ hst hS1 ⟨_, rfl⟩ fun _ _ h => h)
    · obtain ⟨op, h1, h2, n, h3⟩ := id hq
      exact len_tuple (t := q) (items := ys) ⟨op, a1 _ _ h1, h2, n, h3⟩ hy (hq' _ _ ⟨a1, a2, a3, a4⟩ hst hS1 ⟨_, rfl⟩ fun _ _ h => h)
  · rintro i j ki kj s1 Q' E' _ ⟨u1, rfl⟩ ⟨u2, rfl⟩ hq'
    exact CmpOf.ints_gt (prog := prog) (w := w) (A := A.in1) (P := fun i v => ∃ u, v = .int ((if i = 0 then xs.size else ys.size : Nat) : Int) u) (fun i => ((if i = 0 then xs.size else ys.size : Nat) : Int)) (fun _ _ h => h) i j _ _ s1 Q' E' ⟨u1, rfl⟩ ⟨u2, rfl⟩ hq'
  · rintro v s1 hv ⟨a1, a2, a3, a4⟩
    have es : s1 = { s with heap := s1.heap, toks := s1.toks } := by
      obtain ⟨x1, x2, x3, x4, x5⟩ := s1
      dsimp only at a2 a3 a4
      rw [a2, a3, a4]
    rw [es]
    have hb : argBest (fun i j => decide (((if i = 0 then xs.size else ys.size : Nat) : Int) > ((if j = 0 then xs.size else ys.size : Nat) : Int))) 1 = if ys.size > xs.size then 1 else 0 := by
      simp only [argBest]
      by_cases c : ys.size > xs.size
      · simp [c]
      · simp [c]
    have e21 : (2 : Nat) - 1 = 1 := rfl
    rw [e21, hb] at hv
    have hfin := h s1.heap s1.toks a1
    by_cases c : ys.size > xs.size
    · rw [if_pos c] at hv hfin
      have : v = .ref q := by simpa using hv.symm
      rw [this]; exact hfin
    · rw [if_neg c] at hv hfin
      have : v = .ref p := by simpa using hv.symm
      rw [this]; exact hfin
end
section
variable {X : Cx} {a b : Expr} {ta tb : TE} {p p2 p3 pos : Pos}
def MaxLenR (K : PySem.W.Frag) (x y : V) (H : Hp) (Q : VK) : Prop := ∃ p q xs ys, x = .ref p ∧ y = .ref q ∧ SqT K H p xs ∧ SqT K H q ys ∧ Q (if ys.length > xs.length then .ref q else .ref p) H
def tMaxLen (K : PySem.W.Frag) (ta tb : TE) : TE := fun σ H Q => ta σ H fun x H1 => tb σ H1 fun y H2 => MaxLenR K x y H2 Q
theorem r_maxLen {K : PySem.W.Frag} {σ : L2.St} {H : Hp} {Q : VK} (h : ta σ H fun x H1 => tb σ H1 fun y H2 => MaxLenR K x y H2 Q) : tMaxLen K ta tb σ H Q := h
theorem r_maxLen1 {K : PySem.W.Frag} {H : Hp} {Q : VK} {p q : Addr} {xs ys : List V} (hp : SqT K H p xs) (hq : SqT K H q ys) (h : Q (if ys.length > xs.length then .ref q else .ref p) H) : MaxLenR K (.ref p) (.ref q) H Q := ⟨p, q, xs, ys, rfl, rfl, hp, hq, h⟩
theorem pe_maxLen (hc : X.calm = true) (hg : Gl X "max") (hm : X.mg "max" = none) (hg2 : Gl X "len") (hm2 : X.mg "len" = none) (ha : PE X a ta) (hb : PE X b tb)
    (he : backTo pos (starEach [a, b] X.env) = (false, eval a X.env) :: backTo pos (starEach [b] X.env) := by rfl) (hpl : (backTo pos (starEach [a, b] X.env)).any (·.1) = false := by rfl) (hst : starEach [a, b] X.env = (false, eval a X.env) :: starEach [b] X.env := by rfl) (hst2 : starEach [b] X.env = (false, eval b X.env) :: starEach [] X.env := by rfl)
    (hpl1 : (backTo pos (starEach [b] X.env)).any (·.1) = false := by rfl) :
    PE X (.Call (.Name "max" p) [a, b] [⟨some "key", .Name "len" p2, p3⟩] pos) (tMaxLen X.K ta tb) := by
  refine ⟨fun pins s σ H Q I h => ?_⟩
  have hA : PA X [a, b] (tCons ta (tCons tb tNil)) := pa_cons ha (pa_cons hb pa_nil hst2) hst
  refine wpAny_Call_Name_kw (ld_blt I hg hm (u := .builtin "max") (by decide +kernel) ?_ (by decide) (by decide))
  refine PyProof.Rows.callWith_kw (thn (hA.run pos pins s σ H (fun vs H2 => match vs with
    | [x, y] => MaxLenR X.K x y H2 Q
    | _ => False) I h) fun us s1 ⟨vs, H1, I1, r1, q1⟩ => ?_) he hpl (by rfl) (by rfl)
  match vs, r1, q1 with
  | [x, y], r1, q1 =>
    obtain ⟨p', q', xs, ys, rfl, rfl, hp, hq, hQ⟩ := q1
    obtain ⟨u, v, rfl, ru, rv⟩ := vals2 r1
    obtain rfl : u = Value.ref p' := ru
    obtain rfl : v = Value.ref q' := rv
    show wpAny _ _ (evalAll [(do let v ← eval (.Name "len" p2) X.env; standAt pos; pure v)]) _ _ s1
    refine wpAny_evalAll_cons (wpAny_bind (ld_blt I1 hg2 hm2 (u := .builtin "len") (by decide +kernel) (wpAny_bind (wpAny_standAt (wpAny_pure (wpAny_evalAll_nil ?_)))) (by decide) (by decide)))
    obtain ⟨its1, v1, t1, z1⟩ := I1.tuple hp
    obtain ⟨its2, v2, t2, z2⟩ := I1.tuple hq
    have l1 := v1.length
    have l2 := v2.length
    have hn := line63
    refine max_two_len (I1.ok.hd hc) t1 t2 (by simp only [List.size_toArray]; omega) (by simp only [List.size_toArray]; omega) fun h' tk kk => ?_
    refine ⟨_, H1, I1.kept kk, ?_, hQ⟩
    simp only [List.size_toArray]
    rw [l1, l2]
    by_cases c : its2.length > its1.length
    · rw [if_pos c, if_pos c]; rfl
    · rw [if_neg c, if_neg c]; rfl
/-! ### try .. except x, without a name -/
def tTryO (K : PySem.W.Frag) (c : Value) (tb : WX → TS) (ts : Addr → Value → Option Addr → TS) : TS := fun D σ H => tb (wOnly K c ts (fun _ _ _ _ => False) D) D σ H
theorem r_tryO {K : PySem.W.Frag} {cv : Value} {tb : WX → TS} {ts : Addr → Value → Option Addr → TS} {D : Ends} {σ : L2.St} {H : Hp} (h : tb (wOnly K cv ts (fun _ _ _ _ => False) D) D σ H) : tTryO K cv tb ts D σ H := h
theorem w_only {K : PySem.W.Frag} {cls cv : Value} {dd : Option Addr} {ts : Addr → Value → Option Addr → TS} {D : Ends} {σ : L2.St} {H : Hp} (h : PySem.W.exmOne K cls cv = some true) (k : ∀ x, H x = none → ts x cls dd D σ H) :
    wOnly K cv ts (fun _ _ _ _ => False) D cls dd σ H := ⟨true, h, fun _ => k, fun z => nomatch z⟩
theorem ps_tryO {K : PySem.W.Frag} {x : Str} {c : Value} {body suite : List Stmt} {b₀ : Stmt} {np pos pos' : Pos} {tb : WX → TS} {ts : Addr → Value → Option Addr → TS} (hK : X.K = K) (hs : X.stack = X.env :: X.outer) (hf : X.env.frame = some X.env.locals) (hc : Names X x c)
    (hb : ∀ (W : WX) (pn : List (Addr × Obj)) (xe : Value → Shared → Prop), Takes (X.tr pn xe) W → PSs (X.tr pn xe) body (tb W))
    (hsu : ∀ (a : Addr) (oe : Obj) (cls : Value) (d : Option Addr) (pn : List (Addr × Obj)), Zc cls d oe → (∃ vs, oe.data = .fields vs) → PSs (X.suite a ((a, oe) :: pn)) (b₀ :: suite) (ts a cls d)) :
    PS X (.Try body [.ExceptHandler (some (.Name x np)) none (b₀ :: suite) pos'] [] [] pos) (tTryO K c tb ts) := by
  subst hK
  exact ps_try_only hs hf hc takes0 (fun W pn xe tk _ => hb W pn xe tk) hsu
end
end My

set_option Elab.async false
set_option linter.all false
set_option maxRecDepth 100000
set_option maxHeartbeats 4000000
namespace My
open PySem PySem.Spec PyProof.Rows L2
open C8 (tCut pss_cut)
/-! ### data as keys -/
mutual
def nk : PyData → NestedKey
  | .int i => .num i
  | .str x => .text x
  | .tuple ds => .tup (nks ds)
  | .none => .none
  | .bool _ => .none
  | .list _ => .none
  | .dict _ => .none
def nks : List PyData → List NestedKey
  | [] => []
  | d :: ds => nk d :: nks ds
end
mutual
theorem nk_inj : ∀ d e : PyData, pureD d = true → pureD e = true → nk d = nk e → d = e
  | .int i, .int j, _, _, h => by simp only [nk, NestedKey.num.injEq] at h; rw [h]
  | .str i, .str j, _, _, h => by simp only [nk, NestedKey.text.injEq] at h; rw [h]
  | .tuple ds, .tuple es, p, q, h => by
    simp only [nk, NestedKey.tup.injEq] at h
    rw [nks_inj ds es (by simp [pureD] at p; exact p.2) (by simp [pureD] at q; exact q.2) h]
  | .int _, .str _, _, _, h => by simp [nk] at h
  | .int _, .tuple _, _, _, h => by simp [nk] at h
  | .str _, .int _, _, _, h => by simp [nk] at h
  | .str _, .tuple _, _, _, h => by simp [nk] at h
  | .tuple _, .int _, _, _, h => by simp [nk] at h
  | .tuple _, .str _, _, _, h => by simp [nk] at h
  | .none, _, p, _, _ => by simp [pureD] at p
  | .bool _, _, p, _, _ => by simp [pureD] at p
  | .list _, _, p, _, _ => by simp [pureD] at p
  | .dict _, _, p, _, _ => by simp [pureD] at p
  | .int _, .none, _, p, _ => by simp [pureD] at p
  | .int _, .bool _, _, p, _ => by simp [pureD] at p
  | .int _, .list _, _, p, _ => by simp [pureD] at p
  | .int _, .dict _, _, p, _ => by simp [pureD] at p
  | .str _, .none, _, p, _ => by simp [pureD] at p
  | .str _, .bool _, _, p, _ => by simp [pureD] at p
  | .str _, .list _, _, p, _ => by simp [pureD] at p
  | .str _, .dict _, _, p, _ => by simp [pureD] at p
  | .tuple _, .none, _, p, _ => by simp [pureD] at p
  | .tuple _, .bool _, _, p, _ => by simp [pureD] at p
  | .tuple _, .list _, _, p, _ => by simp [pureD] at p
  | .tuple _, .dict _, _, p, _ => by simp [pureD] at p
theorem nks_inj : ∀ ds es : List PyData, pureAll ds = true → pureAll es = true → nks ds = nks es → ds = es
  | [], [], _, _, _ => rfl
  | d :: ds, e :: es, p, q, h => by
    simp only [nks, List.cons.injEq] at h
    have p' : pureD d = true ∧ pureAll ds = true := by simpa [pureAll] using p
    have q' : pureD e = true ∧ pureAll es = true := by simpa [pureAll] using q
    rw [nk_inj d e p'.1 q'.1 h.1, nks_inj ds es p'.2 q'.2 h.2]
  | [], _ :: _, _, _, h => by simp [nks] at h
  | _ :: _, [], _, _, h => by simp [nks] at h
end
mutual
theorem nk_eqv : ∀ d e : PyData, pureD d = true → pureD e = true → PyData.eqv d e = decide (nk d = nk e)
  | .int i, .int j, _, _ => by simp only [nk, PyData.eqv]; by_cases h : i = j <;> simp [h]
  | .str i, .str j, _, _ => by simp only [nk, PyData.eqv]; by_cases h : i = j <;> simp [h]
  | .tuple ds, .tuple es, p, q => by
    simp only [nk, PyData.eqv]
    rw [nks_eqv ds es (by simp [pureD] at p; exact p.2) (by simp [pureD] at q; exact q.2)]
    exact decide_eq_decide.mpr ⟨fun h => by rw [h], fun h => NestedKey.tup.inj h⟩
  | .int _, .str _, _, _ => by simp [nk, PyData.eqv]
  | .int _, .tuple _, _, _ => by simp [nk, PyData.eqv]
  | .str _, .int _, _, _ => by simp [nk, PyData.eqv]
  | .str _, .tuple _, _, _ => by simp [nk, PyData.eqv]
  | .tuple _, .int _, _, _ => by simp [nk, PyData.eqv]
  | .tuple _, .str _, _, _ => by simp [nk, PyData.eqv]
  | .none, _, p, _ => by simp [pureD] at p
  | .bool _, _, p, _ => by simp [pureD] at p
  | .list _, _, p, _ => by simp [pureD] at p
  | .dict _, _, p, _ => by simp [pureD] at p
  | .int _, .none, _, p => by simp [pureD] at p
  | .int _, .bool _, _, p => by simp [pureD] at p
  | .int _, .list _, _, p => by simp [pureD] at p
  | .int _, .dict _, _, p => by simp [pureD] at p
  | .str _, .none, _, p => by simp [pureD] at p
  | .str _, .bool _, _, p => by simp [pureD] at p
  | .str _, .list _, _, p => by simp [pureD] at p
  | .str _, .dict _, _, p => by simp [pureD] at p
  | .tuple _, .none, _, p => by simp [pureD] at p
  | .tuple _, .bool _, _, p => by simp [pureD] at p
  | .tuple _, .list _, _, p => by simp [pureD] at p
  | .tuple _, .dict _, _, p => by simp [pureD] at p
theorem nks_eqv : ∀ ds es : List PyData, pureAll ds = true → pureAll es = true → PyData.eqvAll ds es = decide (nks ds = nks es)
  | [], [], _, _ => by simp [nks, PyData.eqvAll]
  | d :: ds, e :: es, p, q => by
    have p' : pureD d = true ∧ pureAll ds = true := by simpa [pureAll] using p
    have q' : pureD e = true ∧ pureAll es = true := by simpa [pureAll] using q
    simp only [nks, PyData.eqvAll]
    rw [nk_eqv d e p'.1 q'.1, nks_eqv ds es p'.2 q'.2]
    by_cases h1 : nk d = nk e <;> by_cases h2 : nks ds = nks es <;> simp [h1, h2]
  | [], _ :: _, _, _ => by simp [nks, PyData.eqvAll]
  | _ :: _, [], _, _ => by simp [nks, PyData.eqvAll]
end
theorem eqv_iff {d e : PyData} (p : pureD d = true) (q : pureD e = true) : PyData.eqv d e = true ↔ d = e := by
  rw [nk_eqv d e p q, decide_eq_true_iff]
  exact ⟨nk_inj d e p q, fun h => by rw [h]⟩
mutual
theorem nk_depth : ∀ d : PyData, pureD d = true → (nk d).depth = d.depth
  | .int _, _ => by simp [nk, NestedKey.depth, PyData.depth]
  | .str _, _ => by simp [nk, NestedKey.depth, PyData.depth]
  | .tuple ds, p => by simp only [nk, NestedKey.depth, PyData.depth]; rw [nks_depth ds (by simp [pureD] at p; exact p.2)]
  | .none, p => by simp [pureD] at p
  | .bool _, p => by simp [pureD] at p
  | .list _, p => by simp [pureD] at p
  | .dict _, p => by simp [pureD] at p
theorem nks_depth : ∀ ds : List PyData, pureAll ds = true → NestedKey.depthAll (nks ds) = PyData.depthAll ds
  | [], _ => by simp [nks, NestedKey.depthAll, PyData.depthAll]
  | d :: ds, p => by
    have p' : pureD d = true ∧ pureAll ds = true := by simpa [pureAll] using p
    simp only [nks, NestedKey.depthAll, PyData.depthAll]
    rw [nk_depth d p'.1, nks_depth ds p'.2]
end
section
variable {X : Cx} {pins : List (Addr × Obj)} {σ : L2.St} {H : Hp} {s : Shared}
mutual
theorem nk_is (I : Inv X pins σ H s) : ∀ (d : PyData) (v : V) (u : Value), pureD d = true → Dp X.K H v d → RelV v u → NestedIs s.heap (nk d) u
  | .int i, _, _, _, h, r => by cases h; obtain ⟨t, rfl⟩ := r; exact .int i t
  | .str i, _, _, _, h, r => by cases h; obtain ⟨t, rfl⟩ := r; exact .text i t
  | .tuple ds, _, u, p, h, r => by
    cases h with
    | @tup a xs _ hs ha =>
      obtain rfl : u = Value.ref a := r
      obtain ⟨its, rv, ⟨o, ho, hc, n, hd⟩, _⟩ := I.tuple hs
      have := nks_is I ds xs its (by simp [pureD] at p; exact p.2) ha rv
      exact .tup ho hc hd this
  | .none, _, _, p, _, _ => by simp [pureD] at p
  | .bool _, _, _, p, _, _ => by simp [pureD] at p
  | .list _, _, _, p, _, _ => by simp [pureD] at p
  | .dict _, _, _, p, _, _ => by simp [pureD] at p
theorem nks_is (I : Inv X pins σ H s) : ∀ (ds : List PyData) (vs : List V) (us : List Value), pureAll ds = true → DpAll X.K H vs ds → Vals vs us → NestedAll s.heap (nks ds) us
  | [], _, us, _, h, r => by cases h; cases r; exact .nil
  | d :: ds, _, us, p, h, r => by
    have p' : pureD d = true ∧ pureAll ds = true := by simpa [pureAll] using p
    cases h with
    | cons h1 h2 =>
      cases r with
      | cons r1 r2 => exact .cons (nk_is I d _ _ p'.1 h1 r1) (nks_is I ds _ _ p'.2 h2 r2)
end
end
/-! ### dicts whose keys are such tuples -/
abbrev NRow := NestedKey × Addr × V
def RelR (p : NRow) (q : NestedKey × Addr × Value) : Prop := p.1 = q.1 ∧ p.2.1 = q.2.1 ∧ RelV p.2.2 q.2.2
def dictN (P : Program) (w : World) (a : Addr) (rows : List NRow) : HO := .ext fun h => (a == sysModules) = false ∧ rows.length ≤ sizeLine ∧ ∃ xs : List (NestedKey × Addr × Value), Paired RelR rows xs ∧
  ∃ o es ep, h.get? a = some o ∧ o.ExactDict ∧ o.data = .dict es ep ∧ es.toList = xs.map (entryOfKey (nestedKind P w)) ∧ (xs.map (·.1)).Nodup
theorem dictN_ok {P : Program} {w : World} {H : Hp} {h : Heap} {a : Addr} {rows : List NRow} {xs : List (NestedKey × Addr × Value)} {o : Obj} {es : Array DictEntry} {ep : Nat} (h1 : (a == sysModules) = false) (h2 : rows.length ≤ sizeLine) (h3 : Paired RelR rows xs)
    (ho : h.get? a = some o) (hx : o.ExactDict) (hd : o.data = .dict es ep) (he : es.toList = xs.map (entryOfKey (nestedKind P w))) (hn : (xs.map (·.1)).Nodup) : ObjOk P w H h a (dictN P w a rows) :=
  ⟨⟨h1, h2, xs, h3, o, es, ep, ho, hx, hd, he, hn⟩, ⟨o, ho⟩, fun k1 k2 ⟨a1, a2, ys, a3, p, fs, fp, b1, b2, b3, b4, b5⟩ k => ⟨a1, a2, ys, a3, p, fs, fp, k p b1, b2, b3, b4, b5⟩⟩
/-- the dict at a: its keys as data, where each key stands, its values -/
abbrev DRow := PyData × Addr × V
def keyed (L : List DRow) : List NRow := L.map fun r => (nk r.1, r.2.1, r.2.2)
def KeyAt (K : PySem.W.Frag) (H : Hp) (b : Addr) (d : PyData) : Prop := Dp K H (.ref b) d ∧ pureD d = true ∧ d.depth ≤ 7
def DN (P : Program) (w : World) (K : PySem.W.Frag) (H : Hp) (a : Addr) (L : List DRow) : Prop := H a = some (dictN P w a (keyed L)) ∧ ∀ r ∈ L, KeyAt K H r.2.1 r.1
/-- .. while it is locked -/
def DNf (P : Program) (w : World) (K : PySem.W.Frag) (H : Hp) (a : Addr) (o : Obj) (L : List DRow) : Prop := H a = some (.frz o (dictN P w a (keyed L))) ∧ ∀ r ∈ L, KeyAt K H r.2.1 r.1
def dget (L : List DRow) (d : PyData) : Option V := (L.find? fun r => decide (nk r.1 = nk d)).map (·.2.2)
def dput (L : List DRow) (d : PyData) (b : Addr) (v : V) : List DRow := if (dget L d).isSome then L.map fun r => if nk r.1 = nk d then (r.1, r.2.1, v) else r else L ++ [(d, b, v)]
theorem dput_len (L : List DRow) (d : PyData) (b : Addr) (v : V) : (dput L d b v).length ≤ L.length + 1 := by
  unfold dput; split <;> simp
theorem KeyAt.ex {K : PySem.W.Frag} {H H' : Hp} {b : Addr} {d : PyData} (h : KeyAt K H b d) (e : Same H H') : KeyAt K H' b d := ⟨dp_ex e _ _ h.1, h.2⟩
theorem KeyAt.but {K : PySem.W.Frag} {H H' : Hp} {b l : Addr} {d : PyData} (h : KeyAt K H b d) (e : But l H H') (n : NoTup H l) : KeyAt K H' b d := ⟨dp_but e n _ _ h.2.1 h.1, h.2⟩
section
variable {P : Program} {w : World} {K : PySem.W.Frag} {H H' : Hp} {a l : Addr} {L : List DRow}
theorem DN.ex (h : DN P w K H a L) (e : Same H H') : DN P w K H' a L := ⟨e _ _ h.1, fun r hr => (h.2 r hr).ex e⟩
theorem DN.but (h : DN P w K H a L) (e : But l H H') (n : a ≠ l) (t : NoTup H l) : DN P w K H' a L := ⟨e _ _ n h.1, fun r hr => (h.2 r hr).but e t⟩
theorem noTup_d {rows : List NRow} (h : H l = some (dictN P w l rows)) : NoTup H l := by
  rintro u (h2 | ⟨o, h2⟩)
  · rw [h] at h2; cases h2
  · rw [h] at h2; cases h2
theorem DN.noTup (h : DN P w K H a L) : NoTup H a := noTup_d h.1
def RelD (p : DRow) (q : NestedKey × Addr × Value) : Prop := nk p.1 = q.1 ∧ p.2.1 = q.2.1 ∧ RelV p.2.2 q.2.2
theorem keyed_to : ∀ {L : List DRow} {xs : List (NestedKey × Addr × Value)}, Paired RelR (keyed L) xs → Paired RelD L xs
  | [], _, h => by cases h; exact .nil
  | r :: L, _, h => by
    cases h with
    | cons h1 h2 => exact .cons h1 (keyed_to h2)
theorem keyed_of : ∀ {L : List DRow} {xs : List (NestedKey × Addr × Value)}, Paired RelD L xs → Paired RelR (keyed L) xs
  | [], _, h => by cases h; exact .nil
  | r :: L, _, h => by
    cases h with
    | cons h1 h2 => exact .cons h1 (keyed_of h2)
theorem dget_nil (d : PyData) : dget [] d = none := rfl
theorem dget_pos {r : DRow} {L : List DRow} {d : PyData} (e : nk r.1 = nk d) : dget (r :: L) d = some r.2.2 := by
  unfold dget; rw [List.find?_cons, decide_eq_true e]; rfl
theorem dget_neg {r : DRow} {L : List DRow} {d : PyData} (e : ¬ nk r.1 = nk d) : dget (r :: L) d = dget L d := by
  unfold dget; rw [List.find?_cons, decide_eq_false e]
theorem dget_rel {xs : List (NestedKey × Addr × Value)} (r : Paired RelD L xs) (d : PyData) : RelO (dget L d) ((atKey xs (nk d)).map (·.2)) := by
  induction r with
  | nil => exact True.intro
  | @cons p q ps qs h t ih =>
    obtain ⟨h1, _, h2⟩ := h
    by_cases e : nk p.1 = nk d
    · have b : atKey (q :: qs) (nk d) = some q.2 := by simp [atKey, List.find?_cons, h1.symm.trans e]
      rw [dget_pos e, b]; exact h2
    · have e' : ¬ q.1 = nk d := fun z => e (h1.trans z)
      have b : atKey (q :: qs) (nk d) = atKey qs (nk d) := by simp [atKey, List.find?_cons, e']
      rw [dget_neg e, b]; exact ih
theorem dput_rel {xs : List (NestedKey × Addr × Value)} (r : Paired RelD L xs) (d : PyData) {b : Addr} {y : V} {u : Value} (ry : RelV y u) : Paired RelD (dput L d b y) (storedH xs (nk d) b u) := by
  have e : (dget L d).isSome = (atKey xs (nk d)).isSome := by
    rw [(dget_rel r d).isSome_eq, Option.isSome_map]
  unfold dput storedH
  rw [e]
  by_cases q : (atKey xs (nk d)).isSome = true
  · rw [if_pos q, if_pos q]
    clear e q
    induction r with
    | nil => exact .nil
    | @cons p q ps qs h t ih =>
      rw [List.map_cons, List.map_cons]
      refine .cons ?_ ih
      obtain ⟨h1, h2, h3⟩ := h
      unfold putAt
      by_cases e : nk p.1 = nk d
      · rw [if_pos e, if_pos (h1.symm.trans e)]; exact ⟨h1, h2, ry⟩
      · rw [if_neg e, if_neg (fun z => e (h1.trans z))]; exact ⟨h1, h2, h3⟩
  · rw [if_neg q, if_neg q]; exact Paired.snoc r ⟨rfl, rfl, ry⟩
end
section
variable {X : Cx} {pins : List (Addr × Obj)} {σ : L2.St} {H : Hp} {s : Shared} {a b : Addr} {L : List DRow} {d : PyData} {A : Around} {E : Value → Shared → Prop}
theorem KeyAt.is (h : KeyAt X.K H b d) (I : Inv X pins σ H s) : (nestedKind X.prog X.w).is s.heap (nk d) b := ⟨nk_is I d (.ref b) (.ref b) h.2.1 h.1 rfl, by rw [nk_depth d h.2.1]; have := h.2.2; omega⟩
/-- the dict as it is laid -/
theorem DN.raw (h : DN X.prog X.w X.K H a L) (I : Inv X pins σ H s) : (a == sysModules) = false ∧ L.length ≤ sizeLine ∧ ∃ xs, Paired RelD L xs ∧ s.heap.DictOfH (nestedKind X.prog X.w) a xs := by
  obtain ⟨h1, hk⟩ := h
  obtain ⟨⟨a1, a2, xs, a3, o, es, ep, b1, b2, b3, b4, b5⟩, _, _⟩ := (show ObjOk X.prog X.w H s.heap a (dictN X.prog X.w a (keyed L)) from I.hok a _ h1)
  have r := keyed_to a3
  refine ⟨a1, by simpa [keyed] using a2, xs, r, o, es, ep, b1, b2, b3, b4, ?_, b5⟩
  have key : ∀ {L : List DRow} {xs : List (NestedKey × Addr × Value)}, Paired RelD L xs → (∀ r ∈ L, KeyAt X.K H r.2.1 r.1) → ∀ x ∈ xs, (nestedKind X.prog X.w).is s.heap x.1 x.2.1 := by
    intro L xs r
    induction r with
    | nil => intro _ x hx; cases hx
    | @cons p q ps qs h t ih =>
      intro hk x hx
      rcases List.mem_cons.mp hx with rfl | hx
      · obtain ⟨e1, e2, _⟩ := h
        rw [← e1, ← e2]
        exact (hk p List.mem_cons_self).is I
      · exact ih (fun r hr => hk r (List.mem_cons_of_mem _ hr)) x hx
  exact key r hk
theorem DN.is (h : DN X.prog X.w X.K H a L) (I : Inv X pins σ H s) : s.TypeIs (.ref a) "dict" ∧ (∀ b, Value.ref a = .ref b → ∃ ob, s.heap.get? b = some ob ∧ ob.dict = none) := by
  obtain ⟨_, _, xs, _, o, es, ep, b1, b2, _⟩ := h.raw I
  exact ⟨⟨o, b1, b2.1⟩, fun b q => by cases q; exact ⟨o, b1, b2.2.1⟩⟩
theorem dn_get2 {Q : Value → Shared → Prop} {z : V} {r : Value} (hu : A.units + 64 < cLine) (I : Inv X pins σ H s) (g : DN X.prog X.w X.K H a L) (k : KeyAt X.K H b d) (rd : RelV z r) (h : ∀ w' s', Inv X pins σ H s' → RelV ((dget L d).getD z) w' → Q w' s') :
    wpAny (model X.prog X.w) A (call (.builtin "dict.get") [.ref a, .ref b, r]) Q E s := by
  obtain ⟨hd, _, xs, rel, dd⟩ := g.raw I
  refine call_meetsIn PySem.F.slot_dict_get dd.typeIs PySem.F.entry_dict_get (PySem.F.args_dict_get_3 _ _ _) (meetsH_dict_get_default (nestedKind X.prog X.w) a b hd r) ⟨(show A.in1.units + 8 < cLine by show A.units + 1 + 8 < cLine; omega), nk d, xs, k.is I, dd, h _ _ (I.tok _) ?_⟩
  exact (dget_rel rel d).getD rd
theorem dn_put {Q : Unit → Shared → Prop} {v : V} {r : Value} (hu : A.units + 64 < cLine) (I : Inv X pins σ H s) (g : DN X.prog X.w X.K H a L) (k : KeyAt X.K H b d) (rv : RelV v r) (hl : L.length < sizeLine)
    (h : ∀ s', Inv X pins σ (upd H a (dictN X.prog X.w a (keyed (dput L d b v)))) s' → Q () s') : wpAny (model X.prog X.w) A (setItem (.ref a) (.ref b) r) Q E s := by
  obtain ⟨hd, z, xs, rel, dd⟩ := g.raw I
  have hz : xs.length ≤ sizeLine := by rw [← Paired.length rel]; exact z
  refine wpAny_setItem_heap (hsz := hz) (show A.in1.units + 8 < cLine by show A.units + 1 + 8 < cLine; omega) (k.is I) dd fun h' dd' hs => h _ ?_
  obtain ⟨q, es, ep, hq, h2, h3, h4, _, h5⟩ := dd'
  refine d_write I (by rw [g.1]; exact True.intro) hs ⟨q, hq⟩ (dictN_ok hd ?_ (keyed_of (dput_rel rel d rv)) hq h2 h3 h4 h5)
  have := dput_len L d b v
  simp only [keyed, List.length_map]
  omega
theorem dn_len {Q : Value → Shared → Prop} (I : Inv X pins σ H s) (g : DN X.prog X.w X.K H a L) (h : ∀ t s', Inv X pins σ H s' → Q (.int L.length t) s') : wpAny (model X.prog X.w) A (call (.builtin "len") [.ref a]) Q E s := by
  obtain ⟨hd, z, xs, rel, dd⟩ := g.raw I
  have hz := sizeLine_eq
  have hl : L.length = xs.length := Paired.length rel
  refine Calls.call_function_entry kind_len plain_len entry_len (args_len1 _) ?_
  unfold Builtin.«len»
  refine wpAny_bind (m := oneArg "len" _) (wpAny_pure ?_)
  refine wpAny_bind (m := callSpecial? (.ref a) (Str.ofString "__len__")) (wpAny_callSpecial?_slot (name := Str.ofString "__len__") dd.typeIs PySem.F.slot_dict_len
    (len_keyed (knd := nestedKind X.prog X.w) (kvs := pairsH xs) hd ⟨xs, dd, rfl⟩ ?_))
  rw [pairsH_length, ← hl]
  refine wpAny_bind (wpAny_holding (wpAny_pure ?_))
  refine wpAny_bind (wpAny_letGo ?_)
  show wpAny _ _ (if ((L.length : Nat) : Int) < 0 then _ else _) _ _ _
  rw [if_neg (by omega)]
  show wpAny _ _ (if ((L.length : Nat) : Int) ≥ 2 ^ 63 then _ else _) _ _ _
  rw [if_neg (by omega)]
  exact wpAny_bind (wpAny_mkInt (wpAny_pure ⟨_, rfl, h _ _ (I.tok _)⟩))
end
/-! ### readings -/
section
variable {X : Cx} {o i e f value : Expr} {pos pos' apos cpos : Pos} {td ty tx tv : TE}
def tDNew (P : Program) (w : World) : TE := fun _ H Q => ∀ p, H p = none → Q (.ref p) (upd H p (dictN P w p []))
theorem pe_dnew : PE X (.Dict [] [] pos) (tDNew X.prog X.w) := ⟨fun pins s σ H Q I h =>
  wpAny_Dict_empty ⟨.ref s.heap.objs.size, _, I.laid (a := s.heap.objs.size) (o := dictN X.prog X.w s.heap.objs.size []) (t' := s.toks) (fun _ _ q => Heap.get?_push_of_some _ q) (Nat.le_refl _)
    (dictN_ok (beq_eq_false_iff_ne.mpr (Ne.symm (Nat.ne_of_lt I.big))) (Nat.zero_le _) .nil (es := #[]) (ep := 0) (Heap.get?_push_size _ rfl) ⟨rfl, rfl, rfl⟩ rfl rfl List.nodup_nil), rfl, h _ (I.hok.fresh (Nat.le_refl _))⟩⟩
theorem r_dnew {P : Program} {w : World} {K : PySem.W.Frag} {σ : L2.St} {H : Hp} {Q : VK} (q : ∀ p H2, H p = none → Same H H2 → DN P w K H2 p [] → Q (.ref p) H2) : tDNew P w σ H Q := fun p hp => q p _ hp (ex_new hp) ⟨upd_same, fun _ h => nomatch h⟩
def DGet2R (P : Program) (w : World) (K : PySem.W.Frag) (x y z : V) (H : Hp) (Q : VK) : Prop := ∃ a b L d, x = .ref a ∧ y = .ref b ∧ DN P w K H a L ∧ KeyAt K H b d ∧ Q ((dget L d).getD z) H
def DIs (P : Program) (w : World) (K : PySem.W.Frag) (x : V) (H : Hp) : Prop := ∃ a L, x = .ref a ∧ DN P w K H a L
def tDNGet2 (P : Program) (w : World) (K : PySem.W.Frag) (td ty tx : TE) : TE := fun σ H Q => td σ H fun x H1 => DIs P w K x H1 ∧ ty σ H1 fun y H2 => tx σ H2 fun z H3 => DGet2R P w K x y z H3 Q
theorem pe_dnget2 (hu : X.A.units + 64 < cLine) (ho : PE X o td) (he : PE X e ty) (hf : PE X f tx) (m : M2 X o "get" apos e f cpos) : PE X (.Call (.Attribute o "get" apos) [e, f] [] cpos) (tDNGet2 X.prog X.w X.K td ty tx) := by
  refine ⟨fun pins s σ H Q I h => ?_⟩
  refine wpAny_Call_method m.base m.few m.line PySem.F.plainAttrs_dict PySem.F.slot_dict_get PySem.F.type_dict_get (thn (ho.run pins s σ H _ I h) fun u s1 ⟨x, H1, I1, rx, ⟨a, L, ex, hD⟩, q1⟩ => ?_)
  subst ex
  obtain rfl : u = Value.ref a := rx
  obtain ⟨t1, t2⟩ := hD.is I1
  refine ⟨t1, t2, ?_⟩
  rw [m.trees]
  refine Calls.callWith_builtin rfl (Calls.evalArgs_plain (Calls.spliced_cons (thn (he.run pins s1 σ H1 _ I1 q1) fun iv s2 ⟨y, H2, I2, ry, q2⟩ =>
    Calls.spliced_cons (thn (hf.run pins s2 σ H2 _ I2 q2) fun fv s3 ⟨z, H3, I3, rz, a', b, L', d, ea, eb, hD', hk, q3⟩ => Calls.spliced_nil ?_))))
  cases ea
  subst eb
  obtain rfl : iv = Value.ref b := ry
  exact dn_get2 hu I3 hD' hk rz fun w' s4 I4 rw' => ⟨_, H3, I4, rw', q3⟩
theorem r_dnget2 {P : Program} {w : World} {K : PySem.W.Frag} {σ : L2.St} {H : Hp} {Q : VK} (h : td σ H fun x H1 => DIs P w K x H1 ∧ ty σ H1 fun y H2 => tx σ H2 fun z H3 => DGet2R P w K x y z H3 Q) : tDNGet2 P w K td ty tx σ H Q := h
theorem r_dis {P : Program} {w : World} {K : PySem.W.Frag} {H : Hp} {a : Addr} {L : List DRow} {R : Prop} (h : DN P w K H a L) (q : R) : DIs P w K (.ref a) H ∧ R := ⟨⟨a, L, rfl, h⟩, q⟩
theorem r_dget2 {P : Program} {w : World} {K : PySem.W.Frag} {H : Hp} {Q : VK} {a b : Addr} {L : List DRow} {d : PyData} {z : V} (h : DN P w K H a L) (k : KeyAt K H b d) (q : Q ((dget L d).getD z) H) : DGet2R P w K (.ref a) (.ref b) z H Q := ⟨a, b, L, d, rfl, rfl, h, k, q⟩
def DPutR (P : Program) (w : World) (K : PySem.W.Frag) (x y v : V) (H : Hp) (N : Hp → Prop) : Prop := ∃ a b L d, x = .ref a ∧ y = .ref b ∧ DN P w K H a L ∧ KeyAt K H b d ∧ L.length < sizeLine ∧ N (upd H a (dictN P w a (keyed (dput L d b v))))
def sDNPut (P : Program) (w : World) (K : PySem.W.Frag) (td ty tv : TE) : TS := fun D σ H => tv σ H fun v H1 => td σ H1 fun x H2 => ty σ H2 fun y H3 => DPutR P w K x y v H3 (D.nx σ)
theorem ps_dnput (hu : X.A.units + 64 < cLine) (ho : PE X o td) (hi : PE X i ty) (hv : PE X value tv) (hs : swapsWith value (some (.Subscript o i pos')) pos.line X.env = pure false) :
    PS X (.Assign [.Subscript o i pos'] value pos) (sDNPut X.prog X.w X.K td ty tv) := by
  refine ⟨fun pins s σ H D I h => ?_⟩
  refine wpAny_Assign_Subscript (thn (hv.run pins s σ H _ I h) fun r s1 ⟨v, H1, I1, rv, q1⟩ => thn (ho.run pins s1 σ H1 _ I1 q1) fun u s2 ⟨x, H2, I2, rx, q2⟩ => thn (hi.run pins s2 σ H2 _ I2 q2) fun iv s3 ⟨y, H3, I3, ry, a, b, L, d, ex, ey, hD, hk, hl, q3⟩ => ?_) hs
  subst ex ey
  obtain rfl : u = Value.ref a := rx
  obtain rfl : iv = Value.ref b := ry
  exact dn_put hu I3 hD hk rv hl fun s4 I4 => ⟨σ, _, I4, q3⟩
theorem r_dnput {P : Program} {w : World} {K : PySem.W.Frag} {σ : L2.St} {H : Hp} {D : Ends} (h : tv σ H fun v H1 => td σ H1 fun x H2 => ty σ H2 fun y H3 => DPutR P w K x y v H3 (D.nx σ)) : sDNPut P w K td ty tv D σ H := h
theorem dput_mem {L : List DRow} {d : PyData} {b : Addr} {v : V} {r : DRow} (h : r ∈ dput L d b v) : (∃ r0 ∈ L, r.1 = r0.1 ∧ r.2.1 = r0.2.1) ∨ (r.1 = d ∧ r.2.1 = b) := by
  unfold dput at h
  split at h
  · obtain ⟨r0, h0, rfl⟩ := List.mem_map.mp h
    refine .inl ⟨r0, h0, ?_⟩
    split <;> exact ⟨rfl, rfl⟩
  · rcases List.mem_append.mp h with h | h
    · exact .inl ⟨r, h, rfl, rfl⟩
    · rw [List.mem_singleton.mp h]; exact .inr ⟨rfl, rfl⟩
theorem r_dput {P : Program} {w : World} {K : PySem.W.Frag} {H : Hp} {N : Hp → Prop} {a b : Addr} {L : List DRow} {d : PyData} {v : V} (h : DN P w K H a L) (k : KeyAt K H b d) (hl : L.length ≤ 100000) (q : ∀ H2, But a H H2 → DN P w K H2 a (dput L d b v) → N H2) : DPutR P w K (.ref a) (.ref b) v H N := by
  refine ⟨a, b, L, d, rfl, rfl, h, k, Nat.lt_of_le_of_lt hl (by decide), q _ But.upd ⟨upd_same, fun r hr => ?_⟩⟩
  have e : But a H (upd H a (dictN P w a (keyed (dput L d b v)))) := But.upd
  rcases dput_mem hr with ⟨r0, h0, e1, e2⟩ | ⟨e1, e2⟩
  · rw [e1, e2]; exact (h.2 r0 h0).but e h.noTup
  · rw [e1, e2]; exact k.but e h.noTup
def rLenN (P : Program) (w : World) (K : PySem.W.Frag) : List V → Hp → VK → Prop := fun xs H Q => ∃ a L, xs = [.ref a] ∧ DN P w K H a L ∧ Q (.int (L.length : Nat)) H
theorem cr_lenN : CallR X (.builtin "len") (rLenN X.prog X.w X.K) := by
  intro pins s σ H xs us Q I r h
  obtain ⟨a, L, rfl, hD, q⟩ := h
  obtain ⟨u, rfl, ru⟩ := vals1 r
  obtain rfl : u = Value.ref a := ru
  exact dn_len I hD fun t s' I' => ⟨.int (L.length : Nat), H, I', ⟨t, rfl⟩, q⟩
theorem r_lenN {P : Program} {w : World} {K : PySem.W.Frag} {H : Hp} {Q : VK} {a : Addr} {L : List DRow} (h : DN P w K H a L) (q : Q (.int (L.length : Nat)) H) : rLenN P w K [.ref a] H Q := ⟨a, L, rfl, h, q⟩
end
/-! ### for .. in d.items() -/
section
variable {X : Cx} {pins : List (Addr × Obj)} {σ : L2.St} {H : Hp} {s : Shared} {a : Addr} {L : List DRow} {o : Obj}
/-- the locked dict as it is laid -/
theorem frzN (I : Inv X pins σ H s) (h : H a = some (.frz o (dictN X.prog X.w a (keyed L)))) : (a == sysModules) = false ∧ s.heap.get? a = some o ∧ o.ExactDict ∧ ∃ es ep xs, o.data = .dict es ep ∧ es.size = L.length ∧ Paired RelD L xs ∧ es.toList = xs.map (entryOfKey (nestedKind X.prog X.w)) := by
  obtain ⟨hd, ⟨a1, a2, xs, a3, o', es, ep, b1, b2, b3, b4, b5⟩, _, _⟩ := (show ObjOk X.prog X.w H s.heap a (.frz o (dictN X.prog X.w a (keyed L))) from I.hok a _ h)
  rw [hd] at b1
  cases b1
  have r := keyed_to a3
  refine ⟨a1, hd, b2, es, ep, xs, b3, ?_, r, b4⟩
  rw [← Array.length_toList, b4, List.length_map]
  exact (Paired.length r).symm
theorem row_at {xs : List (NestedKey × Addr × Value)} {es : Array DictEntry} {P : Program} {w : World} (r : Paired RelD L xs) (he : es.toList = xs.map (entryOfKey (nestedKind P w))) {i : Nat} {p : DRow} (hp : L[i]? = some p) : ∃ e, es[i]? = some e ∧ e.key = .ref p.2.1 ∧ RelV p.2.2 e.val := by
  obtain ⟨q, hq, _, h2, h3⟩ := paired_get r hp
  refine ⟨entryOfKey (nestedKind P w) q, ?_, ?_, h3⟩
  · rw [← Array.getElem?_toList, he, List.getElem?_map, hq]; rfl
  · rw [h2]; rfl
end
/-- the pairs of the locked dict at a, each a new tuple -/
def ItN (P : Program) (w : World) (a : Addr) (o : Obj) (L : List DRow) : It :=
  ⟨fun i H => H a = some (.frz o (dictN P w a (keyed L))) ∧ i < L.length, fun i H x H' => ∃ T r, L[i]? = some r ∧ x = .ref T ∧ H T = none ∧ H' = upd H T (.tup [.ref r.2.1, r.2.2]), fun i H => H a = some (.frz o (dictN P w a (keyed L))) ∧ L.length ≤ i⟩
section
variable {P : Program} {w : World} {K : PySem.W.Frag} {a : Addr} {o : Obj} {es : Array DictEntry} {ep : Nat}
theorem turn_itemsN {L : List DRow} {elts : List Expr} {kk : Nat} {tpos : Pos} (it : Addr) (hod : o.data = .dict es ep) :
    Turn P w K (.Tuple elts kk tpos) (ItN P w a o L) [it] it (fun i h => ∃ ok ov, h.get? it = some (DVw.itmOb a .none i L.length ep ok ov)) where
  mem := by simp
  obj := fun i h st b hb => by
    have e : b = it := by simpa using hb
    subst e
    obtain ⟨ok, ov, e⟩ := st
    exact ⟨_, e, fun v z => nomatch z⟩
  keep := fun i h h' st k => let ⟨ok, ov, e⟩ := st; ⟨ok, ov, k it (by simp) _ e⟩
  item := by
    intro X hP hw hK hc i pins s σ H E I hf st hg
    subst hP hw hK
    obtain ⟨hd, hi⟩ := hg
    obtain ⟨hs, hgd, hx, es', ep', xs, hdt, hsz, rel, hes⟩ := frzN I hd
    obtain ⟨rfl, rfl⟩ := dict_ep hod hdt
    obtain ⟨r, hr⟩ : ∃ p, L[i]? = some p := ⟨L[i], List.getElem?_eq_getElem hi⟩
    obtain ⟨e, he, hkey, ru⟩ := row_at rel hes hr
    obtain ⟨ok, ov, hit⟩ := st
    have hlt : it < s.heap.objs.size := Heap.lt_size hit
    refine DVw.itm_item hit hgd hdt hsz he fun h' b1 b2 b3 b4 => ?_
    refine ⟨_, rfl, wpAny_letOwnedTupleGo_items (s := { s with heap := h' }) (d := a) (i := i + 1) (n := L.length) (ep := ep') (ok := e.key) (ov := e.val) b1 fun h'' he' sb => ?_⟩
    have hT2 : h''.get? s.heap.objs.size = some { cls := .type "tuple", data := .seq #[e.key, e.val] } := (sb.2 _ (Nat.ne_of_gt hlt)).trans b2
    have new : ObjOk X.prog X.w (upd H s.heap.objs.size (.tup [.ref r.2.1, r.2.2])) h'' s.heap.objs.size (.tup [.ref r.2.1, r.2.2]) :=
      ⟨by show 2 ≤ sizeLine; decide, [e.key, e.val], .cons hkey (.cons ru .nil), ⟨_, hT2, rfl, _, rfl⟩⟩
    have I1 : Inv X pins σ (upd H s.heap.objs.size (.tup [.ref r.2.1, r.2.2])) { s with heap := h'' } :=
      I.turnedNew (t' := s.toks) (ch := [it]) (fun b ob hb z => (sb.2 b (by simpa using hb)).trans (b4 b ob (by simpa using hb) z)) hf (Nat.le_refl _) new
    refine ⟨.ref s.heap.objs.size, _, I1, rfl, ⟨_, r, hr, rfl, I.hok.fresh (Nat.le_refl _), rfl⟩, ⟨e.key, e.val, he'⟩, fun b hb => ?_⟩
    have z : b = it := by simpa using hb
    rw [z, upd_ne (Nat.ne_of_lt hlt)]
    exact (hf it (by simp)).1
  done := by
    intro X hP hw hK hc i pins s σ H E I hf st hg
    subst hP hw hK
    obtain ⟨hd, hi⟩ := hg
    obtain ⟨f0, f1, f2, f3, f4, f5⟩ := hf it (by simp)
    obtain ⟨hs, hgd, hx, es', ep', xs, hdt, hsz, rel, hes⟩ := frzN I hd
    obtain ⟨rfl, rfl⟩ := dict_ep hod hdt
    obtain ⟨ok, ov, hit⟩ := st
    have he : es'[i]? = none := Array.getElem?_eq_none (by rw [hsz]; exact hi)
    exact DVw.itm_end (I.ok.hd hc) hit hgd hdt hsz he fun h' eb => ⟨rfl, I.turned (t' := s.toks) (fun b ob hb e => eb b ob hb e) f0 f1 f3 f4 f5⟩
  self := fun A i s Q E st h => let ⟨_, _, e⟩ := st; PySem.W.kcp_self e h
end
section
variable {X : Cx} {e : Expr} {td : TE} {apos cpos : Pos}
def iItemsN (P : Program) (w : World) (td : TE) : TI := fun σ H R => td σ H fun x H1 => ∃ a o L, x = .ref a ∧ H1 a = some (.frz o (dictN P w a (keyed L))) ∧ R (ItN P w a o L) H1
theorem pi_itemsN {elts : List Expr} {kk : Nat} {tpos : Pos} (he : PE X e td) (hbase : attributeBase e "items" X.env (eval e X.env) = eval e X.env := by rfl) (hline : (apos.endLine == cpos.line) = true := by rfl) :
    PI X (.Tuple elts kk tpos) (.Call (.Attribute e "items" apos) [] [] cpos) (iItemsN X.prog X.w td) := by
  refine ⟨fun pins s σ H R I h => ?_⟩
  refine wpAny_Call_method (T := "dict") (id := "dict.items") hbase rfl hline F.plainAttrs_dict F.slot_dict_items F.type_dict_items (thn (he.run pins s σ H _ I h) fun u s1 ⟨x, H1, I1, rx, a, o, L, ex, hd, q⟩ => ?_)
  subst ex
  obtain rfl : u = Value.ref a := rx
  obtain ⟨hs, hgd, hx, es, ep, xs, hdt, hsz, rel, hes⟩ := frzN I1 hd
  have raw : DT.Raw s1.heap a es ep := ⟨o, hgd, hx, hdt⟩
  refine ⟨raw.typeIs, fun b q => by cases q; exact ⟨o, hgd, hx.2.1⟩, ?_⟩
  have I2 : Inv X pins σ H1 { s1 with heap := s1.heap.push { cls := .type "dict_items", data := .fields #[.ref a] } } := I1.kept (t' := s1.toks) fun b ob q => Heap.get?_push_of_some _ q
  refine Calls.callWith_builtin rfl (PySem.evalArgs_none ?_)
  refine DT.callItems hs raw ?_
  refine DT.iterI ⟨_, Heap.get?_push_size _ rfl, rfl, rfl⟩ (raw.push _) ?_
  refine pi_one (tk := s1.toks) I2 _ (turn_itemsN _ hdt) ⟨.none, .none, ?_⟩ q
  rw [← hsz]
  exact Heap.get?_push_size _ rfl
end
/-! ### in a comprehension -/
section
variable {X : Cx} {K : PySem.W.Frag} {es : List Expr} {k n : Nat} {t : TGs} {pos : Pos}
theorem pg_kTup (hK : X.K = K) (hc : X.calm = true) (h : PGs X es t) (hn : (assignEach es X.env).length = n := by rfl) (hst : (assignEach es X.env).findIdx? (·.1) = none := by rfl) : PG X (.Tuple es k pos) (gTup K n t) := hK ▸ pg_tup hc h hn hst
end
theorem r_lockE {t : TE} {σ : L2.St} {H : Hp} {Q : VK} (h : ∃ d u, H d = some u ∧ Mut (some u) ∧ ∀ od, t σ (upd H d (.frz od u)) fun v H' => H' d = some (.frz od u) ∧ Q v (upd H' d u)) : tLockE t σ H Q := h
section
variable {P : Program} {w : World} {K : PySem.W.Frag} {H H1 H' : Hp} {a : Addr} {o : Obj} {L : List DRow}
theorem walk_N : Walk (ItN P w a o L) L.length (fun H => H a = some (.frz o (dictN P w a (keyed L)))) (fun i H x H' => ∃ T r, L[i]? = some r ∧ x = .ref T ∧ H T = none ∧ H' = upd H T (.tup [.ref r.2.1, r.2.2])) :=
  ⟨fun _ _ hi q => ⟨q, hi⟩, fun _ q => ⟨q, Nat.le_refl _⟩, fun _ _ _ _ _ _ y => y⟩
/-- the dict locked, and back -/
theorem DN.lock (h : DN P w K H a L) {t : TE} {σ : L2.St} {Q : VK} (k : ∀ od H1, But a H H1 → H1 a = some (.frz od (dictN P w a (keyed L))) → t σ H1 fun v H' => H' a = some (.frz od (dictN P w a (keyed L))) ∧ Q v (upd H' a (dictN P w a (keyed L)))) : tLockE t σ H Q :=
  r_lockE ⟨a, _, h.1, True.intro, fun od => k od _ But.upd upd_same⟩
theorem unlock_same {u : HO} (h : H a = some u) (b : But a H H1) (e : Same H1 H') : Same H (upd H' a u) := fun c o hc => by
  by_cases hca : c = a
  · subst hca; rw [h] at hc; cases hc; exact upd_same
  · rw [upd_ne hca]; exact e c o (b c o hca hc)
theorem noTup_f {u : HO} {od : Obj} (hu : ∀ xs, u ≠ .tup xs) (h : H a = some (.frz od u)) : NoTup H a := by
  rintro xs (h2 | ⟨o, h2⟩)
  · rw [h] at h2; cases h2
  · rw [h] at h2; cases h2; exact hu _ rfl
theorem KeyAt.lock {b : Addr} {d : PyData} (h : DN P w K H a L) (e : But a H H1) (k : KeyAt K H b d) : KeyAt K H1 b d := k.but e h.noTup
/-- [.. for (k, v) in d.items() ..] -/
theorem lcN {g : TG} {tt : TT} {te : TE} {vs : List Nat} {Q : VK} {σ : L2.St} (Pv : Addr → Nat → Hp → Prop) (h0 : ∀ D H2, H D = none → Same H H2 → H2 D = some (.lst []) → Pv D 0 H2) (hl : ∀ D i H', i ≤ L.length → Pv D i H' → H' a = some (.frz o (dictN P w a (keyed L))))
    (hs : ∀ D i r T H' H2, L[i]? = some r → Pv D i H' → H' T = none → Same H' H2 → H2 T = some (.tup [.ref r.2.1, r.2.2]) → g (.ref T) (wipe σ vs) H2 fun σ2 H2 => wipe σ2 vs = wipe σ vs ∧ tt σ2 H2 fun b H3 => if b = true then te σ2 H3 fun y H4 => Yield D (Pv D (i + 1)) y H4 else Pv D (i + 1) H3)
    (hd : ∀ D H', Pv D L.length H' → Q (.ref D) H') : LcR (ItN P w a o L) g tt te vs Q σ H := fun D hD =>
  lc_it walk_N (Pv D) (h0 D _ hD (ex_new hD) upd_same) (hl D) (fun i x H H' hi p y => by obtain ⟨T, r, hr, rfl, hT, rfl⟩ := y; exact hs D i r T H _ hr p hT (ex_new hT) upd_same) (hd D)
end
def ItemsR (P : Program) (w : World) (x : V) (H1 : Hp) (R : It → Prop) : Prop := ∃ a o L, x = .ref a ∧ H1 a = some (.frz o (dictN P w a (keyed L))) ∧ R (ItN P w a o L)
theorem r_itemsN {P : Program} {w : World} {td : TE} {σ : L2.St} {H : Hp} {R : It → Hp → Prop} (h : td σ H fun x H1 => ItemsR P w x H1 fun J => R J H1) : iItemsN P w td σ H R := h
theorem r_itemsN1 {P : Program} {w : World} {a : Addr} {o : Obj} {L : List DRow} {H : Hp} {R : It → Prop} (h : H a = some (.frz o (dictN P w a (keyed L)))) (q : R (ItN P w a o L)) : ItemsR P w (.ref a) H R := ⟨a, o, L, rfl, h, q⟩
/-! ### small things -/
theorem int_asc {i : Int} (h : 0 ≤ i) : Asc (Str.ofString (toString i)) := by
  obtain ⟨n, rfl⟩ := Int.eq_ofNat_of_zero_le h
  intro c hc
  have e : (Str.ofString (toString ((n : Nat) : Int))).cps.toList = TL.numL n := TL.tl_num n
  rw [e] at hc
  have := TL.numL_digits n c hc
  omega
theorem oPow4 {X : Cx} : OpR X (binaryOp .Pow) (rPow 10 4) := by
  intro pins s σ H x y v u Q I rx ry h
  obtain ⟨rfl, rfl, q⟩ := h
  exact op_pow pins s σ H _ _ v u Q I rx ry ⟨10, 4, rfl, rfl, ⟨by decide, by decide, by decide⟩, q⟩
theorem r_pow4 {H : Hp} {Q : VK} (q : Q (.int 10000) H) : rPow 10 4 (.int 10) (.int 4) H Q := ⟨rfl, rfl, q⟩
theorem log_small {i : Int} (h : -1000000000000 ≤ i ∧ i ≤ 1000000000000) : i.natAbs.log2 < 1920 := by
  by_cases h0 : i.natAbs = 0
  · rw [h0]; decide +kernel
  · exact (Nat.log2_lt h0).mpr (Nat.lt_of_le_of_lt (m := 1000000000000) (by omega) (by decide +kernel))
def rStrI : List V → Hp → VK → Prop := fun xs H Q => ∃ i : Int, xs = [.int i] ∧ i.natAbs.log2 < 1920 ∧ Q (.str (toString i)) H
theorem cStrI {X : Cx} : CallR X (.type "str") rStrI := call_str_int
/-- str(i) -/
theorem r_strI {i : Int} {H : Hp} {Q : VK} (h : 0 ≤ i ∧ i ≤ 1000000000000) (q : ∀ z : Str, Asc z → z.length ≤ 20 → Q (.str z) H) : rStrI [.int i] H Q := ⟨i, rfl, log_small ⟨by omega, h.2⟩, q _ (int_asc h.1) (int_len ⟨by omega, h.2⟩)⟩
theorem r_bm0 {K : PySem.W.Frag} {T : String} {r : V → List V → Hp → VK → Prop} {to : TE} {σ : L2.St} {H : Hp} {Q : VK} (h : to σ H fun x H1 => tyV K T x H1 ∧ r x [] H1 Q) : tBM0 K T r to σ H Q := h
theorem r_reverse {K : PySem.W.Frag} {l : Addr} {xs : List V} {H : Hp} {Q : VK} (h : H l = some (.lst xs)) (q : ∀ H2, But l H H2 → H2 l = some (.lst xs.reverse) → Q .non H2) : tyV K "list" (.ref l) H ∧ rReverse (.ref l) [] H Q := ⟨.inl ⟨rfl, _, SqL.of h⟩, l, xs, rfl, rfl, h, q _ But.upd upd_same⟩
theorem isiL_of {K : PySem.W.Frag} {H : Hp} {a : Addr} {xs : List V} (h : H a = some (.lst xs)) : TyX K H (.ref a) (.type "list") := .base (.lst h)
theorem r_isiLt {K : PySem.W.Frag} {H : Hp} {Q : VK} {a : Addr} {xs : List V} {T : String} (hx : H a = some (.lst xs)) (h : kitB "list" T = some true) (q : Q (.bl true) H) : rIsi K [.ref a, .ty T] H Q := ⟨_, _, _, _, true, rfl, .ty T, isiL_of hx, kit_ty h, q⟩
theorem r_isiPt {K : PySem.W.Frag} {H : Hp} {Q : VK} {a : Addr} {ds : List PyData} {T : String} (hx : Dp K H (.ref a) (.tuple ds)) (h : kitB "tuple" T = some true) (q : Q (.bl true) H) : rIsi K [.ref a, .ty T] H Q := by
  obtain ⟨_, e, us, h1, _⟩ := dp_pt hx
  cases e
  exact r_isiTt h1 h q
theorem nox_P {CX : CXT} {P : Program} {w : World} {K : PySem.W.Frag} {mg : Str → Option Value} {base : Heap} {N : List Str} {q : Str} {sc : Scope} {f : Addr} {cdv : Value} {A : Around} {outer : List PySem.Env} {s : Shared} {H : Hp} {E : XK} : (cxOf CX P w K mg base N q sc f cdv A outer s H E).nox.prog = P := rfl
theorem nox_w {CX : CXT} {P : Program} {w : World} {K : PySem.W.Frag} {mg : Str → Option Value} {base : Heap} {N : List Str} {q : Str} {sc : Scope} {f : Addr} {cdv : Value} {A : Around} {outer : List PySem.Env} {s : Shared} {H : Hp} {E : XK} : (cxOf CX P w K mg base N q sc f cdv A outer s H E).nox.w = w := rfl
theorem cx_P {CX : CXT} {P : Program} {w : World} {K : PySem.W.Frag} {mg : Str → Option Value} {base : Heap} {N : List Str} {q : Str} {sc : Scope} {f : Addr} {cdv : Value} {A : Around} {outer : List PySem.Env} {s : Shared} {H : Hp} {E : XK} : (cxOf CX P w K mg base N q sc f cdv A outer s H E).prog = P := rfl
theorem cx_w {CX : CXT} {P : Program} {w : World} {K : PySem.W.Frag} {mg : Str → Option Value} {base : Heap} {N : List Str} {q : Str} {sc : Scope} {f : Addr} {cdv : Value} {A : Around} {outer : List PySem.Env} {s : Shared} {H : Hp} {E : XK} : (cxOf CX P w K mg base N q sc f cdv A outer s H E).w = w := rfl
end My

set_option Elab.async false
set_option linter.all false
set_option maxRecDepth 100000
set_option maxHeartbeats 4000000
namespace My
open PySem PySem.Spec PyProof.Rows L2
open C8 (tCut pss_cut)
open PySem.W (alike dataLt)
local macro_rules | `(tactic| walk_at "side") => `(tactic| (first | with_reducible assumption | with_reducible exact rfl | omega | decide +kernel | exact ⟨by omega, by omega⟩ | exact Nat.le_of_ble_eq_true rfl | exact Or.inl ⟨by omega, by omega⟩ | exact Or.inr ⟨by omega, by omega⟩ | (intro hh; cases hh; done) | (simp; omega)))
local macro_rules | `(tactic| walk_at "trT") => `(tactic| (with_reducible first | assumption | (refine' SqT.of ?z; (case z => assumption)) | (refine' ex_t ?e ?h; (case e => assumption); case h => walk_at "trT") | (refine' but_t ?e ?g ?h; (case e => assumption); (case g => assumption); case h => walk_at "trT")))
local macro_rules | `(tactic| walk_at "trL") => `(tactic| (with_reducible first | assumption | (refine' SqL.of ?z; (case z => assumption)) | (refine' ex_l ?e ?h; (case e => assumption); case h => walk_at "trL")))
local macro_rules | `(tactic| walk_at "rd1") => `(tactic| first
  | ((with_reducible refine r_seq ?_))
  | ((with_reducible refine r_asgN ?_))
  | ((with_reducible refine r_ret ?_))
  | ((with_reducible refine r_retN ?_))
  | ((with_reducible refine r_drop ?_))
  | ((with_reducible refine r_ifS ?_))
  | ((with_reducible refine r_next ?_))
  | ((with_reducible refine r_brk ?_))
  | ((with_reducible refine r_cont ?_))
  | ((with_reducible refine r_for ?_))
  | ((with_reducible refine r_iStr ?_))
  | ((with_reducible refine r_iStr1 ?_))
  | ((with_reducible refine r_iList ?_))
  | ((with_reducible refine r_iTup ?_))
  | ((with_reducible refine r_iRng1 ?_))
  | ((with_reducible refine r_iRng2 ?_))
  | ((with_reducible refine' r_var ?k1 ?_); (case k1 => with_unfolding_all rfl))
  | ((with_reducible refine r_c ?_))
  | ((with_reducible refine r_op ?_))
  | ((with_reducible refine r_un ?_))
  | ((with_reducible refine r_if ?_))
  | ((with_reducible refine r_fn ?_))
  | ((with_reducible refine r_cb ?_))
  | ((with_reducible refine r_cons ?_))
  | ((with_reducible refine r_nil ?_))
  | ((with_reducible refine r_test ?_))
  | ((with_reducible refine r_tB ?_))
  | ((with_reducible refine r_and ?_))
  | ((with_reducible refine r_or ?_))
  | ((with_reducible refine r_not ?_))
  | ((with_reducible refine r_chain ?_))
  | ((with_reducible refine r_andV ?_))
  | ((with_reducible refine r_orV ?_))
  | ((with_reducible refine r_notV ?_))
  | ((with_reducible refine r_tup ?_))
  | ((with_reducible refine r_lst ?_))
  | ((with_reducible refine r_sl ?_))
  | ((with_reducible refine r_noPart ?_))
  | ((with_reducible refine r_part ?_))
  | ((with_reducible refine r_bl ?_))
  | ((with_reducible refine r_exI ?_))
  | ((with_reducible refine r_I0 ?_))
  | ((with_reducible refine r_U ?_))
  | ((with_reducible refine r_eqI ?_))
  | ((with_reducible refine r_eqS ?_))
  | ((with_reducible refine r_eqB ?_))
  | ((with_reducible refine r_neI ?_))
  | ((with_reducible refine r_neS ?_))
  | ((with_reducible refine r_neB ?_))
  | ((with_reducible refine r_int ?_))
  | ((with_reducible refine r_inS ?_))
  | ((with_reducible refine r_notInS ?_))
  | ((with_reducible refine r_bm ?_))
  | ((with_reducible refine r_up ?_))
  | ((with_reducible refine r_low ?_))
  | ((with_reducible refine' r_up1 ?k1 ?_); (case k1 => walk_at "side"))
  | ((with_reducible refine' r_low1 ?k1 ?_); (case k1 => walk_at "side"))
  | ((with_reducible refine' r_newL ?k1 ?_); (case k1 => walk_at "side"))
  | ((with_reducible refine' r_newT ?k1 ?_); (case k1 => walk_at "side"))
  | ((with_reducible refine r_asg ?_))
  | ((with_reducible refine r_gName ?_))
  | ((with_reducible refine r_sub ?_))
  | ((with_reducible refine' r_I ?k1 ?_); (case k1 => walk_at "side"))
  | ((with_reducible refine' r_lenS ?k1 ?_); (case k1 => walk_at "side"))
  | ((with_reducible refine' r_addS ?k1 ?_); (case k1 => walk_at "side"))
  | ((with_reducible refine r_iteT ?_))
  | ((with_reducible refine r_iteF ?_))
  | ((with_reducible refine r_iteNT ?_))
  | ((with_reducible refine r_iteNF ?_))
  | ((with_reducible refine' r_iteDp ?k1 ?_); (case k1 => walk_at "side"))
  | ((with_reducible refine' r_iteDn ?k1 ?_); (case k1 => walk_at "side"))
  | ((with_reducible refine' r_iteNp ?k1 ?_); (case k1 => walk_at "side"))
  | ((with_reducible refine' r_iteNn ?k1 ?_); (case k1 => walk_at "side"))
  | ((with_reducible refine' r_iList1 ?k1 ?k2 ?_); (case k2 => walk_at "trL"))
  | ((with_reducible refine' r_iTup1 ?k1 ?k2 ?_); (case k2 => walk_at "trT"))
  | ((with_reducible refine' r_iRng11 ?k1 ?_); (case k1 => walk_at "side"))
  | ((with_reducible refine' r_iRng21 ?k1 ?_); (case k1 => walk_at "side"))
  | ((with_reducible refine' r_ixL ?k1 ?k2 ?_); (case k1 => walk_at "trL"); (case k2 => with_unfolding_all rfl))
  | ((with_reducible refine' r_ixT ?k1 ?k2 ?_); (case k1 => walk_at "trT"); (case k2 => with_unfolding_all rfl))
  | ((with_reducible refine' r_lenT ?k1 ?_); (case k1 => walk_at "trT"))
  | ((with_reducible refine' r_lenL ?k1 ?_); (case k1 => walk_at "trL"))
  | ((with_reducible refine' r_slS ?k1 ?_); (case k1 => walk_at "side"))
  | ((with_reducible refine' r_isiBt ?k1 ?_); (case k1 => decide +kernel))
  | ((with_reducible refine' r_isiBf ?k1 ?_); (case k1 => decide +kernel))
  | ((with_reducible refine' r_isiIt ?k1 ?_); (case k1 => decide +kernel))
  | ((with_reducible refine' r_isiIf ?k1 ?_); (case k1 => decide +kernel))
  | ((with_reducible refine' r_isiSt ?k1 ?_); (case k1 => decide +kernel))
  | ((with_reducible refine' r_isiSf ?k1 ?_); (case k1 => decide +kernel))
  | ((with_reducible refine' r_isiTt ?k1 ?k2 ?_); (case k1 => walk_at "trT"); (case k2 => decide +kernel))
  | ((with_reducible refine' r_isiTf ?k1 ?k2 ?_); (case k1 => walk_at "trT"); (case k2 => decide +kernel))
  | ((with_reducible refine r_yes ?_))
  | ((with_reducible refine r_lc ?_))
  | ((with_reducible refine r_endsW ?_))
  | ((with_reducible refine r_split ?_))
  | ((with_reducible refine r_join ?_))
  | ((with_reducible refine r_revL ?_))
  | ((with_reducible refine' r_revL1 ?k1 ?_); (case k1 => walk_at "trL"))
  | ((with_reducible refine' r_backT ?k1 ?_); (case k1 => walk_at "trT"))
  | ((with_reducible refine r_strAnd ?_))
  | ((with_reducible refine r_asc ?_))
  | ((with_reducible refine r_asc1 ?_))
  | ((with_reducible refine r_two ?_))
  | ((with_reducible refine r_fnS ?_))
  | ((with_reducible refine r_raise ?_))
  | ((with_reducible refine r_isN ?_))
  | ((with_reducible refine r_notN ?_))
  | ((with_reducible refine r_tryAs ?_))
  | ((with_reducible refine r_find ?_))
  | ((with_reducible refine r_gFor ?_))
  | ((with_reducible refine' r_gYield ?k1 ?_); (case k1 => walk_at "side"))
  | ((with_reducible refine r_gNil ?_))
  | ((with_reducible refine r_gSeq ?_))
  | ((with_reducible refine r_gPlain ?_))
  | ((with_reducible refine r_listGen ?_))
  | ((with_reducible refine r_iZip ?_))
  | ((with_reducible refine r_gCons ?_))
  | ((with_reducible refine r_gNil2 ?_))
  | ((with_reducible refine' r_aug ?k1 ?_); (case k1 => with_unfolding_all rfl))
  | ((with_reducible refine r_ipI ?_))
  | ((with_reducible refine r_min2 ?_))
  | ((with_reducible refine r_max2 ?_))
  | ((with_reducible refine r_fld ?_))
  | ((with_reducible refine r_sFld ?_))
  | ((with_reducible refine r_aFld ?_))
  | ((with_reducible refine r_mth ?_))
  | ((with_reducible refine r_mkC ?_))
  | ((with_reducible refine r_prp ?_))
  | ((with_reducible refine r_fnK ?_))
  | ((with_reducible refine r_revR ?_))
  | ((with_reducible refine' r_revR1 ?k1 ?_); (case k1 => walk_at "side"))
  | ((with_reducible refine r_andB ?_))
  | ((with_reducible refine r_pow18 ?_))
  | ((with_reducible refine r_abs ?_))
  | ((with_reducible refine r_ord ?_))
  | ((with_reducible refine' r_rep ?k1 ?k2 ?k3 ?_); (case k1 => walk_at "side"); (case k2 => walk_at "side"); (case k3 => walk_at "side"))
  | ((with_reducible refine r_mthX ?_))
  | ((with_reducible refine r_fnP ?_))
  | ((with_reducible refine r_fnSE ?_))
  | ((with_reducible refine r_raiseE ?_))
  | ((with_reducible refine r_maxLen ?_))
  | ((with_reducible refine r_tryO ?_))
  | ((with_reducible refine r_dnget2 ?_))
  | ((with_reducible refine r_dnput ?_))
  | ((with_reducible refine r_itemsN ?_))
  | ((with_reducible refine r_pow4 ?_))
  | ((with_reducible refine r_bm0 ?_)))
local macro_rules | `(tactic| walk_at "rd") => `(tactic| repeat walk_at "rd1")
local macro_rules | `(tactic| walk_at "en") => `(tactic| ((try dsimp only [nox_K, cx_K, gcx_K, nox_P, nox_w, cx_P, cx_w]); walk_at "rd"))
local macro_rules | `(tactic| walk_at "sp") => `(tactic| first
  | with_reducible refine r_iteD ?_ ?_
  | with_reducible refine r_iteN ?_ ?_
  | with_reducible refine r_ite ?_ ?_)
def topS (i : Nat) : Stmt := PySem.Challenge.pw_provenames_k36_received_sets_live_until.main.body.getD i (.Pass ⟨0, 0, 0, 0⟩)
abbrev s_Received___init__ : Stmt := inClass (topS 1) 0
theorem sc_Received___init__ : FnScope ["self"] ["self"] (defScope s_Received___init__) := ⟨rfl, rfl, rfl, by decide +kernel, rfl, by decide +kernel, by decide +kernel⟩
abbrev s_Received_take : Stmt := inClass (topS 1) 1
theorem sc_Received_take : FnScope ["self", "signed_set", "time", "record_set", "signatures", "end"] ["self", "signed_set", "time"] (defScope s_Received_take) := ⟨rfl, rfl, rfl, by decide +kernel, rfl, by decide +kernel, by decide +kernel⟩
abbrev s_Received_live : Stmt := inClass (topS 1) 2
theorem sc_Received_live : FnScope ["self", "time", "signed_set", "end"] ["self", "time"] (defScope s_Received_live) := ⟨rfl, rfl, rfl, by decide +kernel, rfl, by decide +kernel, by decide +kernel⟩
abbrev s_Received___len__ : Stmt := inClass (topS 1) 3
theorem sc_Received___len__ : FnScope ["self"] ["self"] (defScope s_Received___len__) := ⟨rfl, rfl, rfl, by decide +kernel, rfl, by decide +kernel, by decide +kernel⟩
abbrev s__law_cell : Stmt := topS 3
theorem sc__law_cell : FnScope ["script", "k"] ["script", "k"] (defScope s__law_cell) := ⟨rfl, rfl, rfl, by decide +kernel, rfl, by decide +kernel, by decide +kernel⟩
abbrev s__law_draws : Stmt := topS 4
theorem sc__law_draws : FnScope ["cell", "count", "rest", "by_digits", "draws", "k", "mixed"] ["cell", "count"] (defScope s__law_draws) := ⟨rfl, rfl, rfl, by decide +kernel, rfl, by decide +kernel, by decide +kernel⟩
abbrev s__law_word : Stmt := topS 5
theorem sc__law_word : FnScope ["cell", "draw"] ["cell", "draw"] (defScope s__law_word) := ⟨rfl, rfl, rfl, by decide +kernel, rfl, by decide +kernel, by decide +kernel⟩
abbrev s__law_label : Stmt := topS 6
theorem sc__law_label : FnScope ["code", "chars", "label", "k"] ["code"] (defScope s__law_label) := ⟨rfl, rfl, rfl, by decide +kernel, rfl, by decide +kernel, by decide +kernel⟩
abbrev s__law_name : Stmt := topS 7
theorem sc__law_name : FnScope ["first", "second", "name"] ["first", "second"] (defScope s__law_name) := ⟨rfl, rfl, rfl, by decide +kernel, rfl, by decide +kernel, by decide +kernel⟩
abbrev s__law_values : Stmt := topS 8
theorem sc__law_values : FnScope ["kind", "word", "name", "draw"] ["kind", "word", "name", "draw"] (defScope s__law_values) := ⟨rfl, rfl, rfl, by decide +kernel, rfl, by decide +kernel, by decide +kernel⟩
abbrev s__law_signed_set : Stmt := topS 9
theorem sc__law_signed_set : FnScope ["cell", "draws", "kinds", "kind", "name", "other", "word", "ttl", "count", "signatures", "k"] ["cell"] (defScope s__law_signed_set) := ⟨rfl, rfl, rfl, by decide +kernel, rfl, by decide +kernel, by decide +kernel⟩
abbrev s__law_variant : Stmt := topS 10
theorem sc__law_variant : FnScope ["signed_set", "variant", "record_set", "signatures"] ["signed_set", "variant"] (defScope s__law_variant) := ⟨rfl, rfl, rfl, by decide +kernel, rfl, by decide +kernel, by decide +kernel⟩
abbrev s__law_take : Stmt := topS 11
theorem sc__law_take : FnScope ["rows", "signed_set", "time", "end", "row"] ["rows", "signed_set", "time"] (defScope s__law_take) := ⟨rfl, rfl, rfl, by decide +kernel, rfl, by decide +kernel, by decide +kernel⟩
abbrev s__law_moment : Stmt := topS 12
theorem sc__law_moment : FnScope ["rows", "cell", "draw", "moment"] ["rows", "cell", "draw"] (defScope s__law_moment) := ⟨rfl, rfl, rfl, by decide +kernel, rfl, by decide +kernel, by decide +kernel⟩
abbrev s__law_holds : Stmt := topS 13
theorem sc__law_holds : FnScope ["received", "rows", "time", "due", "row", "k", "actual", "j"] ["received", "rows", "time"] (defScope s__law_holds) := ⟨rfl, rfl, rfl, by decide +kernel, rfl, by decide +kernel, by decide +kernel⟩
abbrev s_law : Stmt := topS 14
theorem sc_law : FnScope ["script", "first", "header", "pool", "k", "stores", "models", "record_set", "signed_set", "cell", "draws", "which", "time", "at"] ["script"] (defScope s_law) := ⟨rfl, rfl, rfl, by decide +kernel, rfl, by decide +kernel, by decide +kernel⟩
structure Txt (K : PySem.W.Frag) (mg : Str → Option Value) where
  m_abs : mg "abs" = none
  m_int : mg "int" = none
  m_isinstance : mg "isinstance" = none
  m_len : mg "len" = none
  m_list : mg "list" = none
  m_max : mg "max" = none
  m_min : mg "min" = none
  m_range : mg "range" = none
  m_str : mg "str" = none
  m_tuple : mg "tuple" = none
  d__law_cell : Def1 K mg "_law_cell" ["script", "k"] s__law_cell
  d__law_draws : Def1 K mg "_law_draws" ["cell", "count"] s__law_draws
  d__law_word : Def1 K mg "_law_word" ["cell", "draw"] s__law_word
  d__law_label : Def1 K mg "_law_label" ["code"] s__law_label
  d__law_name : Def1 K mg "_law_name" ["first", "second"] s__law_name
  d__law_values : Def1 K mg "_law_values" ["kind", "word", "name", "draw"] s__law_values
  d__law_signed_set : Def1 K mg "_law_signed_set" ["cell"] s__law_signed_set
  d__law_variant : Def1 K mg "_law_variant" ["signed_set", "variant"] s__law_variant
  d__law_take : Def1 K mg "_law_take" ["rows", "signed_set", "time"] s__law_take
  d__law_moment : Def1 K mg "_law_moment" ["rows", "cell", "draw"] s__law_moment
  d__law_holds : Def1 K mg "_law_holds" ["received", "rows", "time"] s__law_holds
  d_law : Def1 K mg "law" ["script"] s_law
  a_Received : Addr
  g_Received : mg "Received" = some (.ref a_Received)
  cl_Received : Cls K a_Received
  n_Received__ends : NoAttr K a_Received "_ends"
  d_Received___init__ : DefI K a_Received "Received.__init__" ["self"] s_Received___init__
  d_Received_take : DefM K a_Received "take" "Received.take" ["self", "signed_set", "time"] s_Received_take
  d_Received_live : DefM K a_Received "live" "Received.live" ["self", "time"] s_Received_live
  d_Received___len__ : DefM K a_Received "__len__" "Received.__len__" ["self"] s_Received___len__
section
variable {P : Program} {w : World} {K : PySem.W.Frag} {mg : Str → Option Value} {base : Heap}
/-! ### the store -/
def rcF (d : Addr) : List (Str × V) := [("_ends", .ref d)]
theorem rc_ends (d : Addr) : (rcF d).lookup ("_ends" : Str) = some (.ref d) := look_same _ _ _
def RcAt (P : Program) (w : World) (K : PySem.W.Frag) (C : Addr) (H : Hp) (r d : Addr) (L : List DRow) : Prop := (∃ dx, H r = some (.ins C dx (rcF d))) ∧ DN P w K H d L ∧ r ≠ d
theorem ok_Received___init__ (T : Txt K mg) : FnI P w K mg base CX0 1 T.a_Received ["self"] (fun vs H Q _ => ∃ (x dx : Addr), vs = [.ref x] ∧ H x = some (.ins T.a_Received dx []) ∧ ∀ H' d, But x H H' → H d = none → RcAt P w K T.a_Received H' x d [] → Q .non H') := by
  refine T.d_Received___init__.ok sc_Received___init__ (by rintro vs H Q E ⟨_, _, rfl, _⟩; rfl) (fun f cdv A outer s H vs Q E hr h => ?_)
  obtain ⟨x, dx, rfl, hx, q⟩ := h
  refine ⟨_, (pss_one (ps_fld (pv 0) pe_dnew rfl)), ?_⟩
  walk_at "en"
  refine r_dnew (K := K) fun d H1 n1 e1 hd => ?_
  walk_at "rd"
  refine r_sFld1 (e1 _ _ hx) T.cl_Received T.n_Received__ends (by decide) fun H2 b2 h2 => ?_
  walk_at "rd"
  have xd : x ≠ d := by rintro rfl; rw [n1] at hx; cases hx
  exact q _ d (But.pre e1 b2) n1 ⟨⟨dx, h2⟩, hd.but b2 xd.symm (noTup_i (e1 _ _ hx)), xd⟩
/-! ### signed sets as data -/
def ssD (n : PyData) (κ : Str) (t : Int) (vs : PyData) (sg : List PyData) : PyData := .tuple [.tuple [n, .str κ, .int t, vs], .tuple sg]
theorem dpAll1 {H : Hp} {vs : List V} {d : PyData} (h : DpAll K H vs [d]) : ∃ v, vs = [v] ∧ Dp K H v d := by
  cases h with
  | cons h1 h2 => cases h2; exact ⟨_, rfl, h1⟩
theorem dpAll2 {H : Hp} {vs : List V} {d e : PyData} (h : DpAll K H vs [d, e]) : ∃ v u, vs = [v, u] ∧ Dp K H v d ∧ Dp K H u e := by
  cases h with
  | cons h1 h2 =>
    obtain ⟨u, rfl, h3⟩ := dpAll1 h2
    exact ⟨_, u, rfl, h1, h3⟩
theorem dpAll4 {H : Hp} {vs : List V} {a b c d : PyData} (h : DpAll K H vs [a, b, c, d]) : ∃ v u x y, vs = [v, u, x, y] ∧ Dp K H v a ∧ Dp K H u b ∧ Dp K H x c ∧ Dp K H y d := by
  cases h with
  | cons h1 h2 =>
    cases h2 with
    | cons h2 h3 =>
      obtain ⟨x, y, rfl, h4, h5⟩ := dpAll2 h3
      exact ⟨_, _, x, y, rfl, h1, h2, h4, h5⟩
theorem ss_at {H : Hp} {a : Addr} {n vs : PyData} {κ : Str} {t : Int} {sg : List PyData} (h : Dp K H (.ref a) (ssD n κ t vs sg)) : ∃ ar ag vn vv gs, SqT K H a [.ref ar, .ref ag] ∧ SqT K H ar [vn, .str κ, .int t, vv] ∧ SqT K H ag gs ∧ DpAll K H gs sg ∧ Dp K H vn n ∧ Dp K H vv vs ∧ Dp K H (.ref ar) (.tuple [n, .str κ, .int t, vs]) ∧ Dp K H (.ref ag) (.tuple sg) := by
  obtain ⟨_, e, us, h1, h2⟩ := dp_pt h
  cases e
  obtain ⟨v, u, rfl, h3, h4⟩ := dpAll2 h2
  obtain ⟨ar, rfl, us, h5, h6⟩ := dp_pt h3
  obtain ⟨ag, rfl, gs, h7, h8⟩ := dp_pt h4
  obtain ⟨x1, x2, x3, x4, rfl, y1, y2, y3, y4⟩ := dpAll4 h6
  cases y2
  cases y3
  exact ⟨ar, ag, x1, x4, gs, h1, h5, h7, h8, y1, y4, h3, h4⟩
def AllI (L : List DRow) : Prop := ∀ r ∈ L, ∃ e : Int, r.2.2 = .int e
def endOf (r : DRow) : Int := match r.2.2 with
  | .int e => e
  | _ => 0
def iget (L : List DRow) (d : PyData) (e : Int) : Int := match dget L d with
  | some (.int x) => x
  | _ => e
theorem iget_is {L : List DRow} (h : AllI L) (d : PyData) (e : Int) : (dget L d).getD (.int e) = .int (iget L d e) := by
  unfold iget
  cases hd : dget L d with
  | none => rfl
  | some v =>
    unfold dget at hd
    obtain ⟨r, hr, rfl⟩ := Option.map_eq_some_iff.mp hd
    obtain ⟨x, hx⟩ := h r (List.mem_of_find?_eq_some hr)
    rw [hx]
    rfl
def takeL (L : List DRow) (d : PyData) (a : Addr) (e : Int) : List DRow := dput L d a (.int (if iget L d e > e then iget L d e else e))
theorem ok_Received_take (T : Txt K mg) : FnM P w K mg base CX0 1 T.a_Received "take" ["self", "signed_set", "time"] (fun vs H Q _ => ∃ (r d a : Addr) (L : List DRow) (n v : PyData) (κ : Str) (t e : Int) (sg : List PyData), vs = [.ref r, .ref a, .int e] ∧ RcAt P w K T.a_Received H r d L ∧ L.length ≤ 1000 ∧ AllI L ∧ KeyAt K H a (ssD n κ t v sg) ∧
    (sg = [] → Q .non H) ∧ (sg ≠ [] → ∀ H', But d H H' → RcAt P w K T.a_Received H' r d (takeL L (ssD n κ t v sg) a (e + t)) → Q .non H')) := by
  refine T.d_Received_take.ok sc_Received_take (by rintro vs H Q E ⟨_, _, _, _, _, _, _, _, _, _, rfl, _⟩; rfl) (fun f cdv A outer s H vs Q E hr h => ?_)
  obtain ⟨r, d, a, L, n, v, κ, t, e, sg, rfl, ⟨⟨dx, hx⟩, hd, rd⟩, hl, hi, ka, q1, q2⟩ := h
  obtain ⟨ar, ag, vn, vv, gs, h1, h2, h3, h4⟩ := ss_at ka.1
  refine ⟨_, (pss_cons (ps_asg (pv 1) (pg_tup (by rfl) (pgs_cons (pg_name (i := 3) sc_Received_take.nd rfl (.inl rfl)) (pgs_cons (pg_name (i := 4) sc_Received_take.nd rfl (.inl rfl)) pgs_nil))))
  (pss_cons (ps_if (pt_cmpR op_eq (pe_callB cLenQ (by rfl) T.m_len PySem.boot_len (pa_cons (pv 4) pa_nil)) pe_int (nomark _))
  (pss_one ps_retN)
  pss_nil)
  (pss_cons (ps_set (i := 5) sc_Received_take.nd rfl (by first | exact .inl rfl | exact .inr rfl) (pe_op op_add (pv 2) (pe_ix ix_tup (pv 3) pe_int (fun _ _ => rfl))))
  (pss_one (ps_dnput hr.units (pe_fld (pv 0) rfl) (pv 1) (pe_callB (cMax2 rfl) (by rfl) T.m_max (by decide +kernel) (pa_cons (pv 5) (pa_cons (pe_dnget2 hr.units (pe_fld (pv 0) rfl) (pv 1) (pv 5) ⟨by rfl, by rfl, by rfl, by rfl⟩) pa_nil))) (by rfl)))))), ?_⟩
  have hlen : gs.length = sg.length := dpAll_len h4.1
  walk_at "en"
  refine r_gTup2 h1 ?_
  walk_at "rd"
  walk_at "sp" <;> intro hg
  · walk_at "rd"
    exact q1 (List.length_eq_zero_iff.mp (by omega))
  · have hne : sg ≠ [] := by rintro rfl; have : gs.length = 0 := hlen; omega
    walk_at "rd"
    refine r_fld1 hx T.cl_Received T.n_Received__ends (rc_ends d) ?_
    refine r_dis hd ?_
    walk_at "rd"
    refine r_dget2 hd ka ?_
    rw [iget_is hi]
    walk_at "rd"
    refine r_fld1 hx T.cl_Received T.n_Received__ends (rc_ends d) ?_
    walk_at "rd"
    refine r_dput hd ka (by omega) fun H1 b1 hd1 => ?_
    exact q2 hne H1 b1 ⟨⟨dx, b1 _ _ rd hx⟩, hd1, rd⟩
theorem ok_Received___len__ (T : Txt K mg) : FnM P w K mg base CX0 1 T.a_Received "__len__" ["self"] (fun vs H Q _ => ∃ (r d : Addr) (L : List DRow), vs = [.ref r] ∧ RcAt P w K T.a_Received H r d L ∧ Q (.int (L.length : Nat)) H) := by
  refine T.d_Received___len__.ok sc_Received___len__ (by rintro vs H Q E ⟨_, _, _, rfl, _⟩; rfl) (fun f cdv A outer s H vs Q E hr h => ?_)
  obtain ⟨r, d, L, rfl, ⟨⟨dx, hx⟩, hd, rd⟩, k⟩ := h
  refine ⟨_, (pss_one (ps_ret (pe_callB cr_lenN (by rfl) T.m_len PySem.boot_len (pa_cons (pe_fld (pv 0) rfl) pa_nil)))), ?_⟩
  walk_at "en"
  refine r_fld1 hx T.cl_Received T.n_Received__ends (rc_ends d) ?_
  walk_at "rd"
  exact r_lenN hd k
def liveL (L : List DRow) (t : Int) : List DRow := L.filter fun r => decide (t ≤ endOf r)
theorem ok_Received_live (T : Txt K mg) : FnM P w K mg base CX0 1 T.a_Received "live" ["self", "time"] (fun vs H Q _ => ∃ (r d : Addr) (L : List DRow) (t : Int), vs = [.ref r, .int t] ∧ RcAt P w K T.a_Received H r d L ∧ L.length ≤ 1000 ∧ AllI L ∧ ∀ p H', H p = none → Same H H' → H' p = some (.lst ((liveL L t).map fun x => .ref x.2.1)) → Q (.ref p) H') := by
  refine T.d_Received_live.ok sc_Received_live (by rintro vs H Q E ⟨_, _, _, _, rfl, _⟩; rfl) (fun f cdv A outer s H vs Q E hr h => ?_)
  obtain ⟨r, d, L, t, rfl, ⟨⟨dx, hx⟩, hd, rd⟩, hl, hi, k⟩ := h
  refine ⟨_, (pss_one (ps_ret (pe_lock (pe_lc (own := [("signed_set", 2), ("end", 3)]) (g := (gTup K 2 (gCons (gName 2) (gCons (gName 3) gNil)))) rfl sc_Received_live.nd (pi_itemsN (pe_fld (pv 0) rfl)) (blkOk_by (N := ["self", "time", "signed_set", "end"]) (sc := defScope s_Received_live) (by decide +kernel)) (fun _ _ _ _ _ => (pg_kTup (K := K) rfl (by rfl) (pgs_cons (pg_name (i := 2) sc_Received_live.nd rfl (Or.inl rfl)) (pgs_cons (pg_name (i := 3) sc_Received_live.nd rfl (Or.inl rfl)) pgs_nil)))) (fun _ _ _ _ _ => (pts_one (pt_cmpR op_le (pv 1) (pv 3) (nomark _)))) (fun _ _ _ _ _ => (pv 2)))))), ?_⟩
  walk_at "en"
  refine hd.lock fun od H1 b1 h1 => ?_
  walk_at "rd"
  have hx1 := b1 _ _ rd hx
  refine r_fld1 hx1 T.cl_Received T.n_Received__ends (rc_ends d) ?_
  refine r_itemsN1 h1 ?_
  refine lcN (fun D i H' => H1 D = none ∧ Same H1 H' ∧ H' D = some (.lst ((liveL (L.take i) t).map fun x => .ref x.2.1))) (fun D H2 n2 e2 hD => ⟨n2, e2, hD⟩) (fun D i H' _ ⟨_, e2, _⟩ => e2 _ _ h1) ?_ ?_
  · rintro D i x Tt H' H2 hi2 ⟨n2, e2, hD⟩ n3 e3 hT
    obtain ⟨e, he⟩ := hi x (List.mem_of_getElem? hi2)
    have hz : (liveL (L.take i) t).length ≤ 1000 := by
      unfold liveL
      have := List.length_filter_le (fun r => decide (t ≤ endOf r)) (L.take i)
      rw [List.length_take] at this
      omega
    have step : liveL (L.take (i + 1)) t = liveL (L.take i) t ++ (if t ≤ e then [x] else []) := by
      unfold liveL
      rw [List.take_add_one, hi2, List.filter_append]
      congr 1
      have ee : endOf x = e := by unfold endOf; rw [he]
      by_cases c : t ≤ e
      · simp [c, ee]
      · simp [c, ee]
    refine r_gTup2 (SqT.of hT) ?_
    rw [he]
    walk_at "rd"
    refine ⟨rfl, ?_⟩
    walk_at "rd"
    walk_at "sp" <;> intro c
    · walk_at "rd"
      refine r_yield (e3 _ _ hD) (by rw [List.length_map]; omega) fun H4 b4 h4 => ?_
      exact ⟨n2, same_but (e2.trans e3) b4 n2, by rw [h4, step, if_pos c, List.map_append]; rfl⟩
    · walk_at "rd"
      exact ⟨n2, e2.trans e3, by rw [step, if_neg c, List.append_nil]; exact e3 _ _ hD⟩
  · rintro D H2 ⟨n2, e2, hD⟩
    rw [List.take_length] at hD
    have nD : D ≠ d := by rintro rfl; rw [n2] at h1; cases h1
    refine ⟨e2 _ _ h1, k D _ (but_fresh b1 nD n2) (unlock_same hd.1 b1 e2) ?_⟩
    rw [upd_ne nD]
    exact hD

theorem ok__law_cell (T : Txt K mg) : Fn P w K mg base 1 "_law_cell" ["script", "k"] (spCell K) := by
  refine T.d__law_cell.ok sc__law_cell (by rintro vs H Q E ⟨_, _, _, rfl, _⟩; rfl) (fun f cdv A outer s H vs Q E hr h => ?_)
  obtain ⟨l, ns, n, rfl, hL, hlen, h0, h1, k⟩ := h
  refine ⟨_, (pss_cons (ps_if (pt_cmpR op_lt (pv 1) (pe_callB cLenQ (by rfl) T.m_len PySem.boot_len (pa_cons (pv 0) pa_nil)) (nomark _))
  (pss_one (ps_ret (pe_callTy cInt (by rfl) T.m_int (by decide +kernel) (pa_cons (pe_ix ix_list (pv 0) (pv 1) (fun _ _ => rfl)) pa_nil))))
  pss_nil)
  (pss_one (ps_ret pe_int))), ?_⟩
  walk_at "en"
  walk_at "sp" <;> intro hn
  · walk_at "rd"
    obtain ⟨v, hv, ha, _⟩ := atI_in (xs := ns.map V.int) h0 hn
    obtain ⟨c, _, rfl⟩ := List.mem_map.mp hv
    refine r_ixL hL ha ?_
    walk_at "rd"
    exact k c
  · walk_at "rd"
    exact k _
def Drw (ds : List Int) : Prop := ∀ d ∈ ds, 0 ≤ d ∧ d < 10000
def spDrw (K : PySem.W.Frag) : Sp := fun vs H Q _ => ∃ (c : Int) (n : Nat), vs = [.int c, .int (n : Nat)] ∧ n ≤ 100 ∧ ∀ (H' : Hp) (p : Addr) (ds : List Int), H p = none → Same H H' → H' p = some (.lst (ds.map V.int)) → ds.length = n → Drw ds → Q (.ref p) H'
theorem ok__law_draws (T : Txt K mg) : Fn P w K mg base 1 "_law_draws" ["cell", "count"] (spDrw K) := by
  refine T.d__law_draws.ok sc__law_draws (by rintro vs H Q E ⟨_, _, rfl, _⟩; rfl) (fun f cdv A outer s H vs Q E hr h => ?_)
  obtain ⟨c, n, rfl, hn, k⟩ := h
  refine ⟨_, (pss_cons (ps_set (i := 2) sc__law_draws.nd rfl (by first | exact .inl rfl | exact .inr rfl) (pe_callB cr_abs (by rfl) T.m_abs (by decide +kernel) (pa_cons (pe_callTy cInt (by rfl) T.m_int (by decide +kernel) (pa_cons (pv 0) pa_nil)) pa_nil)))
  (pss_cons (ps_set (i := 3) sc__law_draws.nd rfl (by first | exact .inl rfl | exact .inr rfl) (pe_cmpR op_ge (pv 2) (pe_op oPow18 pe_int pe_int) (nomark _)))
  (pss_cons (ps_set (i := 4) sc__law_draws.nd rfl (by first | exact .inl rfl | exact .inr rfl) (pe_lst pa_nil))
  (pss_cons (ps_for PassesOwn.never rfl (pi_range1 rfl T.m_range (pa_cons (pv 1) pa_nil)) (pg_name (i := 5) sc__law_draws.nd rfl (.inl rfl))
  (pss_one (ps_if (PW.pt (pw_and (pt_val (pv 3)) (pw_and1 (pt_cmpR op_gt (pv 2) pe_int (nomark _)))))
  (pss_cons (ps_expr (pe_bm PySem.F.plainAttrs_list PySem.F.slot_list_append PySem.F.type_list_append mt_append (pv 4) (pa_cons (pe_op op_mod (pv 2) (pe_op oPow4 pe_int pe_int)) pa_nil)))
  (pss_one (ps_set (i := 2) sc__law_draws.nd rfl (by first | exact .inl rfl | exact .inr rfl) (pe_op oDivB (pv 2) (pe_op oPow4 pe_int pe_int)))))
  (pss_cons (ps_set (i := 6) sc__law_draws.nd rfl (by first | exact .inl rfl | exact .inr rfl) (pe_op op_mod (pe_callTy cInt (by rfl) T.m_int (by decide +kernel) (pa_cons (pe_op op_add (pe_op op_add (pe_op op_mul (pe_callTy cInt (by rfl) T.m_int (by decide +kernel) (pa_cons (pv 0) pa_nil)) pe_int) (pe_op op_mul (pv 5) pe_int)) pe_int) pa_nil)) pe_int))
  (pss_one (ps_expr (pe_bm PySem.F.plainAttrs_list PySem.F.slot_list_append PySem.F.type_list_append mt_append (pv 4) (pa_cons (pe_op op_mod (pe_op op_mod (pe_callTy cInt (by rfl) T.m_int (by decide +kernel) (pa_cons (pe_op op_add (pe_op op_add (pe_op op_mul (pv 6) (pv 6)) (pe_op op_mul (pe_op op_mul pe_int (pv 5)) (pv 6))) pe_int) pa_nil)) pe_int) (pe_op oPow4 pe_int pe_int)) pa_nil))))))))
  (pss_one (ps_ret (pv 4))))))), ?_⟩
  walk_at "en"
  intro p H1 n1 e1 hp
  walk_at "rd"
  have app : ∀ (ds : List Int) (x : Int), Drw ds → Drw (ds ++ [x % 10000]) := fun ds x h d hd => by
    rcases List.mem_append.mp hd with hd | hd
    · exact h d hd
    · rw [List.mem_singleton.mp hd]
      exact ⟨Int.emod_nonneg _ (by decide), Int.emod_lt_of_pos _ (by decide)⟩
  refine loopR (fun i σ' H' => ∃ (r : Int) (b : Bool) (v v' : Option V) (ds : List Int), σ' = [some (.int c), some (.int n), some (.int r), some (.bl b), some (.ref p), v, v'] ∧ Same H H' ∧ H' p = some (.lst (ds.map V.int)) ∧ ds.length = i ∧ Drw ds) ⟨_, _, _, _, [], rfl, e1, hp, rfl, by intro d hd; cases hd⟩ ?_ ?_
  · rintro i σ' H' hi ⟨r, b, v, v', ds, rfl, e, hp', hl, hd⟩
    have hi : i < n := by simpa using hi
    have hz2 : (0 : Int) + (i : Nat) = (i : Nat) := by omega
    rw [hz2]
    walk_at "rd"
    cases b with
    | false =>
      walk_at "rd"
      refine r_append hp' ?_
      walk_at "rd"
      refine r_append1 hp' (by rw [List.length_map]; omega) fun H2 b2 h2 => ?_
      exact ⟨_, _, _, _, ds ++ [_], rfl, same_but e b2 n1, by rw [h2, List.map_append]; rfl, by simp [hl], app _ _ hd⟩
    | true =>
    walk_at "rd"
    walk_at "sp" <;> intro h2
    · walk_at "rd"
      refine r_append hp' ?_
      walk_at "rd"
      refine r_append1 hp' (by rw [List.length_map]; omega) fun H2 b2 h2 => ?_
      walk_at "rd"
      exact ⟨_, _, _, _, ds ++ [_], rfl, same_but e b2 n1, by rw [h2, List.map_append]; rfl, by simp [hl], app _ _ hd⟩
    · walk_at "rd"
      refine r_append hp' ?_
      walk_at "rd"
      refine r_append1 hp' (by rw [List.length_map]; omega) fun H2 b2 h2 => ?_
      exact ⟨_, _, _, _, ds ++ [_], rfl, same_but e b2 n1, by rw [h2, List.map_append]; rfl, by simp [hl], app _ _ hd⟩
  · rintro σ' H' ⟨r, b, v, v', ds, rfl, e, hp', hl, hd⟩
    walk_at "rd"
    exact k H' p ds n1 e hp' (by simpa using hl) hd
theorem r_drw {H : Hp} {Q : VK} {c : Int} {n : Nat} (hn : n ≤ 100) (q : ∀ (H' : Hp) (p : Addr) (ds : List Int), H p = none → Same H H' → H' p = some (.lst (ds.map V.int)) → ds.length = n → Drw ds → Q (.ref p) H') : spDrw K [.int c, .int (n : Nat)] H Q E0 := ⟨c, n, rfl, hn, q⟩
/-- one of the draws -/
theorem r_ixW {H : Hp} {Q : VK} {p : Addr} {ds : List Int} {j : Int} (hp : SqL K H p (ds.map V.int)) (hd : Drw ds) (h0 : 0 ≤ j ∧ j < (ds.length : Int)) (q : ∀ d : Int, 0 ≤ d → d < 10000 → Q (.int d) H) : rIxL K (.ref p) (.int j) H Q := by
  obtain ⟨v, hv, ha, _⟩ := atI_in (xs := ds.map V.int) (i := j) h0.1 (by rw [List.length_map]; exact h0.2)
  obtain ⟨d, hm, rfl⟩ := List.mem_map.mp hv
  exact r_ixL hp ha (q d (hd d hm).1 (hd d hm).2)
def Wd (x : Int) : Prop := 0 ≤ x ∧ x ≤ 4294967295
theorem ok__law_word (T : Txt K mg) : Fn P w K mg base 1 "_law_word" ["cell", "draw"] (fun vs H Q _ => ∃ c d : Int, vs = [.int c, .int d] ∧ ∀ x : Int, Wd x → Q (.int x) H) := by
  refine T.d__law_word.ok sc__law_word (by rintro vs H Q E ⟨_, _, rfl, _⟩; rfl) (fun f cdv A outer s H vs Q E hr h => ?_)
  obtain ⟨c, d, rfl, k⟩ := h
  refine ⟨_, (pss_cons (ps_if (pt_cmpR op_eq (pe_op op_mod (pv 1) pe_int) pe_int (nomark _))
  (pss_one (ps_ret pe_int))
  pss_nil)
  (pss_cons (ps_if (pt_cmpR op_eq (pe_op op_mod (pv 1) pe_int) pe_int (nomark _))
  (pss_one (ps_ret pe_int))
  pss_nil)
  (pss_cons (ps_if (pt_cmpR op_eq (pe_op op_mod (pv 1) pe_int) pe_int (nomark _))
  (pss_one (ps_ret (pe_op op_mod (pe_op oDivB (pe_callTy cInt (by rfl) T.m_int (by decide +kernel) (pa_cons (pv 0) pa_nil)) pe_int) pe_int)))
  pss_nil)
  (pss_one (ps_ret (pe_op op_mod (pe_op oDivB (pv 1) pe_int) pe_int)))))), ?_⟩
  walk_at "en"
  walk_at "sp" <;> intro h1
  · walk_at "rd"
    exact k _ ⟨by decide, by decide⟩
  · walk_at "rd"
    walk_at "sp" <;> intro h2
    · walk_at "rd"
      exact k _ ⟨by decide, by decide⟩
    · walk_at "rd"
      walk_at "sp" <;> intro h3
      · walk_at "rd"
        have q1 := Int.emod_nonneg (c / 11) (show (4294967296 : Int) ≠ 0 by decide)
        have q2 := Int.emod_lt_of_pos (c / 11) (show (0 : Int) < 4294967296 by decide)
        exact k _ ⟨by omega, by omega⟩
      · have q1 := Int.emod_nonneg (d / 6) (show (97 : Int) ≠ 0 by decide)
        have q2 := Int.emod_lt_of_pos (d / 6) (show (0 : Int) < 97 by decide)
        walk_at "rd"
        exact k _ ⟨by omega, by omega⟩
theorem CH_asc : Asc CH := by decide +kernel
theorem CH_len : CH.cps.toList.length = 37 := by decide +kernel
theorem CH_len2 : CH.length = 37 := by decide +kernel
theorem CH_at (r : Int) : ∃ ch, ch ∈ CH.cps.toList ∧ atI CH.cps.toList (r % 37) = some ch ∧ ch < 128 := by
  obtain ⟨ch, hch, ha, _⟩ := atI_in (xs := CH.cps.toList) (i := r % 37) (Int.emod_nonneg _ (by decide)) (by rw [CH_len]; exact Int.emod_lt_of_pos _ (by decide))
  exact ⟨ch, hch, ha, CH_asc ch hch⟩
theorem ok__law_label (T : Txt K mg) : Fn P w K mg base 1 "_law_label" ["code"] (fun vs H Q _ => ∃ c : Int, vs = [.int c] ∧ ∀ z : Str, Asc z → z.length ≤ 20 → Q (.str z) H) := by
  refine T.d__law_label.ok sc__law_label (by rintro vs H Q E ⟨_, rfl, _⟩; rfl) (fun f cdv A outer s H vs Q E hr h => ?_)
  obtain ⟨c, rfl, k⟩ := h
  refine ⟨_, (pss_cons (ps_set (i := 1) sc__law_label.nd rfl (by first | exact .inl rfl | exact .inr rfl) pe_str)
  (pss_cons (ps_set (i := 2) sc__law_label.nd rfl (by first | exact .inl rfl | exact .inr rfl) (pe_ix ix_str (pv 1) (pe_op op_mod (pv 0) pe_int) (fun _ _ => rfl)))
  (pss_cons (ps_for PassesOwn.never rfl (pi_range1 rfl T.m_range (pa_cons pe_int pa_nil)) (pg_name (i := 3) sc__law_label.nd rfl (.inl rfl))
  (pss_cons (ps_set (i := 0) sc__law_label.nd rfl (by first | exact .inl rfl | exact .inr rfl) (pe_op oDivB (pv 0) pe_int))
  (pss_cons (ps_if (pt_cmpR op_eq (pv 0) pe_int (nomark _))
  (pss_one (ps_ret (pv 2)))
  pss_nil)
  (pss_one (ps_set (i := 2) sc__law_label.nd rfl (by first | exact .inl rfl | exact .inr rfl) (pe_op oAddS (pv 2) (pe_ix ix_str (pv 1) (pe_op op_mod (pv 0) pe_int) (fun _ _ => rfl))))))))
  (pss_one (ps_ret (pv 2)))))), ?_⟩
  walk_at "en"
  obtain ⟨ch, hch, ha, hc⟩ := CH_at c
  refine r_ixS (by show CH.length ≤ _; rw [CH_len2]; decide) ha ?_
  walk_at "rd"
  refine loopR (fun i σ' H' => ∃ (x : Int) (z : Str) (v : Option V), σ' = [some (.int x), some (.str CH), some (.str z), v] ∧ H = H' ∧ z.length = i + 1 ∧ Asc z) ⟨_, _, _, rfl, rfl, rfl, .one hc⟩ ?_ ?_
  · rintro i σ' H' hi ⟨x, z, v, rfl, rfl, hz, hA⟩
    have hi : i < 19 := by simpa using hi
    walk_at "rd"
    walk_at "sp" <;> intro h1
    · walk_at "rd"
      exact k z hA (by omega)
    · obtain ⟨ch2, hch2, ha2, hc2⟩ := CH_at (x / 37)
      walk_at "rd"
      refine r_ixS (by show CH.length ≤ _; rw [CH_len2]; decide) ha2 ?_
      refine r_addS (by rw [len_one]; omega) ?_
      walk_at "rd"
      exact ⟨_, _, _, rfl, rfl, by rw [len_app, len_one, hz], hA.app (.one hc2)⟩
  · rintro σ' H' ⟨x, z, v, rfl, rfl, hz, hA⟩
    walk_at "rd"
    have hz : z.length = 20 := by simpa using hz
    exact k z hA (by omega)
def NmA (K : PySem.W.Frag) (H : Hp) (a : Addr) (zs : List Str) : Prop := SqT K H a (zs.map V.str) ∧ (∀ z ∈ zs, Asc z) ∧ zs.length ≤ 12
theorem NmA.ex {H H' : Hp} {a : Addr} {zs : List Str} (h : NmA K H a zs) (e : Same H H') : NmA K H' a zs := ⟨ex_t e h.1, h.2⟩
theorem NmA.key {H : Hp} {a : Addr} {zs : List Str} (h : NmA K H a zs) : Dp K H (.ref a) (dT zs) ∧ nameD (dT zs) := ⟨dp_tup h.1, zs, rfl, h.2.1, h.2.2⟩
theorem ok__law_name (T : Txt K mg) : Fn P w K mg base 2 "_law_name" ["first", "second"] (fun vs H Q _ => ∃ c d : Int, vs = [.int c, .int d] ∧ ∀ H' a zs, Same H H' → NmA K H' a zs → Q (.ref a) H') := by
  refine T.d__law_name.ok sc__law_name (by rintro vs H Q E ⟨_, _, rfl, _⟩; rfl) (fun f cdv A outer s H vs Q E hr h => ?_)
  obtain ⟨c, d, rfl, k⟩ := h
  refine ⟨_, (pss_cons (ps_set (i := 2) sc__law_name.nd rfl (by first | exact .inl rfl | exact .inr rfl) (pe_slice sl_tupA (pe_tup (pa_cons (pe_fn (ok__law_label T) hr (by rfl) (pa_cons (pe_op oDivB (pv 0) pe_int) pa_nil)) (pa_cons (pe_fn (ok__law_label T) hr (by rfl) (pa_cons (pe_op oDivB (pv 1) pe_int) pa_nil)) pa_nil))) po_none (po_some (pe_op op_mod (pv 0) pe_int))))
  (pss_cons (ps_if (pt_cmpR op_eq (pe_op op_mod (pv 1) pe_int) pe_int (nomark _))
  (pss_one (ps_ret (pe_op op_catA (pv 2) (pe_tup (pa_cons pe_str pa_nil)))))
  pss_nil)
  (pss_one (ps_ret (pv 2))))), ?_⟩
  walk_at "en"
  refine ⟨_, rfl, fun z1 o1 l1 => ?_⟩
  walk_at "rd"
  refine ⟨_, rfl, fun z2 o2 l2 => ?_⟩
  walk_at "rd"
  intro p H1 n1 e1 hp
  have q1 := Int.emod_nonneg c (show (3 : Int) ≠ 0 by decide)
  walk_at "rd"
  refine r_slA (xs := [z1, z2].map V.str) (SqT.of hp) fun q H2 e2 hq => ?_
  rw [cutV_to q1, ← List.map_take] at hq
  have hA : ∀ z ∈ [z1, z2].take (c % 3).toNat, Asc z := fun z hz => by
    have := List.mem_of_mem_take hz
    simp at this
    rcases this with rfl | rfl
    · exact o1
    · exact o2
  have hl : ([z1, z2].take (c % 3).toNat).length ≤ 2 := by rw [List.length_take]; simp; omega
  walk_at "rd"
  walk_at "sp" <;> intro h1
  · walk_at "rd"
    intro r H3 n3 e3 hr3
    refine r_catA (ex_t e3 hq) (SqT.of hr3) (by rw [List.length_map]; simp; omega) fun t H4 e4 ht => ?_
    refine k H4 t ([z1, z2].take (c % 3).toNat ++ [("*" : Str)]) (((e1.trans e2).trans e3).trans e4) ⟨by rw [List.map_append]; exact ht, fun z hz => ?_, by rw [List.length_append]; simp; omega⟩
    rcases List.mem_append.mp hz with hz | hz
    · exact hA z hz
    · rw [List.mem_singleton.mp hz]; decide +kernel
  · walk_at "rd"
    exact k H2 q _ (e1.trans e2) ⟨hq, hA, by omega⟩

theorem good1 {d : PyData} (h : pureD d = true) (hd : d.depth ≤ 3) : GoodT 3 3 [d] := (GoodT.one h hd).mono (by decide) (by decide)
theorem pt1 {H : Hp} {p : Addr} {v : V} {d : PyData} (h : H p = some (.tup [v])) (hd : Dp K H v d) : PT K H p [d] := ⟨[v], SqT.of h, .cons hd .nil⟩
theorem ok__law_values (T : Txt K mg) : Fn P w K mg base 2 "_law_values" ["kind", "word", "name", "draw"] (fun vs H Q _ => ∃ (κ : Str) (x d : Int) (a : Addr) (zs : List Str), vs = [.str κ, .int x, .ref a, .int d] ∧ Wd x ∧ NmA K H a zs ∧ (0 ≤ d ∧ d < 10000) ∧ ∀ H' p ds, Same H H' → PT K H' p ds → GoodT 3 3 ds → Q (.ref p) H') := by
  refine T.d__law_values.ok sc__law_values (by rintro vs H Q E ⟨_, _, _, _, _, rfl, _⟩; rfl) (fun f cdv A outer s H vs Q E hr h => ?_)
  obtain ⟨κ, x, d, a, zs, rfl, hx, ha, hd, k⟩ := h
  refine ⟨_, (pss_cons (ps_if (pt_cut (PW.pt (pw_or (pt_cmpR op_eq (pv 0) pe_str (nomark _)) (pw_or (pt_cmpR op_eq (pv 0) pe_str (nomark _)) (pw_or1 (pt_cmpR op_eq (pv 0) pe_str (nomark _)))))))
  (pss_cons (ps_if (pt_cut (PW.pt (pw_and (pt_cmpR op_eq (pe_op op_mod (pv 3) pe_int) pe_int (nomark _)) (pw_and1 (pt_cmpR op_lt (pv 1) pe_int (nomark _))))))
  (pss_one (ps_ret (pe_tup (pa_cons (pv 1) (pa_cons (pe_op op_add (pe_op op_add (pv 1) pe_int) (pe_op op_mod (pv 3) pe_int)) pa_nil)))))
  pss_nil)
  (pss_one (ps_ret (pe_tup (pa_cons (pv 1) pa_nil)))))
  pss_nil)
  (pss_cons (ps_if (pt_cmpR op_eq (pv 0) pe_str (nomark _))
  (pss_one (ps_ret (pe_tup (pa_cons (pe_op oAddS (pe_op oAddS (pe_fn (ok__law_label T) hr (by rfl) (pa_cons (pv 3) pa_nil)) pe_str) (pe_callTy cStrI (by rfl) T.m_str (by decide +kernel) (pa_cons (pv 1) pa_nil))) pa_nil))))
  pss_nil)
  (pss_cons (ps_if (pt_cmpR op_eq (pv 0) pe_str (nomark _))
  (pss_one (ps_ret (pe_tup (pa_cons (pe_tup (pa_cons (pe_op op_mod (pe_callTy cInt (by rfl) T.m_int (by decide +kernel) (pa_cons (pv 1) pa_nil)) pe_int) (pa_cons (pv 2) pa_nil))) pa_nil))))
  pss_nil)
  (pss_cons (ps_if (pt_cmpR op_eq (pv 0) pe_str (nomark _))
  (pss_one (ps_ret (pe_tup (pa_cons (pe_tup (pa_cons (pv 1) (pa_cons (pv 3) pa_nil))) pa_nil))))
  pss_nil)
  (pss_cons (ps_if (pt_cmpR op_eq (pv 0) pe_str (nomark _))
  (pss_one (ps_ret (pe_tup (pa_cons (pe_tup (pa_cons (pv 2) (pa_cons (pe_tup (pa_cons pe_str (pa_cons pe_str (pa_cons pe_str pa_nil)))) pa_nil))) pa_nil))))
  pss_nil)
  (pss_one (ps_ret (pe_tup (pa_cons (pv 2) pa_nil))))))))), ?_⟩
  have hn := ha.key
  have hp1 := hn.2.pure
  have word : tRet (tTup (tCons (tVar 1) tNil)) ⟨fun _ H' => Q .non H', Q, fun _ _ => False, fun _ _ => False⟩ [some (.str κ), some (.int x), some (.ref a), some (.int d)] H := by
    walk_at "rd"
    intro p H1 n1 e1 hp
    exact k H1 p [.int x] e1 (pt1 hp (.int x)) (good1 rfl (by simp [PyData.depth]))
  walk_at "en"
  refine r_cutT (fun _ H' => H = H') ?_ ?_
  · walk_at "rd"
    walk_at "sp" <;> intro h1
    · rfl
    · walk_at "rd"
      walk_at "sp" <;> intro h2
      · rfl
      · walk_at "rd"
        rfl
  rintro c H' rfl
  walk_at "sp" <;> intro hc
  · walk_at "rd"
    refine r_cutT (fun _ H' => H = H') ?_ ?_
    · walk_at "rd"
      walk_at "sp" <;> intro h1
      · walk_at "rd"
        rfl
      · rfl
    rintro c2 H' rfl
    walk_at "sp" <;> intro hc2
    · walk_at "rd"
      intro p H1 n1 e1 hp
      exact k H1 p [.int x, .int _] e1 ⟨_, SqT.of hp, .cons (.int x) (.cons (.int _) .nil)⟩ ⟨by simp [pureD, PyData.depth], by simp⟩
    · exact word
  walk_at "rd"
  walk_at "sp" <;> intro h1
  · walk_at "rd"
    refine ⟨_, rfl, fun z o1 l1 => ?_⟩
    have l2 : (" " : Str).length = 1 := rfl
    walk_at "rd"
    refine r_strI ⟨hx.1, by have := hx.2; omega⟩ fun z2 o2 l3 => ?_
    refine r_addS (by rw [len_app]; omega) ?_
    walk_at "rd"
    intro p H1 n1 e1 hp
    have hA : Asc (z ++ (" " : Str) ++ z2) := (o1.app (by decide +kernel)).app o2
    exact k H1 p [.str _] e1 (pt1 hp (.str _)) (good1 (pure_str hA) (by simp [PyData.depth]))
  walk_at "rd"
  walk_at "sp" <;> intro h2
  · walk_at "rd"
    intro p H1 n1 e1 hp
    walk_at "rd"
    intro q H2 n2 e2 hq
    have hq2 : Dp K H2 (.ref p) (.tuple [.int (x % 65536), dT zs]) := .tup (SqT.of (e2 _ _ hp)) (.cons (.int _) (.cons (dp_ex (e1.trans e2) _ _ hn.1) .nil))
    exact k H2 q _ (e1.trans e2) (pt1 hq hq2) (good1 (pure_two rfl hp1.1) (Nat.le_trans (depth_two (n := 1) (by simp [PyData.depth]) hp1.2) (by decide)))
  walk_at "rd"
  walk_at "sp" <;> intro h3
  · walk_at "rd"
    intro p H1 n1 e1 hp
    walk_at "rd"
    intro q H2 n2 e2 hq
    have hq2 : Dp K H2 (.ref p) (.tuple [.int x, .int d]) := .tup (SqT.of (e2 _ _ hp)) (.cons (.int _) (.cons (.int _) .nil))
    exact k H2 q _ (e1.trans e2) (pt1 hq hq2) (good1 (pure_two rfl rfl) (by simp [PyData.depth, PyData.depthAll]))
  walk_at "rd"
  walk_at "sp" <;> intro h4
  · walk_at "rd"
    intro p H1 n1 e1 hp
    walk_at "rd"
    intro q H2 n2 e2 hq
    walk_at "rd"
    intro r H3 n3 e3 hr3
    have hk : Dp K H3 (.ref p) (dT ["address", "server", "gap"]) := dp_tup (SqT.of (e3 _ _ (e2 _ _ hp)))
    have ok : ∀ z ∈ (["address", "server", "gap"] : List Str), Asc z := by decide +kernel
    have hk2 := (show nameD (dT ["address", "server", "gap"]) from ⟨_, rfl, ok, by decide⟩).pure
    have hq2 : Dp K H3 (.ref q) (.tuple [dT zs, dT ["address", "server", "gap"]]) := .tup (SqT.of (e3 _ _ hq)) (.cons (dp_ex ((e1.trans e2).trans e3) _ _ hn.1) (.cons hk .nil))
    exact k H3 r _ ((e1.trans e2).trans e3) (pt1 hr3 hq2) (good1 (pure_two hp1.1 hk2.1) (Nat.le_trans (depth_two (n := 1) hp1.2 hk2.2) (by decide)))
  walk_at "rd"
  intro p H1 n1 e1 hp
  exact k H1 p _ e1 (pt1 hp (dp_ex e1 _ _ hn.1)) (good1 hp1.1 (by have := hp1.2; omega))
/-- a signature, a signed set, as they are drawn here -/
def SgD (d : PyData) : Prop := ∃ (n : PyData) (ws : List Int), d = .tuple (n :: ws.map PyData.int) ∧ pureD n = true ∧ n.depth ≤ 1 ∧ ws.length = 5
theorem SgD.pure {d : PyData} (h : SgD d) : pureD d = true ∧ d.depth ≤ 2 := by
  obtain ⟨n, ws, rfl, h1, h2, h3⟩ := h
  refine pure_list (n := 1) (fun x hx => ?_) (by rw [List.length_cons, List.length_map]; omega)
  rcases List.mem_cons.mp hx with rfl | hx
  · exact ⟨h1, h2⟩
  · obtain ⟨i, _, rfl⟩ := List.mem_map.mp hx
    exact ⟨rfl, by simp [PyData.depth]⟩
def SSd (d : PyData) : Prop := ∃ (n v : PyData) (κ : Str) (t : Int) (sg : List PyData), d = ssD n κ t v sg ∧ (pureD n = true ∧ n.depth ≤ 1) ∧ Asc κ ∧ Wd t ∧ (pureD v = true ∧ v.depth ≤ 4) ∧ (∀ s ∈ sg, SgD s) ∧ sg.length ≤ 20
theorem SSd.pure {d : PyData} (h : SSd d) : pureD d = true ∧ d.depth ≤ 6 := by
  obtain ⟨n, v, κ, t, sg, rfl, hn, hκ, ht, hv, hs, hl⟩ := h
  refine pure_list (n := 5) (fun x hx => ?_) (by simp)
  simp only [List.mem_cons, List.not_mem_nil, or_false] at hx
  rcases hx with rfl | rfl
  · refine pure_list (n := 4) (fun y hy => ?_) (by simp)
    simp only [List.mem_cons, List.not_mem_nil, or_false] at hy
    rcases hy with rfl | rfl | rfl | rfl
    · exact ⟨hn.1, by have := hn.2; omega⟩
    · exact ⟨pure_str hκ, by simp [PyData.depth]⟩
    · exact ⟨rfl, by simp [PyData.depth]⟩
    · exact hv
  · have := pure_list (n := 2) (fun s hs' => (hs s hs').pure) (by omega : sg.length ≤ 10000)
    exact ⟨this.1, by omega⟩
theorem SSd.key {H : Hp} {a : Addr} {d : PyData} (h : SSd d) (hd : Dp K H (.ref a) d) : KeyAt K H a d := ⟨hd, h.pure.1, by have := h.pure.2; omega⟩
theorem ok__law_signed_set (T : Txt K mg) : Fn P w K mg base 3 "_law_signed_set" ["cell"] (fun vs H Q _ => ∃ c : Int, vs = [.int c] ∧ ∀ H' a d, Same H H' → KeyAt K H' a d → SSd d → Q (.ref a) H') := by
  refine T.d__law_signed_set.ok sc__law_signed_set (by rintro vs H Q E ⟨_, rfl, _⟩; rfl) (fun f cdv A outer s H vs Q E hr h => ?_)
  obtain ⟨c, rfl, k⟩ := h
  refine ⟨_, (pss_cons (ps_set (i := 1) sc__law_signed_set.nd rfl (by first | exact .inl rfl | exact .inr rfl) (pe_fn (ok__law_draws T) (hr.mono (by decide)) (by rfl) (pa_cons (pv 0) (pa_cons pe_int pa_nil))))
  (pss_cons (ps_set (i := 2) sc__law_signed_set.nd rfl (by first | exact .inl rfl | exact .inr rfl) (pe_tup (pa_cons pe_str (pa_cons pe_str (pa_cons pe_str (pa_cons pe_str (pa_cons pe_str (pa_cons pe_str (pa_cons pe_str (pa_cons pe_str (pa_cons pe_str pa_nil)))))))))))
  (pss_cons (ps_set (i := 3) sc__law_signed_set.nd rfl (by first | exact .inl rfl | exact .inr rfl) (pe_ix ix_tup (pv 2) (pe_op op_mod (pe_ix ix_list (pv 1) pe_int (fun _ _ => rfl)) pe_int) (fun _ _ => rfl)))
  (pss_cons (ps_set (i := 4) sc__law_signed_set.nd rfl (by first | exact .inl rfl | exact .inr rfl) (pe_fn (ok__law_name T) hr (by rfl) (pa_cons (pe_ix ix_list (pv 1) pe_int (fun _ _ => rfl)) (pa_cons (pe_ix ix_list (pv 1) pe_int (fun _ _ => rfl)) pa_nil))))
  (pss_cons (ps_set (i := 5) sc__law_signed_set.nd rfl (by first | exact .inl rfl | exact .inr rfl) (pe_fn (ok__law_name T) hr (by rfl) (pa_cons (pe_ix ix_list (pv 1) pe_int (fun _ _ => rfl)) (pa_cons (pe_ix ix_list (pv 1) pe_int (fun _ _ => rfl)) pa_nil))))
  (pss_cons (ps_set (i := 6) sc__law_signed_set.nd rfl (by first | exact .inl rfl | exact .inr rfl) (pe_fn (ok__law_word T) (hr.mono (by decide)) (by rfl) (pa_cons (pv 0) (pa_cons (pe_ix ix_list (pv 1) pe_int (fun _ _ => rfl)) pa_nil))))
  (pss_cons (ps_set (i := 7) sc__law_signed_set.nd rfl (by first | exact .inl rfl | exact .inr rfl) (pe_fn (ok__law_word T) (hr.mono (by decide)) (by rfl) (pa_cons (pe_op oDivB (pe_callTy cInt (by rfl) T.m_int (by decide +kernel) (pa_cons (pv 0) pa_nil)) pe_int) (pa_cons (pe_ix ix_list (pv 1) pe_int (fun _ _ => rfl)) pa_nil))))
  (pss_cons (ps_set (i := 8) sc__law_signed_set.nd rfl (by first | exact .inl rfl | exact .inr rfl) (pe_op op_mod (pe_ix ix_list (pv 1) pe_int (fun _ _ => rfl)) pe_int))
  (pss_cut (ps_if (pt_cmpR op_eq (pe_op op_mod (pe_ix ix_list (pv 1) pe_int (fun _ _ => rfl)) pe_int) pe_int (nomark _))
  (pss_one (ps_set (i := 8) sc__law_signed_set.nd rfl (by first | exact .inl rfl | exact .inr rfl) pe_int))
  pss_nil)
  (pss_cons (ps_set (i := 9) sc__law_signed_set.nd rfl (by first | exact .inl rfl | exact .inr rfl) (pe_callTy cTupOf (by rfl) T.m_tuple (by decide +kernel) (pa_cons (pe_lc (own := [("k", 10)]) (g := (gName 10)) (tt := tYes) rfl sc__law_signed_set.nd (pi_range1 rfl T.m_range (pa_cons (pv 8) pa_nil)) (blkOk_by (N := ["cell", "draws", "kinds", "kind", "name", "other", "word", "ttl", "count", "signatures", "k"]) (sc := defScope s__law_signed_set) (by decide +kernel)) (fun _ _ _ _ _ => (pg_name (i := 10) sc__law_signed_set.nd rfl (Or.inl rfl))) (fun _ _ _ _ _ => pts_nil) (fun _ _ _ _ _ => (pe_tup (pa_cons (pv 5) (pa_cons (pe_op op_mod (pe_op op_add (pe_kix (K := K) (r := rIxL) rfl ix_list (pv 1) pe_int (fun _ _ => rfl)) (pv 10)) pe_int) (pa_cons (pe_op op_add pe_int (pe_op oDivB (pv 10) pe_int)) (pa_cons pe_int (pa_cons (pv 6) (pa_cons (pv 10) pa_nil))))))))) pa_nil)))
  (pss_one (ps_ret (pe_tup (pa_cons (pe_tup (pa_cons (pv 4) (pa_cons (pv 3) (pa_cons (pv 7) (pa_cons (pe_fn (ok__law_values T) hr (by rfl) (pa_cons (pv 3) (pa_cons (pv 6) (pa_cons (pv 5) (pa_cons (pe_ix ix_list (pv 1) pe_int (fun _ _ => rfl)) pa_nil))))) pa_nil))))) (pa_cons (pv 9) pa_nil))))))))))))))), ?_⟩
  walk_at "en"
  refine r_drw (n := 8) (by decide) fun H1 p ds n1 e1 hp hl hd => ?_
  walk_at "rd"
  intro kp H2 n2 e2 hk
  have hp2 := e2 _ _ hp
  walk_at "rd"
  refine r_ixW (SqL.of hp2) hd (by omega) fun d0 _ _ => ?_
  walk_at "rd"
  have hk9 : KN.length = 9 := by decide +kernel
  obtain ⟨v, hv, ha, _⟩ := atI_in (xs := KN.map V.str) (i := d0 % 9) (Int.emod_nonneg _ (by decide)) (by rw [List.length_map, hk9]; exact Int.emod_lt_of_pos _ (by decide))
  obtain ⟨κ, hκ, rfl⟩ := List.mem_map.mp hv
  refine r_ixT (xs := KN.map V.str) (SqT.of hk) ha ?_
  walk_at "rd"
  refine r_ixW (SqL.of hp2) hd (by omega) fun d1 _ _ => ?_
  walk_at "rd"
  refine r_ixW (SqL.of hp2) hd (by omega) fun d2 _ _ => ?_
  walk_at "rd"
  refine ⟨_, _, rfl, fun H3 an zs e3 hn => ?_⟩
  have hp3 := e3 _ _ hp2
  walk_at "rd"
  refine r_ixW (SqL.of hp3) hd (by omega) fun d3 _ _ => ?_
  walk_at "rd"
  refine r_ixW (SqL.of hp3) hd (by omega) fun d4 _ _ => ?_
  walk_at "rd"
  refine ⟨_, _, rfl, fun H4 ao ys e4 ho => ?_⟩
  have hp4 := e4 _ _ hp3
  walk_at "rd"
  refine r_ixW (SqL.of hp4) hd (by omega) fun d5 _ _ => ?_
  walk_at "rd"
  refine ⟨_, _, rfl, fun x hx => ?_⟩
  walk_at "rd"
  refine r_ixW (SqL.of hp4) hd (by omega) fun d6 _ _ => ?_
  walk_at "rd"
  refine ⟨_, _, rfl, fun t ht => ?_⟩
  walk_at "rd"
  refine r_ixW (SqL.of hp4) hd (by omega) fun d7 h70 h71 => ?_
  walk_at "rd"
  refine r_cut (fun σ' H' => H4 = H' ∧ ∃ m : Nat, m ≤ 20 ∧ σ' = [some (.int c), some (.ref p), some (.ref kp), some (.str κ), some (.ref an), some (.ref ao), some (.int x), some (.int t), some (.int (m : Nat)), none, none]) ?_ ?_
  · walk_at "rd"
    refine r_ixW (SqL.of hp4) hd (by omega) fun d8 _ _ => ?_
    walk_at "rd"
    walk_at "sp" <;> intro h1
    · walk_at "rd"
      exact ⟨rfl, 20, by decide, rfl⟩
    · walk_at "rd"
      refine ⟨rfl, (d7 % 4).toNat, by omega, ?_⟩
      have e : (((d7 % 4).toNat : Nat) : Int) = d7 % 4 := by omega
      rw [e]
      rfl
  rintro σ' H' ⟨rfl, m, hm, rfl⟩
  walk_at "rd"
  refine lcRg (fun D i H' => H4 D = none ∧ Same H4 H' ∧ ∃ (ss : List Addr) (sg : List PyData), H' D = some (.lst (ss.map V.ref)) ∧ ss.length = i ∧ DpAll K H' (ss.map V.ref) sg ∧ ∀ s ∈ sg, SgD s) (fun D H2 n2 e2 hD => ⟨n2, e2, [], [], hD, rfl, .nil, by simp⟩) ?_ ?_
  · rintro D i H' hi ⟨n5, e5, ss, sg, hD, hsl, hsg, hgood⟩
    have hi : i < m := by simpa using hi
    have hz2 : (0 : Int) + (i : Nat) = (i : Nat) := by omega
    rw [hz2]
    walk_at "rd"
    refine ⟨rfl, ?_⟩
    walk_at "rd"
    refine r_ixW (SqL.of (e5 _ _ hp4)) hd (by omega) fun d9 _ _ => ?_
    walk_at "rd"
    intro q H6 n6 e6 hq
    refine r_yield (e6 _ _ hD) (by rw [List.length_map]; omega) fun H7 b7 h7 => ?_
    have nt : NoTup H6 D := noTup_l (e6 _ _ hD)
    have qD : q ≠ D := by rintro rfl; rw [n6] at hD; cases hD
    have pd : pureAll sg = true := (pureAll_iff sg).mpr fun s hs => (hgood s hs).pure.1
    refine ⟨n5, same_but (e5.trans e6) b7 n5, ss ++ [q], sg ++ [.tuple (dT ys :: [(d9 + (i : Int)) % 9, 1 + (i : Int) / 2, 0, x, (i : Int)].map PyData.int)], by rw [h7, List.map_append]; rfl, by simp [hsl], ?_, fun s hs => ?_⟩
    · rw [List.map_append]
      refine dpAll_app (dpAll_but b7 nt _ _ pd (dpAll_ex e6 _ _ hsg)) (.cons ?_ .nil)
      refine .tup (SqT.of (b7 _ _ qD hq)) (.cons ?_ (.cons (.int _) (.cons (.int _) (.cons (.int _) (.cons (.int _) (.cons (.int _) .nil))))))
      exact dp_but b7 nt _ _ ho.key.2.pure.1 (dp_ex (e5.trans e6) _ _ ho.key.1)
    · rcases List.mem_append.mp hs with hs | hs
      · exact hgood s hs
      · rw [List.mem_singleton.mp hs]
        exact ⟨dT ys, _, rfl, ho.key.2.pure.1, ho.key.2.pure.2, rfl⟩
  rintro D H5 ⟨n5, e5, ss, sg, hD, hsl, hsg, hgood⟩
  walk_at "rd"
  refine r_tupOf (SqL.of hD) fun st H6 n6 e6 hst => ?_
  have e46 := e5.trans e6
  walk_at "rd"
  refine r_ixW (SqL.of (e46 _ _ hp4)) hd (by omega) fun d9 h90 h91 => ?_
  walk_at "rd"
  refine ⟨κ, x, d9, ao, ys, rfl, hx, ho.ex e46, ⟨h90, h91⟩, fun H7 vp vds e7 hvp hvg => ?_⟩
  walk_at "rd"
  intro rp H8 n8 e8 hrp
  walk_at "rd"
  intro fp H9 n9 e9 hfp
  have e79 := e8.trans e9
  have e69 := e7.trans e79
  have e39 : Same H3 H9 := (e4.trans e46).trans e69
  have hS : SSd (ssD (dT zs) κ t (.tuple vds) sg) := by
    refine ⟨dT zs, .tuple vds, κ, t, sg, rfl, hn.key.2.pure, (KN_asc κ hκ).1, ht, ⟨hvg.pure (by decide), hvg.depth⟩, hgood, ?_⟩
    have := dpAll_len hsg
    rw [List.length_map] at this
    have hsl2 : ss.length = m := by simpa using hsl
    omega
  refine k H9 fp _ ((((((e1.trans e2).trans e3).trans e4).trans e46).trans e69)) (hS.key ?_) hS
  refine .tup (SqT.of hfp) (.cons (.tup (SqT.of (e9 _ _ hrp)) (.cons ?_ (.cons (.str κ) (.cons (.int t) (.cons ?_ .nil))))) (.cons ?_ .nil))
  · exact dp_ex e39 _ _ hn.key.1
  · exact dp_ex e79 _ _ hvp.dp
  · exact .tup (SqT.of (e69 _ _ hst)) (dpAll_ex (e6.trans e69) _ _ hsg)

theorem dp_two {H : Hp} {a : Addr} {d e : PyData} (h : Dp K H (.ref a) (.tuple [d, e])) : ∃ v u, SqT K H a [v, u] ∧ Dp K H v d ∧ Dp K H u e := by
  obtain ⟨_, e, us, h1, h2⟩ := dp_pt h
  cases e
  obtain ⟨v, u, rfl, h3, h4⟩ := dpAll2 h2
  exact ⟨v, u, h1, h3, h4⟩
def RcD (d : PyData) : Prop := ∃ (n v : PyData) (κ : Str) (t : Int), d = .tuple [n, .str κ, .int t, v] ∧ (pureD n = true ∧ n.depth ≤ 1) ∧ Asc κ ∧ Wd t ∧ (pureD v = true ∧ v.depth ≤ 4)
def SgsD (sg : List PyData) : Prop := (∀ s ∈ sg, SgD s) ∧ sg.length ≤ 20
theorem SSd.parts {d : PyData} (h : SSd d) : ∃ r sg, d = .tuple [r, .tuple sg] ∧ RcD r ∧ SgsD sg := by
  obtain ⟨n, v, κ, t, sg, rfl, hn, hκ, ht, hv, hs, hl⟩ := h
  exact ⟨_, sg, rfl, ⟨n, v, κ, t, rfl, hn, hκ, ht, hv⟩, hs, hl⟩
theorem SSd.of {r : PyData} {sg : List PyData} (h : RcD r) (g : SgsD sg) : SSd (.tuple [r, .tuple sg]) := by
  obtain ⟨n, v, κ, t, rfl, hn, hκ, ht, hv⟩ := h
  exact ⟨n, v, κ, t, sg, rfl, hn, hκ, ht, hv, g.1, g.2⟩
theorem PT.of {H : Hp} {v : V} {ds : List PyData} (h : Dp K H v (.tuple ds)) : ∃ a, v = .ref a ∧ PT K H a ds := dp_pt h
theorem PT.at {H : Hp} {a : Addr} {ds : List PyData} {i : Int} (h : PT K H a ds) (h0 : 0 ≤ i ∧ i < (ds.length : Int)) : ∃ vs v d, SqT K H a vs ∧ atI vs i = some v ∧ ds[i.toNat]? = some d ∧ Dp K H v d := by
  obtain ⟨vs, h1, h2⟩ := h
  have hl := dpAll_len h2
  obtain ⟨v, _, ha, hv⟩ := atI_in (xs := vs) h0.1 (by rw [hl]; exact h0.2)
  obtain ⟨d, hd, hd2⟩ := dpAll_mem h2 hv
  exact ⟨vs, v, d, h1, ha, hd, hd2⟩
theorem PT.last {H : Hp} {a : Addr} {ds : List PyData} (h : PT K H a ds) (h0 : 0 < ds.length) : ∃ vs v d, SqT K H a vs ∧ atI vs (-1) = some v ∧ d ∈ ds ∧ Dp K H v d := by
  obtain ⟨vs, h1, h2⟩ := h
  have hl := dpAll_len h2
  have g := List.getElem?_eq_getElem (show vs.length - 1 < vs.length by omega)
  obtain ⟨d, hd, hd2⟩ := dpAll_mem h2 g
  exact ⟨vs, _, d, h1, atI_end g, List.mem_of_getElem? hd, hd2⟩
theorem dpAll6 {H : Hp} {vs : List V} {n : PyData} {w1 w2 w3 w4 w5 : Int} (h : DpAll K H vs (n :: [w1, w2, w3, w4, w5].map PyData.int)) : ∃ k0 k1 k2 k3 k4, vs = [k0, k1, k2, k3, k4, .int w5] := by
  have h : DpAll K H vs [n, .int w1, .int w2, .int w3, .int w4, .int w5] := h
  cases h with
  | cons h0 h =>
    cases h with
    | cons h1 h =>
      obtain ⟨x1, x2, x3, x4, rfl, _, _, _, b4⟩ := dpAll4 h
      cases b4
      exact ⟨_, _, x1, x2, x3, rfl⟩
def VMid (K : PySem.W.Frag) (H0 : Hp) (a : Addr) (i : Int) (σ : L2.St) (H : Hp) : Prop := ∃ r g rd sg, σ = [some (.ref a), some (.int i), some (.ref r), some (.ref g)] ∧ Same H0 H ∧ Dp K H (.ref r) rd ∧ RcD rd ∧ PT K H g sg ∧ SgsD sg
theorem RcD.good {d : PyData} (h : RcD d) : ∃ ds, d = .tuple ds ∧ GoodT 4 4 ds := by
  obtain ⟨n, v, κ, t, rfl, hn, hκ, ht, hv⟩ := h
  refine ⟨_, rfl, fun y hy => ?_, by simp⟩
  simp only [List.mem_cons, List.not_mem_nil, or_false] at hy
  rcases hy with rfl | rfl | rfl | rfl
  · exact ⟨hn.1, by have := hn.2; omega⟩
  · exact ⟨pure_str hκ, by simp [PyData.depth]⟩
  · exact ⟨rfl, by simp [PyData.depth]⟩
  · exact hv
theorem ok__law_variant (T : Txt K mg) : Fn P w K mg base 1 "_law_variant" ["signed_set", "variant"] (fun vs H Q _ => ∃ (a : Addr) (i : Int) (d : PyData), vs = [.ref a, .int i] ∧ KeyAt K H a d ∧ SSd d ∧ ∀ H' b e, Same H H' → KeyAt K H' b e → SSd e → Q (.ref b) H') := by
  refine T.d__law_variant.ok sc__law_variant (by rintro vs H Q E ⟨_, _, _, rfl, _⟩; rfl) (fun f cdv A outer s H vs Q E hr h => ?_)
  obtain ⟨a, i, d, rfl, ha, hd, k⟩ := h
  obtain ⟨rd, sg, rfl, hr1, hg1⟩ := hd.parts
  obtain ⟨v, u, h1, h2, h3⟩ := dp_two ha.1
  obtain ⟨rs, e1, gd⟩ := hr1.good
  subst e1
  obtain ⟨r, rfl, hr2⟩ := dp_pt h2
  obtain ⟨g, rfl, hg2⟩ := dp_pt h3
  refine ⟨_, (pss_cons (ps_set (i := 2) sc__law_variant.nd rfl (by first | exact .inl rfl | exact .inr rfl) (pe_ix ix_tup (pv 0) pe_int (fun _ _ => rfl)))
  (pss_cons (ps_set (i := 3) sc__law_variant.nd rfl (by first | exact .inl rfl | exact .inr rfl) (pe_ix ix_tup (pv 0) pe_int (fun _ _ => rfl)))
  (pss_cut (ps_if (pt_cmpR op_eq (pv 1) pe_int (nomark _))
  (pss_one (ps_set (i := 2) sc__law_variant.nd rfl (by first | exact .inl rfl | exact .inr rfl) (pe_op op_catA (pe_slice sl_tupA (pv 2) po_none (po_some pe_int)) (pe_tup (pa_cons (pe_op op_mod (pe_callTy cInt (by rfl) T.m_int (by decide +kernel) (pa_cons (pe_op op_add (pe_ix ix_tup (pv 2) pe_int (fun _ _ => rfl)) pe_int) pa_nil)) pe_int) (pa_cons (pe_ix ix_tup (pv 2) pe_int (fun _ _ => rfl)) pa_nil))))))
  pss_nil)
  (pss_cut (ps_if (PW.pt (pw_and (pt_cmpR op_eq (pv 1) pe_int (nomark _)) (pw_and1 (pt_cmpR op_lt (pe_callB cLenQ (by rfl) T.m_len PySem.boot_len (pa_cons (pv 3) pa_nil)) pe_int (nomark _)))))
  (pss_one (ps_set (i := 3) sc__law_variant.nd rfl (by first | exact .inl rfl | exact .inr rfl) (pe_op op_catA (pv 3) (pe_tup (pa_cons (pe_tup (pa_cons (pe_tup pa_nil) (pa_cons pe_int (pa_cons pe_int (pa_cons pe_int (pa_cons pe_int (pa_cons pe_int pa_nil))))))) pa_nil)))))
  pss_nil)
  (pss_cut (ps_if (PW.pt (pw_and (pt_cmpR op_eq (pv 1) pe_int (nomark _)) (pw_and1 (pt_cmpR op_gt (pe_callB cLenQ (by rfl) T.m_len PySem.boot_len (pa_cons (pv 3) pa_nil)) pe_int (nomark _)))))
  (pss_one (ps_set (i := 3) sc__law_variant.nd rfl (by first | exact .inl rfl | exact .inr rfl) (pe_op op_catA (pe_slice sl_tupA (pv 3) po_none (po_some (pe_un un_neg pe_int))) (pe_tup (pa_cons (pe_op op_catA (pe_slice sl_tupA (pe_ix ix_tup (pv 3) (pe_un un_neg pe_int) (fun _ _ => rfl)) po_none (po_some pe_int)) (pe_tup (pa_cons (pe_op op_add (pe_ix ix_tup (pe_ix ix_tup (pv 3) (pe_un un_neg pe_int) (fun _ _ => rfl)) pe_int (fun _ _ => rfl)) pe_int) pa_nil))) pa_nil)))))
  pss_nil)
  (pss_cut (ps_if (pt_cmpR op_eq (pv 1) pe_int (nomark _))
  (pss_one (ps_set (i := 3) sc__law_variant.nd rfl (by first | exact .inl rfl | exact .inr rfl) (pe_tup pa_nil)))
  pss_nil)
  (pss_cut (ps_if (pt_cmpR op_eq (pv 1) pe_int (nomark _))
  (pss_one (ps_set (i := 2) sc__law_variant.nd rfl (by first | exact .inl rfl | exact .inr rfl) (pe_op op_catA (pe_tup (pa_cons (pe_tup (pa_cons pe_str (pa_cons pe_str pa_nil))) pa_nil)) (pe_slice sl_tupA (pv 2) (po_some pe_int) po_none))))
  pss_nil)
  (pss_one (ps_ret (pe_tup (pa_cons (pv 2) (pa_cons (pv 3) pa_nil)))))))))))), ?_⟩
  walk_at "en"
  have step : ∀ (H' : Hp) (r g : Addr) (rd : PyData) (sg : List PyData), Same H H' → Dp K H' (.ref r) rd → RcD rd → PT K H' g sg → SgsD sg → VMid K H a i [some (.ref a), some (.int i), some (.ref r), some (.ref g)] H' := fun H' r g rd sg e h1 h2 h3 h4 => ⟨r, g, rd, sg, rfl, e, h1, h2, h3, h4⟩
  refine r_cut (VMid K H a i) ?_ ?_
  · walk_at "rd"
    walk_at "sp" <;> intro c
    · walk_at "rd"
      obtain ⟨n, v, κ, t, er, hn, hκ, ht, hv⟩ := hr1
      cases er
      refine r_slPT hr2 fun p H1 e1 hp => ?_
      have hp : PT K H1 p [n, .str κ] := hp
      obtain ⟨vs, y2, y3⟩ := hr2
      obtain ⟨x1, x2, x3, x4, rfl, z1, z2, z3, z4⟩ := dpAll4 y3
      cases z2
      cases z3
      walk_at "rd"
      intro q H2 n2 e2 hq
      have hq2 : PT K H2 q [.int ((t + 1) % 4294967296), v] := ⟨_, SqT.of hq, .cons (.int _) (.cons (dp_ex (e1.trans e2) _ _ z4) .nil)⟩
      refine r_catPT (hp.ex e2) hq2 (by simp) fun r2 H3 e3 hr3 => ?_
      have e13 := (e1.trans e2).trans e3
      exact step H3 r2 g _ sg e13 hr3.dp ⟨n, v, κ, _, rfl, hn, hκ, ⟨Int.emod_nonneg _ (by decide), by have := Int.emod_lt_of_pos (t + 1) (show (0 : Int) < 4294967296 by decide); omega⟩, hv⟩ (hg2.ex e13) hg1
    · walk_at "rd"
      exact step H r g _ sg (Same.refl _) h2 hr1 hg2 hg1
  clear h2 hr2 gd rs hg2 hg1 hr1 h1 h3 ha hd step r g sg
  rintro σ' H' ⟨r, g, rd, sg, rfl, e, hrd, hr1, hg2, hg1⟩
  have step : ∀ (H2 : Hp) (r g : Addr) (rd : PyData) (sg : List PyData), Same H' H2 → Dp K H2 (.ref r) rd → RcD rd → PT K H2 g sg → SgsD sg → VMid K H a i [some (.ref a), some (.int i), some (.ref r), some (.ref g)] H2 := fun H2 r g rd sg e2 h1 h2 h3 h4 => ⟨r, g, rd, sg, rfl, e.trans e2, h1, h2, h3, h4⟩
  have gg : ∀ s ∈ sg, pureD s = true ∧ s.depth ≤ 2 := fun s hs => (hg1.1 s hs).pure
  refine r_cut (VMid K H a i) ?_ ?_
  · walk_at "rd"
    walk_at "sp" <;> intro c
    · obtain ⟨vs, y2, y3⟩ := id hg2
      have hl := dpAll_len y3
      walk_at "rd"
      walk_at "sp" <;> intro c2
      · walk_at "rd"
        intro p1 H1 n1 e1 hp1
        walk_at "rd"
        intro p2 H2 n2 e2 hp2
        walk_at "rd"
        intro p3 H3 n3 e3 hp3
        have h3 : PT K H3 p3 [.tuple (.tuple [] :: [1, 2, 3, 4, 5].map PyData.int)] := ⟨_, SqT.of hp3, .cons (.tup (SqT.of (e3 _ _ hp2)) (.cons (.tup (SqT.of (e3 _ _ (e2 _ _ hp1))) .nil) (.cons (.int _) (.cons (.int _) (.cons (.int _) (.cons (.int _) (.cons (.int _) .nil))))))) .nil⟩
        have e13 := (e1.trans e2).trans e3
        refine r_catPT (hg2.ex e13) h3 (by have := hg1.2; simp; omega) fun g2 H4 e4 hg4 => ?_
        refine step H4 r g2 rd _ (e13.trans e4) (dp_ex (e13.trans e4) _ _ hrd) hr1 hg4 ⟨fun s hs => ?_, by rw [List.length_append]; simp; omega⟩
        rcases List.mem_append.mp hs with hs | hs
        · exact hg1.1 s hs
        · rw [List.mem_singleton.mp hs]
          exact ⟨.tuple [], _, rfl, rfl, by simp [PyData.depth, PyData.depthAll], rfl⟩
      · walk_at "rd"
        exact step H' r g rd sg (Same.refl _) hrd hr1 hg2 hg1
    · walk_at "rd"
      exact step H' r g rd sg (Same.refl _) hrd hr1 hg2 hg1
  clear hrd hr1 hg2 hg1 gg step r g sg e rd
  rintro σ' H' ⟨r, g, rd, sg, rfl, e, hrd, hr1, hg2, hg1⟩
  have step : ∀ (H2 : Hp) (r g : Addr) (rd : PyData) (sg : List PyData), Same H' H2 → Dp K H2 (.ref r) rd → RcD rd → PT K H2 g sg → SgsD sg → VMid K H a i [some (.ref a), some (.int i), some (.ref r), some (.ref g)] H2 := fun H2 r g rd sg e2 h1 h2 h3 h4 => ⟨r, g, rd, sg, rfl, e.trans e2, h1, h2, h3, h4⟩
  refine r_cut (VMid K H a i) ?_ ?_
  · walk_at "rd"
    walk_at "sp" <;> intro c
    · obtain ⟨vs, y2, y3⟩ := id hg2
      have hl := dpAll_len y3
      walk_at "rd"
      walk_at "sp" <;> intro c2
      · walk_at "rd"
        refine r_slPT hg2 fun p1 H1 e1 hp1 => ?_
        walk_at "rd"
        obtain ⟨us, v, d, z1, z2, z3, z4⟩ := (hg2.ex e1).last (by omega)
        refine r_ixT z1 z2 ?_
        walk_at "rd"
        obtain ⟨n, ws, rfl, hn1, hn2, hw⟩ := hg1.1 d z3
        obtain ⟨b, rfl, hb⟩ := dp_pt z4
        obtain ⟨w1, w2, w3, w4, w5, rfl⟩ : ∃ w1 w2 w3 w4 w5, ws = [w1, w2, w3, w4, w5] := by
          match ws, hw with
          | [w1, w2, w3, w4, w5], _ => exact ⟨w1, w2, w3, w4, w5, rfl⟩
        refine r_slPT hb fun p2 H2 e2 hp2 => ?_
        have hp2 : PT K H2 p2 [n, .int w1, .int w2, .int w3, .int w4] := hp2
        walk_at "rd"
        refine r_ixT (ex_t e2 z1) z2 ?_
        walk_at "rd"
        obtain ⟨bs, f1, f2⟩ := hb.ex e2
        obtain ⟨k0, k1, k2, k3, k4, rfl⟩ := dpAll6 f2
        refine r_ixT f1 (v := .int w5) rfl ?_
        walk_at "rd"
        intro p3 H3 n3 e3 hp3
        have h3 : PT K H3 p3 [.int (w5 + 1)] := ⟨_, SqT.of hp3, .cons (.int _) .nil⟩
        refine r_catPT (hp2.ex e3) h3 (by simp) fun s1 H4 e4 hs4 => ?_
        walk_at "rd"
        intro p5 H5 n5 e5 hp5
        have h5 : PT K H5 p5 [.tuple ([n, .int w1, .int w2, .int w3, .int w4] ++ [.int (w5 + 1)])] := ⟨_, SqT.of hp5, .cons (hs4.ex e5).dp .nil⟩
        have e25 := ((e2.trans e3).trans e4).trans e5
        have hg3 := cutD_mem (ds := sg) (lo := none) (hi := some (-1))
        have hg4 : (cutD sg none (some (-1))).length + 1 ≤ sg.length := by
          unfold cutD
          rw [sIx_last, List.length_take]
          have e0 : HT.sIx sg.length 0 none = 0 := rfl
          rw [e0]
          omega
        refine r_catPT (hp1.ex e25) h5 (by have := hg1.2; simp; omega) fun g2 H6 e6 hg6 => ?_
        have e16 := (e1.trans e25).trans e6
        refine step H6 r g2 rd _ e16 (dp_ex e16 _ _ hrd) hr1 hg6 ⟨fun s hs => ?_, by have := hg1.2; rw [List.length_append]; simp; omega⟩
        rcases List.mem_append.mp hs with hs | hs
        · exact hg1.1 s (hg3.1 s hs)
        · rw [List.mem_singleton.mp hs]
          exact ⟨n, [w1, w2, w3, w4, w5 + 1], rfl, hn1, hn2, rfl⟩
      · walk_at "rd"
        exact step H' r g rd sg (Same.refl _) hrd hr1 hg2 hg1
    · walk_at "rd"
      exact step H' r g rd sg (Same.refl _) hrd hr1 hg2 hg1
  clear hrd hr1 hg2 hg1 step r g sg e rd
  rintro σ' H' ⟨r, g, rd, sg, rfl, e, hrd, hr1, hg2, hg1⟩
  have step : ∀ (H2 : Hp) (r g : Addr) (rd : PyData) (sg : List PyData), Same H' H2 → Dp K H2 (.ref r) rd → RcD rd → PT K H2 g sg → SgsD sg → VMid K H a i [some (.ref a), some (.int i), some (.ref r), some (.ref g)] H2 := fun H2 r g rd sg e2 h1 h2 h3 h4 => ⟨r, g, rd, sg, rfl, e.trans e2, h1, h2, h3, h4⟩
  refine r_cut (VMid K H a i) ?_ ?_
  · walk_at "rd"
    walk_at "sp" <;> intro c
    · walk_at "rd"
      intro p H1 n1 e1 hp
      exact step H1 r p rd [] e1 (dp_ex e1 _ _ hrd) hr1 ⟨[], SqT.of hp, .nil⟩ ⟨by simp, by simp⟩
    · walk_at "rd"
      exact step H' r g rd sg (Same.refl _) hrd hr1 hg2 hg1
  clear hrd hr1 hg2 hg1 step r g sg e rd
  rintro σ' H' ⟨r, g, rd, sg, rfl, e, hrd, hr1, hg2, hg1⟩
  have step : ∀ (H2 : Hp) (r g : Addr) (rd : PyData) (sg : List PyData), Same H' H2 → Dp K H2 (.ref r) rd → RcD rd → PT K H2 g sg → SgsD sg → VMid K H a i [some (.ref a), some (.int i), some (.ref r), some (.ref g)] H2 := fun H2 r g rd sg e2 h1 h2 h3 h4 => ⟨r, g, rd, sg, rfl, e.trans e2, h1, h2, h3, h4⟩
  refine r_cut (VMid K H a i) ?_ ?_
  · walk_at "rd"
    walk_at "sp" <;> intro c
    · walk_at "rd"
      intro p1 H1 n1 e1 hp1
      walk_at "rd"
      intro p2 H2 n2 e2 hp2
      walk_at "rd"
      obtain ⟨n, v, κ, t, rfl, hn, hκ, ht, hv⟩ := hr1
      obtain ⟨_, er, hr2⟩ := dp_pt (dp_ex (e1.trans e2) _ _ hrd)
      cases er
      refine r_slPT hr2 fun p3 H3 e3 hp3 => ?_
      have hp3 : PT K H3 p3 [.str κ, .int t, v] := hp3
      have hxy : nameD (dT ["x", "y"]) := ⟨_, rfl, by decide +kernel, by decide⟩
      have h2 : PT K H3 p2 [dT ["x", "y"]] := ⟨_, SqT.of (e3 _ _ hp2), .cons (dp_tup (zs := ["x", "y"]) (SqT.of (e3 _ _ (e2 _ _ hp1)))) .nil⟩
      refine r_catPT h2 hp3 (by simp) fun r2 H4 e4 hr4 => ?_
      have e14 := ((e1.trans e2).trans e3).trans e4
      exact step H4 r2 g _ sg e14 hr4.dp ⟨_, v, κ, t, rfl, hxy.pure, hκ, ht, hv⟩ (hg2.ex e14) hg1
    · walk_at "rd"
      exact step H' r g rd sg (Same.refl _) hrd hr1 hg2 hg1
  clear hrd hr1 hg2 hg1 step r g sg e rd
  rintro σ' H' ⟨r, g, rd, sg, rfl, e, hrd, hr1, hg2, hg1⟩
  walk_at "rd"
  intro p H1 n1 e1 hp
  have hS := SSd.of hr1 hg1
  exact k H1 p _ (e.trans e1) (hS.key (.tup (SqT.of hp) (.cons (dp_ex e1 _ _ hrd) (.cons (hg2.ex e1).dp .nil)))) hS

/-! ### the model: rows of a signed set and its end -/
abbrev MRow := Addr × Addr × PyData × Int
def RowsAt (K : PySem.W.Frag) (H : Hp) (m : Addr) (R : List MRow) : Prop := H m = some (.lst (R.map fun x => .ref x.1)) ∧ (∀ x ∈ R, H x.1 = some (.lst [.ref x.2.1, .int x.2.2.2]) ∧ KeyAt K H x.2.1 x.2.2.1) ∧ (m :: R.map (·.1)).Nodup
theorem RowsAt.ex {H H' : Hp} {m : Addr} {R : List MRow} (h : RowsAt K H m R) (e : Same H H') : RowsAt K H' m R := ⟨e _ _ h.1, fun x hx => ⟨e _ _ (h.2.1 x hx).1, (h.2.1 x hx).2.ex e⟩, h.2.2⟩
theorem RowsAt.but {H H' : Hp} {m l : Addr} {R : List MRow} (h : RowsAt K H m R) (e : But l H H') (n : l ∉ m :: R.map (·.1)) (t : NoTup H l) : RowsAt K H' m R := by
  refine ⟨e _ _ (fun z => n (by rw [z]; exact List.mem_cons_self)) h.1, fun x hx => ⟨e _ _ (fun z => n ?_) (h.2.1 x hx).1, (h.2.1 x hx).2.but e t⟩, h.2.2⟩
  rw [← z]
  exact List.mem_cons_of_mem _ (List.mem_map.mpr ⟨x, hx, rfl⟩)
/-- all but m and the rows are as they were -/
def ButM (m : Addr) (R : List MRow) (H H' : Hp) : Prop := ∀ b o, b ∉ m :: R.map (·.1) → H b = some o → H' b = some o
def takeM (xs : List (NestedKey × Int)) (k : NestedKey) (e : Int) : List (NestedKey × Int) := if k ∈ xs.map (·.1) then xs.map fun p => if p.1 = k then (p.1, if e > p.2 then e else p.2) else p else xs ++ [(k, e)]
def keysR (R : List MRow) : List (NestedKey × Int) := R.map fun x => (nk x.2.2.1, x.2.2.2)
theorem takeM_at {xs : List (NestedKey × Int)} {i : Nat} {k : NestedKey} {o e : Int} (nd : (xs.map (·.1)).Nodup) (h : xs[i]? = some (k, o)) : takeM xs k e = xs.set i (k, if e > o then e else o) := by
  unfold takeM
  rw [if_pos (List.mem_map.mpr ⟨(k, o), List.mem_of_getElem? h, rfl⟩)]
  refine List.ext_getElem? fun j => ?_
  rw [List.getElem?_map, List.getElem?_set]
  by_cases hj : i = j
  · subst hj
    rw [if_pos rfl, if_pos (List.getElem?_eq_some_iff.mp h).1, h]
    simp
  · rw [if_neg hj]
    cases hx : xs[j]? with
    | none => rfl
    | some p =>
      have : p.1 ≠ k := fun z => by
        have h1 : (xs.map (·.1))[i]? = some k := by rw [List.getElem?_map, h]; rfl
        have h2 : (xs.map (·.1))[j]? = some k := by rw [List.getElem?_map, hx]; exact congrArg some z
        have hi := (List.getElem?_eq_some_iff.mp h1).1
        exact hj ((List.getElem?_inj hi nd).mp (h1.trans h2.symm))
      simp [this]
theorem ok__law_take (T : Txt K mg) : Fn P w K mg base 1 "_law_take" ["rows", "signed_set", "time"] (fun vs H Q _ => ∃ (m a : Addr) (R : List MRow) (n v : PyData) (κ : Str) (t e : Int) (sg : List PyData), vs = [.ref m, .ref a, .int e] ∧ RowsAt K H m R ∧ R.length ≤ 1000 ∧ ((keysR R).map (·.1)).Nodup ∧ KeyAt K H a (ssD n κ t v sg) ∧
    (sg = [] → ∀ H', Same H H' → Q (.bl false) H') ∧ (sg ≠ [] → ∀ H' R', ButM m R H H' → RowsAt K H' m R' → keysR R' = takeM (keysR R) (nk (ssD n κ t v sg)) (e + t) → (∀ x ∈ R', x.1 ∈ R.map (·.1) ∨ H x.1 = none) → Q (.bl true) H')) := by
  refine T.d__law_take.ok sc__law_take (by rintro vs H Q E ⟨_, _, _, _, _, _, _, _, _, rfl, _⟩; rfl) (fun f cdv A outer s H vs Q E hr h => ?_)
  obtain ⟨m, a, R, n, v, κ, t, e, sg, rfl, hR, hl, nd, ka, q1, q2⟩ := h
  obtain ⟨ar, ag, vn, vv, gs, h1, h2, h3, h4, _, _, _, h5⟩ := ss_at ka.1
  refine ⟨_, (pss_cons (ps_if (pt_cmpR (op_eqD hr.units) (pe_ix ix_tup (pv 1) pe_int (fun _ _ => rfl)) (pe_tup pa_nil) (nomark _))
  (pss_one (ps_ret pe_bl))
  pss_nil)
  (pss_cons (ps_set (i := 3) sc__law_take.nd rfl (by first | exact .inl rfl | exact .inr rfl) (pe_op op_add (pv 2) (pe_ix ix_tup (pe_ix ix_tup (pv 1) pe_int (fun _ _ => rfl)) pe_int (fun _ _ => rfl))))
  (pss_cons (ps_for PassesOwn.never rfl (pi_list (pv 0)) (pg_name (i := 4) sc__law_take.nd rfl (.inl rfl))
  (pss_one (ps_if (pt_cmpR (op_eqD hr.units) (pe_ix ix_list (pv 4) pe_int (fun _ _ => rfl)) (pv 1) (nomark _))
  (pss_cons (ps_asg (pe_callB (cMax2 rfl) (by rfl) T.m_max (by decide +kernel) (pa_cons (pe_ix ix_list (pv 4) pe_int (fun _ _ => rfl)) (pa_cons (pv 3) pa_nil))) (pg_sub (pv 4) pe_int set_list))
  (pss_one (ps_ret pe_bl)))
  pss_nil)))
  (pss_cons (ps_expr (pe_bm PySem.F.plainAttrs_list PySem.F.slot_list_append PySem.F.type_list_append mt_append (pv 0) (pa_cons (pe_lst (pa_cons (pv 1) (pa_cons (pv 3) pa_nil))) pa_nil)))
  (pss_one (ps_ret pe_bl)))))), ?_⟩
  have hlen : gs.length = sg.length := dpAll_len h4
  have hps : pureD (.tuple sg) = true ∧ (PyData.tuple sg).depth ≤ 7 := by
    obtain ⟨_, p, dd⟩ := ka
    simp only [ssD, pureD, pureAll, Bool.and_eq_true] at p
    simp only [ssD, PyData.depth, PyData.depthAll] at dd
    refine ⟨by simp only [pureD, Bool.and_eq_true]; exact p.2.2.1, ?_⟩
    simp only [PyData.depth]
    omega
  walk_at "en"
  intro p0 H1 n1 e1 hp0
  refine r_eqP (dp_ex e1 _ _ h5) (.tup (SqT.of hp0) .nil) hps.1 rfl (by omega) (by simp [PyData.depth, PyData.depthAll]) ?_
  walk_at "rd"
  have eqs : PyData.eqv (.tuple sg) (.tuple []) = decide (sg = []) := by
    rw [nk_eqv _ _ hps.1 rfl]
    refine decide_eq_decide.mpr ⟨fun z => ?_, fun z => by rw [z]⟩
    have := nk_inj _ _ hps.1 rfl z
    exact PyData.tuple.inj this
  rw [eqs]
  walk_at "sp" <;> intro c
  · walk_at "rd"
    exact q1 c _ e1
  have h11 := ex_t e1 h1
  have h21 := ex_t e1 h2
  have hR1 := hR.ex e1
  have ka1 := ka.ex e1
  walk_at "rd"
  refine r_iList1 _ (SqL.of hR1.1) ?_
  have pk : pureD (ssD n κ t v sg) = true ∧ (ssD n κ t v sg).depth ≤ 7 := ka.2
  refine loopL (xs := R.map fun x => .ref x.1) (fun i σ' H' => (∃ v4, σ' = [some (.ref m), some (.ref a), some (.int e), some (.int (e + t)), v4]) ∧ H1 = H' ∧ ∀ (j : Nat) (x : MRow), j < i → R[j]? = some x → nk x.2.2.1 ≠ nk (ssD n κ t v sg)) ⟨⟨_, rfl⟩, rfl, by intro j x hj; omega⟩ (fun i σ' H' _ ⟨_, e, _⟩ => by subst e; exact SqL.of hR1.1) ?_ ?_
  · rintro i y σ' H' hy ⟨⟨v4, rfl⟩, rfl, hall⟩
    obtain ⟨x, hx, rfl⟩ := map_get hy
    have hxm := List.mem_of_getElem? hx
    obtain ⟨hrow, kx⟩ := hR1.2.1 x hxm
    walk_at "rd"
    refine r_eqP kx.1 ka1.1 kx.2.1 pk.1 (by have := kx.2.2; omega) (by omega) ?_
    rw [nk_eqv _ _ kx.2.1 pk.1]
    walk_at "rd"
    walk_at "sp" <;> intro he
    · walk_at "rd"
      refine r_setL hrow (j := 1) rfl fun H2 b2 h2 => ?_
      walk_at "rd"
      have hk : (keysR R)[i]? = some (nk (ssD n κ t v sg), x.2.2.2) := by
        unfold keysR
        rw [List.getElem?_map, hx, ← he]
        rfl
      have hnd := hR1.2.2
      have hxin : x.1 ∈ R.map (·.1) := List.mem_map.mpr ⟨x, hxm, rfl⟩
      have hmx : m ≠ x.1 := fun z => (List.nodup_cons.mp hnd).1 (z ▸ hxin)
      have nt : NoTup H1 x.1 := noTup_l hrow
      have es : (R.set i (x.1, x.2.1, x.2.2.1, if e + t > x.2.2.2 then e + t else x.2.2.2)).map (·.1) = R.map (·.1) := by
        rw [List.map_set]
        refine List.ext_getElem? fun j => ?_
        rw [List.getElem?_set]
        split
        · rename_i hj
          subst hj
          rw [List.getElem?_map, hx, if_pos (by rw [List.length_map]; exact (List.getElem?_eq_some_iff.mp hx).1)]
          rfl
        · rfl
      refine q2 c H2 (R.set i (x.1, x.2.1, x.2.2.1, if e + t > x.2.2.2 then e + t else x.2.2.2)) (fun b o hb hbo => ?_) ⟨?_, fun y hy => ?_, by rw [es]; exact hnd⟩ ?_ (fun y hy => .inl ?_)
      · exact b2 b o (fun z => hb (by rw [z]; exact List.mem_cons_of_mem _ hxin)) (e1 b o hbo)
      · have e3 : (R.set i (x.1, x.2.1, x.2.2.1, if e + t > x.2.2.2 then e + t else x.2.2.2)).map (fun x => V.ref x.1) = R.map fun x => V.ref x.1 := by
          have := congrArg (List.map V.ref) es
          rw [List.map_map, List.map_map] at this
          exact this
        rw [e3]
        exact b2 m _ hmx hR1.1
      · obtain ⟨j, hj⟩ := List.mem_iff_getElem?.mp hy
        rw [List.getElem?_set] at hj
        split at hj
        · split at hj
          · cases hj
            exact ⟨h2, kx.but b2 nt⟩
          · cases hj
        · rename_i hij
          have hym := List.mem_of_getElem? hj
          obtain ⟨g1, g2⟩ := hR1.2.1 y hym
          refine ⟨b2 _ _ (fun z => hij ?_) g1, g2.but b2 nt⟩
          have n1 := (List.nodup_cons.mp hnd).2
          have i1 : (R.map (·.1))[i]? = some x.1 := by rw [List.getElem?_map, hx]; rfl
          have i2 : (R.map (·.1))[j]? = some x.1 := by rw [List.getElem?_map, hj]; exact congrArg some z
          exact (List.getElem?_inj (List.getElem?_eq_some_iff.mp i1).1 n1).mp (i1.trans i2.symm)
      · rw [takeM_at nd hk]
        unfold keysR
        rw [List.map_set, ← he]
      · rw [← es]
        exact List.mem_map.mpr ⟨y, hy, rfl⟩
    · walk_at "rd"
      refine ⟨⟨_, rfl⟩, rfl, fun j x' hj hx' => ?_⟩
      by_cases ej : j = i
      · subst ej; rw [hx] at hx'; cases hx'; exact he
      · exact hall j x' (by omega) hx'
  · rintro σ' H' ⟨⟨v4, rfl⟩, rfl, hall⟩
    rw [List.length_map] at hall
    walk_at "rd"
    refine r_append hR1.1 ?_
    walk_at "rd"
    intro r H2 n2 e2 hr2
    walk_at "rd"
    refine r_append1 (e2 _ _ hR1.1) (by rw [List.length_map]; omega) fun H3 b3 h3 => ?_
    walk_at "rd"
    have rm : r ≠ m := by
      rintro rfl
      have := hR1.1
      rw [n2] at this
      cases this
    have nt : NoTup H2 m := noTup_l (e2 _ _ hR1.1)
    have rin : r ∉ R.map (·.1) := fun z => by
      obtain ⟨x, hx, ex⟩ := List.mem_map.mp z
      have := (hR1.2.1 x hx).1
      rw [ex, n2] at this
      cases this
    have hnd := List.nodup_cons.mp hR1.2.2
    refine q2 c H3 (R ++ [(r, a, ssD n κ t v sg, e + t)]) (fun b o hb hbo => b3 b o (fun z => hb (by rw [z]; exact List.mem_cons_self)) (e2 _ _ (e1 _ _ hbo))) ⟨by rw [h3, List.map_append]; rfl, fun y hy => ?_, ?_⟩ ?_ (fun y hy => ?_)
    · rcases List.mem_append.mp hy with hy | hy
      · obtain ⟨g1, g2⟩ := hR1.2.1 y hy
        refine ⟨b3 _ _ (fun z => hnd.1 (z ▸ List.mem_map.mpr ⟨y, hy, rfl⟩)) (e2 _ _ g1), (g2.ex e2).but b3 nt⟩
      · rw [List.mem_singleton.mp hy]
        exact ⟨b3 _ _ rm hr2, (ka1.ex e2).but b3 nt⟩
    · rw [List.map_append]
      refine List.nodup_cons.mpr ⟨fun z => ?_, List.nodup_append.mpr ⟨hnd.2, by simp, fun x hx y hy => ?_⟩⟩
      · rcases List.mem_append.mp z with z | z
        · exact hnd.1 z
        · exact rm (List.mem_singleton.mp z).symm
      · rw [List.mem_singleton.mp hy]
        rintro rfl
        exact rin hx
    · unfold takeM
      rw [if_neg, keysR, keysR, List.map_append]
      · rfl
      · intro z
        obtain ⟨p, hp, ep⟩ := List.mem_map.mp z
        obtain ⟨x, hx, rfl⟩ := List.mem_map.mp hp
        obtain ⟨j, hj⟩ := List.mem_iff_getElem?.mp hx
        exact hall j x (List.getElem?_eq_some_iff.mp hj).1 hj ep
    · rcases List.mem_append.mp hy with hy | hy
      · exact .inl (List.mem_map.mpr ⟨y, hy, rfl⟩)
      · rw [List.mem_singleton.mp hy]
        exact .inr (fresh_back e1 n2)
theorem ok__law_moment (T : Txt K mg) : Fn P w K mg base 2 "_law_moment" ["rows", "cell", "draw"] (fun vs H Q _ => ∃ (m : Addr) (R : List MRow) (c d : Int), vs = [.ref m, .int c, .int d] ∧ RowsAt K H m R ∧ ∀ x : Int, Q (.int x) H) := by
  refine T.d__law_moment.ok sc__law_moment (by rintro vs H Q E ⟨_, _, _, _, rfl, _⟩; rfl) (fun f cdv A outer s H vs Q E hr h => ?_)
  obtain ⟨m, R, c, d, rfl, hR, k⟩ := h
  refine ⟨_, (pss_cons (ps_if (PW.pt (pw_and (pt_cmpR op_gt (pe_callB cLenQ (by rfl) T.m_len PySem.boot_len (pa_cons (pv 0) pa_nil)) pe_int (nomark _)) (pw_and1 (pt_cmpR op_ne (pe_op op_mod (pv 2) pe_int) pe_int (nomark _)))))
  (pss_cons (ps_set (i := 3) sc__law_moment.nd rfl (by first | exact .inl rfl | exact .inr rfl) (pe_op op_sub (pe_op op_add (pe_ix ix_list (pe_ix ix_list (pv 0) (pe_op op_mod (pe_op oDivB (pv 2) pe_int) (pe_callB cLenQ (by rfl) T.m_len PySem.boot_len (pa_cons (pv 0) pa_nil))) (fun _ _ => rfl)) pe_int (fun _ _ => rfl)) (pe_op op_mod (pe_op oDivB (pv 2) pe_int) pe_int)) pe_int))
  (pss_one (ps_ret (pe_callB (cMax2 rfl) (by rfl) T.m_max (by decide +kernel) (pa_cons pe_int (pa_cons (pe_callB (cMin2 rfl) (by rfl) T.m_min (by decide +kernel) (pa_cons (pv 3) (pa_cons pe_int pa_nil))) pa_nil))))))
  pss_nil)
  (pss_one (ps_ret (pe_fn (ok__law_word T) hr (by rfl) (pa_cons (pv 1) (pa_cons (pe_op oDivB (pv 2) pe_int) pa_nil)))))), ?_⟩
  have hR1 := hR.1
  walk_at "en"
  rw [List.length_map]
  walk_at "rd"
  walk_at "sp" <;> intro h1
  · walk_at "rd"
    walk_at "sp" <;> intro h2
    · walk_at "rd"
      rw [List.length_map]
      have q1 := Int.emod_nonneg (d / 12) (show (R.length : Int) ≠ 0 by omega)
      have q2 := Int.emod_lt_of_pos (d / 12) (show (0 : Int) < (R.length : Int) by omega)
      walk_at "rd"
      obtain ⟨v, hv, ha, _⟩ := atI_in (xs := R.map fun x => V.ref x.1) q1 (by rw [List.length_map]; exact q2)
      obtain ⟨x, hx, rfl⟩ := List.mem_map.mp hv
      refine r_ixL (SqL.of hR.1) ha ?_
      have hrow := (hR.2.1 x hx).1
      walk_at "rd"
      exact k _
    · walk_at "rd"
      exact ⟨_, _, rfl, fun x _ => k x⟩
  · walk_at "rd"
    exact ⟨_, _, rfl, fun x _ => k x⟩
theorem key_tup {H : Hp} {b : Addr} {d : PyData} (h : KeyAt K H b d) : ∃ ds, d = .tuple ds := by
  obtain ⟨h1, h2, _⟩ := h
  cases h1 with
  | lst _ _ => simp [pureD] at h2
  | tup _ _ => exact ⟨_, rfl⟩
theorem r_neP {H : Hp} {Q : VK} {v u : V} {d e : PyData} (hv : Dp K H v d) (hu : Dp K H u e) (pd : pureD d = true) (pe : pureD e = true) (dd : d.depth ≤ 30) (de : e.depth ≤ 30) (q : Q (.bl (!PyData.eqv d e)) H) : rNeD K v u H Q := ⟨d, e, hv, hu, shaped_pure pd (by omega), shaped_pure pe (by omega), q⟩
/-- the store and the model say the same -/
def Match (L : List DRow) (R : List MRow) : Prop := L.map (fun r => (nk r.1, endOf r)) = keysR R
theorem Match.len {L : List DRow} {R : List MRow} (h : Match L R) : L.length = R.length := by
  have := congrArg List.length h
  simpa [keysR] using this
theorem Match.at {L : List DRow} {R : List MRow} (h : Match L R) {i : Nat} {r : DRow} {x : MRow} (h1 : L[i]? = some r) (h2 : R[i]? = some x) : nk r.1 = nk x.2.2.1 ∧ endOf r = x.2.2.2 := by
  have e := congrArg (fun l => l[i]?) h
  simp only [keysR, List.getElem?_map, h1, h2, Option.map_some, Option.some.injEq, Prod.mk.injEq] at e
  exact e
theorem match_live {L : List DRow} {R : List MRow} (h : Match L R) (t : Int) : Match (liveL L t) (R.filter fun x => decide (x.2.2.2 ≥ t)) := by
  unfold Match liveL keysR at *
  induction L generalizing R with
  | nil =>
    cases R with
    | nil => rfl
    | cons x R => simp at h
  | cons r L ih =>
    cases R with
    | nil => simp at h
    | cons x R =>
      simp only [List.map_cons, List.cons.injEq, Prod.mk.injEq] at h
      obtain ⟨⟨h1, h2⟩, h3⟩ := h
      have ih := ih h3
      rw [List.filter_cons, List.filter_cons, h2]
      by_cases c : t ≤ x.2.2.2
      · rw [if_pos (decide_eq_true c), if_pos (decide_eq_true (show x.2.2.2 ≥ t from c)), List.map_cons, List.map_cons, ih, h1, h2]
      · rw [if_neg (by rw [decide_eq_true_iff]; exact c), if_neg (by rw [decide_eq_true_iff]; exact c)]
        exact ih
theorem ok__law_holds (T : Txt K mg) : Fn P w K mg base 3 "_law_holds" ["received", "rows", "time"] (fun vs H Q _ => ∃ (r d m : Addr) (L : List DRow) (R : List MRow) (t : Int), vs = [.ref r, .ref m, .int t] ∧ RcAt P w K T.a_Received H r d L ∧ L.length ≤ 1000 ∧ AllI L ∧ RowsAt K H m R ∧ Match L R ∧ ∀ H', Same H H' → Q (.bl true) H') := by
  refine T.d__law_holds.ok sc__law_holds (by rintro vs H Q E ⟨_, _, _, _, _, _, rfl, _⟩; rfl) (fun f cdv A outer s H vs Q E hr h => ?_)
  obtain ⟨r, d, m, L, R, t, rfl, hC, hl, hi, hR, hM, k⟩ := h
  refine ⟨_, (pss_cons (ps_setLc (i := 3) (own := [("row", 4)]) (g := (gName 4)) rfl sc__law_holds.nd rfl rfl (sw_true rfl rfl rfl (by decide +kernel)) (pi_list (pv 1)) (blkOk_by (N := ["received", "rows", "time", "due", "row", "k", "actual", "j"]) (sc := defScope s__law_holds) (by decide +kernel)) (fun _ _ _ _ _ => (pg_name (i := 4) sc__law_holds.nd rfl (Or.inl rfl))) (fun _ _ _ _ _ => (pts_one (pt_cmpR op_ge (pe_kix (K := K) (r := rIxL) rfl ix_list (pv 4) pe_int (fun _ _ => rfl)) (pv 2) (nomark _)))) (fun _ _ _ _ _ => (pe_kix (K := K) (r := rIxL) rfl ix_list (pv 4) pe_int (fun _ _ => rfl))))
  (pss_cons (ps_for PassesOwn.never rfl (pi_range1 rfl T.m_range (pa_cons pe_int pa_nil)) (pg_name (i := 5) sc__law_holds.nd rfl (.inl rfl))
  (pss_cons (ps_set (i := 6) sc__law_holds.nd rfl (by first | exact .inl rfl | exact .inr rfl) (pe_mth (ok_Received_live T) T.cl_Received (hr.mono (by decide)) (pv 0) (pa_cons (pv 2) pa_nil)))
  (pss_cons (ps_if (PW.pt (pw_or (pt_not (pt_val (pe_callB call_isi (by rfl) T.m_isinstance (by decide +kernel) (pa_cons (pv 6) (pa_cons (pe_bltn (v := .ty "list") rfl T.m_list (by decide +kernel) rfl) pa_nil))))) (pw_or1 (pt_cmpR op_ne (pe_callB cLenQ (by rfl) T.m_len PySem.boot_len (pa_cons (pv 6) pa_nil)) (pe_callB cLenQ (by rfl) T.m_len PySem.boot_len (pa_cons (pv 3) pa_nil)) (nomark _)))))
  (pss_one (ps_ret pe_bl))
  pss_nil)
  (pss_cons (ps_for PassesOwn.never rfl (pi_range1 rfl T.m_range (pa_cons (pe_callB cLenQ (by rfl) T.m_len PySem.boot_len (pa_cons (pv 3) pa_nil)) pa_nil)) (pg_name (i := 7) sc__law_holds.nd rfl (.inl rfl))
  (pss_one (ps_if (PW.pt (pw_or (pt_not (pt_val (pe_callB call_isi (by rfl) T.m_isinstance (by decide +kernel) (pa_cons (pe_ix ix_list (pv 6) (pv 7) (fun _ _ => rfl)) (pa_cons (pe_bltn (v := .ty "tuple") rfl T.m_tuple (by decide +kernel) rfl) pa_nil))))) (pw_or1 (pt_cmpR (op_neD hr.units) (pe_ix ix_list (pv 6) (pv 7) (fun _ _ => rfl)) (pe_ix ix_list (pv 3) (pv 7) (fun _ _ => rfl)) (nomark _)))))
  (pss_one (ps_ret pe_bl))
  pss_nil)))
  (pss_cons (ps_expr (pe_bm0 PySem.F.plainAttrs_list PySem.F.slot_list_reverse PySem.F.type_list_reverse mt_reverse (pv 6)))
  (pss_one (ps_expr (pe_bm PySem.F.plainAttrs_list PySem.F.slot_list_append PySem.F.type_list_append mt_append (pv 6) (pa_cons (pe_tup pa_nil) pa_nil)))))))))
  (pss_one (ps_ret (pe_cmpR op_eq (pe_callB (call_lenO (ok_Received___len__ T) (hr.mono (by decide))) (by rfl) T.m_len PySem.boot_len (pa_cons (pv 0) pa_nil)) (pe_callB cLenQ (by rfl) T.m_len PySem.boot_len (pa_cons (pv 1) pa_nil)) (nomark _)))))), ?_⟩
  have hR1 := hR.1
  walk_at "en"
  refine lcL (xs := R.map fun x => .ref x.1) (fun D i H' => H D = none ∧ Same H H' ∧ H' D = some (.lst (((R.take i).filter fun x => decide (x.2.2.2 ≥ t)).map fun x => .ref x.2.1))) (fun D H2 n2 e2 hD => ⟨n2, e2, hD⟩) (fun D i H' _ ⟨_, e2, _⟩ => SqL.of (e2 _ _ hR1)) ?_ ?_
  · rintro D i y H' hy ⟨n2, e2, hD⟩
    obtain ⟨x, hx, rfl⟩ := map_get hy
    have hxm := List.mem_of_getElem? hx
    have hrow := e2 _ _ (hR.2.1 x hxm).1
    have hz : ((R.take i).filter fun x => decide (x.2.2.2 ≥ t)).length ≤ 1000 := by
      have := List.length_filter_le (fun x : MRow => decide (x.2.2.2 ≥ t)) (R.take i)
      rw [List.length_take] at this
      have := hM.len
      omega
    have step : (R.take (i + 1)).filter (fun x => decide (x.2.2.2 ≥ t)) = (R.take i).filter (fun x => decide (x.2.2.2 ≥ t)) ++ (if x.2.2.2 ≥ t then [x] else []) := by
      rw [List.take_add_one, hx, List.filter_append]
      congr 1
      by_cases c : x.2.2.2 ≥ t
      · rw [if_pos c]; simp only [Option.toList_some, List.filter_cons, decide_eq_true c, if_true, List.filter_nil]
      · rw [if_neg c]; simp only [Option.toList_some, List.filter_cons, decide_eq_false c, List.filter_nil]; rfl
    walk_at "rd"
    refine ⟨rfl, ?_⟩
    walk_at "rd"
    walk_at "sp" <;> intro c
    · walk_at "rd"
      refine r_yield hD (by rw [List.length_map]; omega) fun H4 b4 h4 => ?_
      exact ⟨n2, same_but e2 b4 n2, by rw [h4, step, if_pos c, List.map_append]; rfl⟩
    · walk_at "rd"
      exact ⟨n2, e2, by rw [step, if_neg c, List.append_nil]; exact hD⟩
  rintro D H1 ⟨n1, e1, hD⟩
  rw [List.length_map, List.take_length] at hD
  have hML := match_live hM t
  have hl1 : (liveL L t).length = (R.filter fun x => decide (x.2.2.2 ≥ t)).length := hML.len
  have hl2 : (liveL L t).length ≤ 1000 := by
    unfold liveL
    have := List.length_filter_le (fun r => decide (t ≤ endOf r)) L
    omega
  generalize hF : (R.filter fun x => decide (x.2.2.2 ≥ t)) = F at hD hML hl1
  have hFm : ∀ x ∈ F, x ∈ R := fun x hx => by rw [← hF] at hx; exact (List.mem_filter.mp hx).1
  have hLm : ∀ x ∈ liveL L t, x ∈ L := fun x hx => (List.mem_filter.mp hx).1
  obtain ⟨⟨dx, hx⟩, hdn, hrd⟩ := id hC
  walk_at "rd"
  refine loopR (fun i σ' H' => (∃ v4 v5 v6 v7, σ' = [some (.ref r), some (.ref m), some (.int t), some (.ref D), v4, v5, v6, v7]) ∧ Same H1 H') ⟨⟨_, _, _, _, rfl⟩, Same.refl _⟩ ?_ ?_
  · rintro i σ' H2 _ ⟨⟨v4, v5, v6, v7, rfl⟩, e2⟩
    have e02 := e1.trans e2
    have hD2 := e2 _ _ hD
    have hC2 : RcAt P w K T.a_Received H2 r d L := ⟨⟨dx, e02 _ _ hx⟩, hdn.ex e02, hrd⟩
    walk_at "rd"
    refine r_mth1 (e02 _ _ hx) rfl ?_
    walk_at "rd"
    refine ⟨r, d, L, t, rfl, hC2, hl, hi, fun p H3 n3 e3 hp => ?_⟩
    have hD3 := e3 _ _ hD2
    walk_at "rd"
    refine r_isiLt hp (by decide +kernel) ?_
    walk_at "rd"
    rw [List.length_map]
    walk_at "rd"
    refine loopR (fun j σ' H' => (∃ v7, σ' = [some (.ref r), some (.ref m), some (.int t), some (.ref D), v4, some (.int (0 + (i : Nat))), some (.ref p), v7]) ∧ H3 = H') ⟨⟨_, rfl⟩, rfl⟩ ?_ ?_
    · rintro j σ' H' hj ⟨⟨v7, rfl⟩, rfl⟩
      have hj : j < F.length := by simpa using hj
      have hz2 : (0 : Int) + (j : Nat) = (j : Nat) := by omega
      rw [hz2]
      have g1 := List.getElem?_eq_getElem (show j < (liveL L t).length by omega)
      have g2 := List.getElem?_eq_getElem hj
      have hm := hML.at g1 g2
      have k1 := (hdn.ex (e02.trans e3)).2 _ (hLm _ (List.mem_of_getElem? g1))
      have k2 := ((hR.2.1 _ (hFm _ (List.mem_of_getElem? g2))).2).ex (e02.trans e3)
      obtain ⟨ds, eds⟩ := key_tup k1
      have x1 : atI ((liveL L t).map fun x => V.ref x.2.1) (j : Nat) = some (.ref ((liveL L t)[j]'(by omega)).2.1) := atI_nat (by rw [List.getElem?_map, g1]; rfl)
      have x2 : atI (F.map fun x => V.ref x.2.1) (j : Nat) = some (.ref F[j].2.1) := atI_nat (by rw [List.getElem?_map, g2]; rfl)
      walk_at "rd"
      refine r_ixL (SqL.of hp) x1 ?_
      walk_at "rd"
      refine r_isiPt (by have := k1.1; rw [eds] at this; exact this) (by decide +kernel) ?_
      walk_at "rd"
      refine r_ixL (SqL.of hp) x1 ?_
      walk_at "rd"
      refine r_ixL (SqL.of hD3) x2 ?_
      refine r_neP k1.1 k2.1 k1.2.1 k2.2.1 (by have := k1.2.2; omega) (by have := k2.2.2; omega) ?_
      rw [nk_eqv _ _ k1.2.1 k2.2.1, decide_eq_true hm.1]
      walk_at "rd"
      exact ⟨⟨_, rfl⟩, rfl⟩
    · rintro σ' H' ⟨⟨v7, rfl⟩, rfl⟩
      walk_at "rd"
      refine r_reverse hp fun H4 b4 h4 => ?_
      walk_at "rd"
      refine r_append h4 ?_
      walk_at "rd"
      intro q H5 n5 e5 hq
      walk_at "rd"
      refine r_append1 (e5 _ _ h4) (by rw [List.length_reverse, List.length_map]; omega) fun H6 b6 h6 => ?_
      exact ⟨⟨_, _, _, _, rfl⟩, same_but ((same_but (e2.trans e3) b4 (fresh_back e2 n3)).trans e5) b6 (fresh_back e2 n3)⟩
  · rintro σ' H' ⟨⟨v4, v5, v6, v7, rfl⟩, e2⟩
    have e02 := e1.trans e2
    have hR2 := e02 _ _ hR1
    walk_at "rd"
    refine r_lenO (e02 _ _ hx) ⟨r, d, L, rfl, ⟨⟨dx, e02 _ _ hx⟩, hdn.ex e02, hrd⟩, L.length, rfl, by omega, ?_⟩
    walk_at "rd"
    rw [List.length_map, hM.len, decide_eq_true rfl]
    exact k _ e02

/-! ### what the store took and what the model took -/
theorem dkeys_put {L : List DRow} {d : PyData} {a : Addr} {e : Int} (hi : AllI L) (nd : ((L.map fun r => (nk r.1, endOf r)).map (·.1)).Nodup) : AllI (takeL L d a e) ∧ (takeL L d a e).map (fun r => (nk r.1, endOf r)) = takeM (L.map fun r => (nk r.1, endOf r)) (nk d) e := by
  unfold takeL dput
  cases hg : dget L d with
  | none =>
    have hno : nk d ∉ (L.map fun r => (nk r.1, endOf r)).map (·.1) := fun z => by
      obtain ⟨p, hp, ep⟩ := List.mem_map.mp z
      obtain ⟨r, hr, rfl⟩ := List.mem_map.mp hp
      unfold dget at hg
      have := List.find?_eq_none.mp (Option.map_eq_none_iff.mp hg) r hr
      exact this (decide_eq_true ep)
    have ei : iget L d e = e := by unfold iget; rw [hg]
    rw [if_neg (by simp), ei, if_neg (by omega)]
    refine ⟨fun r hr => ?_, ?_⟩
    · rcases List.mem_append.mp hr with hr | hr
      · exact hi r hr
      · rw [List.mem_singleton.mp hr]; exact ⟨_, rfl⟩
    · unfold takeM
      rw [if_neg hno, List.map_append]
      rfl
  | some v =>
    obtain ⟨r0, hf, hv⟩ := Option.map_eq_some_iff.mp hg
    have h0 := List.mem_of_find?_eq_some hf
    have hk0 : nk r0.1 = nk d := by
      have := List.find?_some hf
      exact of_decide_eq_true this
    obtain ⟨o, ho⟩ := hi r0 h0
    have ei : iget L d e = o := by unfold iget; rw [hg, ← hv, ho]
    have hin : nk d ∈ (L.map fun r => (nk r.1, endOf r)).map (·.1) := List.mem_map.mpr ⟨_, List.mem_map.mpr ⟨r0, h0, rfl⟩, hk0⟩
    rw [if_pos (by simp), ei]
    refine ⟨fun r hr => ?_, ?_⟩
    · obtain ⟨r', hr', rfl⟩ := List.mem_map.mp hr
      split
      · exact ⟨_, rfl⟩
      · exact hi r' hr'
    · unfold takeM
      rw [if_pos hin, List.map_map, List.map_map]
      refine List.map_congr_left fun r hr => ?_
      show (nk (if nk r.1 = nk d then _ else r).1, endOf (if nk r.1 = nk d then _ else r)) = if nk r.1 = nk d then _ else _
      by_cases c : nk r.1 = nk d
      · rw [if_pos c, if_pos c]
        have er : endOf r = o := by
          have same : r = r0 := by
            obtain ⟨i, hir⟩ := List.mem_iff_getElem?.mp hr
            obtain ⟨j, hjr⟩ := List.mem_iff_getElem?.mp h0
            have h1 : ((L.map fun r => (nk r.1, endOf r)).map (·.1))[i]? = some (nk d) := by rw [List.getElem?_map, List.getElem?_map, hir]; exact congrArg some c
            have h2 : ((L.map fun r => (nk r.1, endOf r)).map (·.1))[j]? = some (nk d) := by rw [List.getElem?_map, List.getElem?_map, hjr]; exact congrArg some hk0
            have := (List.getElem?_inj (List.getElem?_eq_some_iff.mp h1).1 nd).mp (h1.trans h2.symm)
            subst this
            rw [hir] at hjr
            exact Option.some.inj hjr
          rw [same]; unfold endOf; rw [ho]
        show (nk r.1, (if o > e then o else e)) = (nk r.1, if e > endOf r then e else endOf r)
        rw [er]
        congr 1
        split <;> split <;> omega
      · rw [if_neg c, if_neg c]
theorem takeM_nodup {xs : List (NestedKey × Int)} {k : NestedKey} {e : Int} (nd : (xs.map (·.1)).Nodup) : ((takeM xs k e).map (·.1)).Nodup := by
  unfold takeM
  split
  · have : (xs.map fun p => if p.1 = k then (p.1, if e > p.2 then e else p.2) else p).map (·.1) = xs.map (·.1) := by
      rw [List.map_map]
      refine List.map_congr_left fun p _ => ?_
      show (if p.1 = k then _ else p).1 = p.1
      split <;> rfl
    rw [this]; exact nd
  · rename_i h
    rw [List.map_append]
    refine List.nodup_append.mpr ⟨nd, by simp, fun x hx y hy => ?_⟩
    have : y = k := by simpa using hy
    rw [this]
    rintro rfl
    exact h hx
theorem takeM_len {xs : List (NestedKey × Int)} {k : NestedKey} {e : Int} : (takeM xs k e).length ≤ xs.length + 1 := by
  unfold takeM; split <;> simp
/-- one store and its model -/
structure One (P : Program) (w : World) (K : PySem.W.Frag) (C : Addr) (H : Hp) (r d m : Addr) (L : List DRow) (R : List MRow) (n : Nat) : Prop where
  rc : RcAt P w K C H r d L
  ro : RowsAt K H m R
  mt : Match L R
  nd : ((keysR R).map (·.1)).Nodup
  ai : AllI L
  ln : L.length ≤ n
def loc (d m : Addr) (R : List MRow) : List Addr := d :: m :: R.map (·.1)
section
variable {C r d m : Addr} {L : List DRow} {R : List MRow} {n : Nat} {H H' : Hp}
theorem One.ex (h : One P w K C H r d m L R n) (e : Same H H') : One P w K C H' r d m L R n := ⟨⟨let ⟨dx, hx⟩ := h.rc.1; ⟨dx, e _ _ hx⟩, h.rc.2.1.ex e, h.rc.2.2⟩, h.ro.ex e, h.mt, h.nd, h.ai, h.ln⟩
/-- all but some lists and dicts are as they were -/
def ButA (A : List Addr) (H H' : Hp) : Prop := ∀ b o, b ∉ A → H b = some o → H' b = some o
def NoTups (A : List Addr) (H : Hp) : Prop := ∀ l ∈ A, NoTup H l
theorem but_tA {A : List Addr} {a : Addr} {xs : List V} (e : ButA A H H') (n : NoTups A H) (h : SqT K H a xs) : SqT K H' a xs := by
  rcases h with h | h
  · refine .inl ?_
    have na : a ∉ A := fun z => n a z xs h
    rcases h with h | ⟨o, h⟩
    · exact .inl (e _ _ na h)
    · exact .inr ⟨o, e _ _ na h⟩
  · exact .inr h
end
mutual
theorem dp_A {A : List Addr} {H H' : Hp} (e : ButA A H H') (n : NoTups A H) : ∀ (d : PyData) (v : V), pureD d = true → Dp K H v d → Dp K H' v d
  | .int _, _, _, h => by cases h; exact .int _
  | .str _, _, _, h => by cases h; exact .str _
  | .tuple ds, _, p, h => by
    cases h with
    | tup hs ha => exact .tup (but_tA e n hs) (dpAll_A e n ds _ (by simp [pureD] at p; exact p.2) ha)
  | .none, _, p, _ => by simp [pureD] at p
  | .bool _, _, p, _ => by simp [pureD] at p
  | .list _, _, p, _ => by simp [pureD] at p
  | .dict _, _, p, _ => by simp [pureD] at p
theorem dpAll_A {A : List Addr} {H H' : Hp} (e : ButA A H H') (n : NoTups A H) : ∀ (ds : List PyData) (vs : List V), pureAll ds = true → DpAll K H vs ds → DpAll K H' vs ds
  | [], _, _, h => by cases h; exact .nil
  | d :: ds, _, p, h => by
    have p' : pureD d = true ∧ pureAll ds = true := by simpa [pureAll] using p
    cases h with
    | cons h1 h2 => exact .cons (dp_A e n d _ p'.1 h1) (dpAll_A e n ds _ p'.2 h2)
end
section
variable {C r d m : Addr} {L : List DRow} {R : List MRow} {n : Nat} {H H' : Hp} {A : List Addr}
theorem KeyAt.butA {b : Addr} {x : PyData} (h : KeyAt K H b x) (e : ButA A H H') (n : NoTups A H) : KeyAt K H' b x := ⟨dp_A e n _ _ h.2.1 h.1, h.2⟩
theorem One.butA (h : One P w K C H r d m L R n) (e : ButA A H H') (t : NoTups A H) (hr : r ∉ A) (hl : ∀ b ∈ loc d m R, b ∉ A) : One P w K C H' r d m L R n := by
  obtain ⟨⟨⟨dx, hx⟩, ⟨hd, hk⟩, rd⟩, ⟨g1, g2, g3⟩, mt, nd, ai, ln⟩ := h
  refine ⟨⟨⟨dx, e _ _ hr hx⟩, ⟨e _ _ (hl d List.mem_cons_self) hd, fun x hx => (hk x hx).butA e t⟩, rd⟩, ⟨e _ _ (hl m (by simp [loc])) g1, fun x hx => ⟨e _ _ (hl x.1 ?_) (g2 x hx).1, (g2 x hx).2.butA e t⟩, g3⟩, mt, nd, ai, ln⟩
  exact List.mem_cons_of_mem _ (List.mem_cons_of_mem _ (List.mem_map.mpr ⟨x, hx, rfl⟩))
theorem One.noTups (h : One P w K C H r d m L R n) : NoTups (loc d m R) H := by
  intro l hl
  rcases List.mem_cons.mp hl with rfl | hl
  · exact h.rc.2.1.noTup
  · rcases List.mem_cons.mp hl with rfl | hl
    · exact noTup_l h.ro.1
    · obtain ⟨x, hx, rfl⟩ := List.mem_map.mp hl
      exact noTup_l (h.ro.2.1 x hx).1
/-- both take a signed set -/
theorem One.took {H1 H2 : Hp} {x : PyData} {a : Addr} {e : Int} {R' : List MRow} (h : One P w K C H r d m L R n) (b1 : But d H H1) (rc : RcAt P w K C H1 r d (takeL L x a e)) (b2 : ButM m R H1 H2) (ro : RowsAt K H2 m R') (hk : keysR R' = takeM (keysR R) (nk x) e) (nds : d ∉ m :: R.map (·.1)) (nr : r ∉ m :: R.map (·.1)) :
    One P w K C H2 r d m (takeL L x a e) R' (n + 1) ∧ ButA (loc d m R) H H2 := by
  have nd0 : ((L.map fun r => (nk r.1, endOf r)).map (·.1)).Nodup := by rw [show L.map (fun r => (nk r.1, endOf r)) = keysR R from h.mt]; exact h.nd
  have hp := dkeys_put (L := L) (d := x) (a := a) (e := e) h.ai nd0
  have nt1 : NoTups (m :: R.map (·.1)) H1 := by
    intro l hl
    have hld : l ≠ d := fun z => nds (z ▸ hl)
    rcases List.mem_cons.mp hl with rfl | hl
    · exact noTup_l (b1 _ _ hld h.ro.1)
    · obtain ⟨y, hy, rfl⟩ := List.mem_map.mp hl
      exact noTup_l (b1 _ _ hld (h.ro.2.1 y hy).1)
  obtain ⟨⟨dx, hx⟩, ⟨hd, hkk⟩, rd⟩ := rc
  refine ⟨⟨⟨⟨dx, b2 _ _ nr hx⟩, ⟨b2 _ _ nds hd, fun y hy => (hkk y hy).butA b2 nt1⟩, rd⟩, ro, ?_, ?_, hp.1, ?_⟩, fun b o hb hbo => b2 b o (fun z => hb (List.mem_cons_of_mem _ z)) (b1 b o (fun z => hb (z ▸ List.mem_cons_self)) hbo)⟩
  · unfold Match
    rw [hp.2, hk, show L.map (fun r => (nk r.1, endOf r)) = keysR R from h.mt]
  · rw [hk]; exact takeM_nodup h.nd
  · have := congrArg List.length hp.2
    rw [List.length_map] at this
    have h2 := takeM_len (xs := L.map fun r => (nk r.1, endOf r)) (k := nk x) (e := e)
    rw [List.length_map] at h2
    have := h.ln
    omega
end
/-! ### two stores and two models -/
def two (sw : Bool) (a b : Addr) : List V := if sw = true then [.ref b, .ref a] else [.ref a, .ref b]
structure St (P : Program) (w : World) (K : PySem.W.Frag) (C : Addr) (H0 H : Hp) (S M p : Addr) (ps : List Addr) (sw : Bool) (r0 d0 m0 : Addr) (L0 : List DRow) (R0 : List MRow) (r1 d1 m1 : Addr) (L1 : List DRow) (R1 : List MRow) (n : Nat) : Prop where
  hS : H S = some (.lst (two sw r0 r1))
  hM : H M = some (.lst (two sw m0 m1))
  hP : H p = some (.lst (ps.map V.ref))
  hps : ∀ b ∈ ps, ∃ x, KeyAt K H b x ∧ SSd x
  o0 : One P w K C H r0 d0 m0 L0 R0 n
  o1 : One P w K C H r1 d1 m1 L1 R1 n
  e : Same H0 H
  f0 : ∀ b ∈ loc d0 m0 R0, H0 b = none
  f1 : ∀ b ∈ loc d1 m1 R1, H0 b = none
  dis : ∀ b ∈ loc d0 m0 R0, b ∉ loc d1 m1 R1
  x0 : S ∉ loc d0 m0 R0 ∧ M ∉ loc d0 m0 R0 ∧ p ∉ loc d0 m0 R0
  x1 : S ∉ loc d1 m1 R1 ∧ M ∉ loc d1 m1 R1 ∧ p ∉ loc d1 m1 R1
section
variable {C : Addr} {H0 H H' : Hp} {S M p r0 d0 m0 r1 d1 m1 : Addr} {ps : List Addr} {sw : Bool} {L0 L1 : List DRow} {R0 R1 : List MRow} {n : Nat}
theorem St.swap (h : St P w K C H0 H S M p ps sw r0 d0 m0 L0 R0 r1 d1 m1 L1 R1 n) : St P w K C H0 H S M p ps (!sw) r1 d1 m1 L1 R1 r0 d0 m0 L0 R0 n := by
  have t : ∀ a b, two sw a b = two (!sw) b a := fun a b => by cases sw <;> rfl
  exact ⟨by rw [← t]; exact h.hS, by rw [← t]; exact h.hM, h.hP, h.hps, h.o1, h.o0, h.e, h.f1, h.f0, fun b hb z => h.dis b z hb, h.x1, h.x0⟩
theorem St.ex (h : St P w K C H0 H S M p ps sw r0 d0 m0 L0 R0 r1 d1 m1 L1 R1 n) (e : Same H H') : St P w K C H0 H' S M p ps sw r0 d0 m0 L0 R0 r1 d1 m1 L1 R1 n :=
  ⟨e _ _ h.hS, e _ _ h.hM, e _ _ h.hP, fun b hb => let ⟨x, k, hx⟩ := h.hps b hb; ⟨x, k.ex e, hx⟩, h.o0.ex e, h.o1.ex e, h.e.trans e, h.f0, h.f1, h.dis, h.x0, h.x1⟩
def StA (P : Program) (w : World) (K : PySem.W.Frag) (C : Addr) (H0 H : Hp) (S M p : Addr) (ps : List Addr) (n : Nat) : Prop := ∃ sw r0 d0 m0 L0 R0 r1 d1 m1 L1 R1, St P w K C H0 H S M p ps sw r0 d0 m0 L0 R0 r1 d1 m1 L1 R1 n
theorem StA.pick (h : StA P w K C H0 H S M p ps n) {i : Int} (hi : 0 ≤ i ∧ i < 2) : ∃ sw r0 d0 m0 L0 R0 r1 d1 m1 L1 R1, St P w K C H0 H S M p ps sw r0 d0 m0 L0 R0 r1 d1 m1 L1 R1 n ∧ atI (two sw r0 r1) i = some (.ref r0) ∧ atI (two sw m0 m1) i = some (.ref m0) := by
  obtain ⟨sw, r0, d0, m0, L0, R0, r1, d1, m1, L1, R1, h⟩ := h
  have c0 : ∀ a b, atI (two false a b) 0 = some (.ref a) := fun a b => rfl
  have c1 : ∀ a b, atI (two true a b) 1 = some (.ref a) := fun a b => rfl
  rcases (by omega : i = 0 ∨ i = 1) with rfl | rfl
  · cases sw with
    | false => exact ⟨_, _, _, _, _, _, _, _, _, _, _, h, c0 _ _, c0 _ _⟩
    | true => exact ⟨_, _, _, _, _, _, _, _, _, _, _, h.swap, c0 _ _, c0 _ _⟩
  · cases sw with
    | true => exact ⟨_, _, _, _, _, _, _, _, _, _, _, h, c1 _ _, c1 _ _⟩
    | false => exact ⟨_, _, _, _, _, _, _, _, _, _, _, h.swap, c1 _ _, c1 _ _⟩
theorem One.more {r d m : Addr} {L : List DRow} {R : List MRow} {k : Nat} (h : One P w K C H r d m L R n) (hk : n ≤ k) : One P w K C H r d m L R k := ⟨h.rc, h.ro, h.mt, h.nd, h.ai, Nat.le_trans h.ln hk⟩
theorem St.took {H1 H2 : Hp} {x : PyData} {a : Addr} {t : Int} {R' : List MRow} (h : St P w K C H0 H S M p ps sw r0 d0 m0 L0 R0 r1 d1 m1 L1 R1 n) (b1 : But d0 H H1) (rc : RcAt P w K C H1 r0 d0 (takeL L0 x a t)) (b2 : ButM m0 R0 H1 H2) (ro : RowsAt K H2 m0 R') (hk : keysR R' = takeM (keysR R0) (nk x) t)
    (hf : ∀ y ∈ R', y.1 ∈ R0.map (·.1) ∨ H1 y.1 = none) : StA P w K C H0 H2 S M p ps (n + 1) := by
  have lstNe : ∀ {b : Addr} {xs : List V}, H b = some (.lst xs) → b ≠ d0 := fun {b xs} hb z => by
    have := h.o0.rc.2.1.1
    rw [← z, hb] at this
    cases this
  have insNe : ∀ {b : Addr} {C dx : Addr} {fs : List (Str × V)}, H b = some (.ins C dx fs) → b ∉ m0 :: R0.map (·.1) := fun {b C dx fs} hb z => by
    rcases List.mem_cons.mp z with rfl | z
    · rw [h.o0.ro.1] at hb; cases hb
    · obtain ⟨y, hy, rfl⟩ := List.mem_map.mp z
      rw [(h.o0.ro.2.1 y hy).1] at hb; cases hb
  have insNd : ∀ {b : Addr} {C dx : Addr} {fs : List (Str × V)}, H b = some (.ins C dx fs) → b ≠ d0 := fun {b C dx fs} hb z => by
    have := h.o0.rc.2.1.1
    rw [← z, hb] at this
    cases this
  obtain ⟨dx0, hx0⟩ := h.o0.rc.1
  obtain ⟨dx1, hx1⟩ := h.o1.rc.1
  have nds : d0 ∉ m0 :: R0.map (·.1) := fun z => by
    have hd := h.o0.rc.2.1.1
    rcases List.mem_cons.mp z with z | z
    · rw [z, h.o0.ro.1] at hd; cases hd
    · obtain ⟨y, hy, ey⟩ := List.mem_map.mp z
      rw [← ey, (h.o0.ro.2.1 y hy).1] at hd; cases hd
  obtain ⟨o0, bA⟩ := h.o0.took b1 rc b2 ro hk nds (insNe hx0)
  have nt := h.o0.noTups
  have r1n : r1 ∉ loc d0 m0 R0 := fun z => by
    rcases List.mem_cons.mp z with z | z
    · exact insNd hx1 z
    · exact insNe hx1 z
  have freshR : ∀ y ∈ R', y.1 ∉ R0.map (·.1) → H y.1 = none := fun y hy hn => by
    rcases hf y hy with z | z
    · exact absurd z hn
    · cases hb : H y.1 with
      | none => rfl
      | some o =>
        by_cases e : y.1 = d0
        · have := rc.2.1.1
          rw [← e, z] at this
          cases this
        · rw [b1 _ _ e hb] at z; cases z
  have inLoc : ∀ b ∈ loc d0 m0 R', b ∈ loc d0 m0 R0 ∨ H b = none := fun b hb => by
    rcases List.mem_cons.mp hb with rfl | hb
    · exact .inl List.mem_cons_self
    · rcases List.mem_cons.mp hb with rfl | hb
      · exact .inl (by simp [loc])
      · obtain ⟨y, hy, rfl⟩ := List.mem_map.mp hb
        by_cases c : y.1 ∈ R0.map (·.1)
        · exact .inl (List.mem_cons_of_mem _ (List.mem_cons_of_mem _ c))
        · exact .inr (freshR y hy c)
  have out : ∀ {b : Addr} {o : HO}, H b = some o → b ∉ loc d0 m0 R0 → b ∉ loc d0 m0 R' := fun {b o} hb hn z => by
    rcases inLoc b z with z | z
    · exact hn z
    · rw [hb] at z; cases z
  have at1 : ∀ b ∈ loc d1 m1 R1, ∃ o, H b = some o := fun b hb => by
    rcases List.mem_cons.mp hb with rfl | hb
    · exact ⟨_, h.o1.rc.2.1.1⟩
    · rcases List.mem_cons.mp hb with rfl | hb
      · exact ⟨_, h.o1.ro.1⟩
      · obtain ⟨y, hy, rfl⟩ := List.mem_map.mp hb
        exact ⟨_, (h.o1.ro.2.1 y hy).1⟩
  refine ⟨sw, r0, d0, m0, _, R', r1, d1, m1, L1, R1, bA _ _ h.x0.1 h.hS, bA _ _ h.x0.2.1 h.hM, bA _ _ h.x0.2.2 h.hP, fun b hb => ?_, o0, (h.o1.butA bA nt r1n fun b hb z => h.dis b z hb).more (Nat.le_succ _), fun b o hb => ?_, fun b hb => ?_, h.f1, fun b hb z => ?_, ⟨out h.hS h.x0.1, out h.hM h.x0.2.1, out h.hP h.x0.2.2⟩, h.x1⟩
  · obtain ⟨y, ky, hy⟩ := h.hps b hb
    exact ⟨y, ky.butA bA nt, hy⟩
  · exact bA b o (fun z => by have := h.f0 b z; rw [hb] at this; cases this) (h.e b o hb)
  · rcases inLoc b hb with z | z
    · exact h.f0 b z
    · exact fresh_back h.e z
  · obtain ⟨o, ho⟩ := at1 b z
    rcases inLoc b hb with y | y
    · exact h.dis b y z
    · rw [ho] at y; cases y
end

def spLaw (K : PySem.W.Frag) : Sp := fun vs H Q _ => ∃ (a : Addr) (ns : List Int), vs = [.ref a] ∧ SqL K H a (ns.map V.int) ∧ ns.length ≤ 63 ∧ ∀ H', Q (.bl true) H'
section
variable {C r d m : Addr} {L : List DRow} {R : List MRow} {n : Nat} {H H' : Hp}
theorem RcAt.ex (h : RcAt P w K C H r d L) (e : Same H H') : RcAt P w K C H' r d L := ⟨let ⟨dx, hx⟩ := h.1; ⟨dx, e _ _ hx⟩, h.2.1.ex e, h.2.2⟩
theorem RcAt.but {l : Addr} (h : RcAt P w K C H r d L) (e : But l H H') (nr : r ≠ l) (nd : d ≠ l) (t : NoTup H l) : RcAt P w K C H' r d L := ⟨let ⟨dx, hx⟩ := h.1; ⟨dx, e _ _ nr hx⟩, h.2.1.but e nd t, h.2.2⟩
theorem One.nds (h : One P w K C H r d m L R n) : d ∉ m :: R.map (·.1) := fun z => by
  have hd := h.rc.2.1.1
  rcases List.mem_cons.mp z with z | z
  · rw [z, h.ro.1] at hd; cases hd
  · obtain ⟨y, hy, ey⟩ := List.mem_map.mp z
    rw [← ey, (h.ro.2.1 y hy).1] at hd; cases hd
theorem One.new (h : RcAt P w K C H r d []) (hm : H m = some (.lst [])) : One P w K C H r d m [] [] 0 := ⟨h, ⟨hm, by simp, by simp⟩, rfl, by simp [keysR], (fun x hx => by cases hx), Nat.le_refl _⟩
end
theorem St.more {C : Addr} {H0 H : Hp} {S M p : Addr} {ps : List Addr} {n k : Nat} (h : StA P w K C H0 H S M p ps n) (hk : n ≤ k) : StA P w K C H0 H S M p ps k := by
  obtain ⟨sw, r0, d0, m0, L0, R0, r1, d1, m1, L1, R1, h⟩ := h
  exact ⟨sw, r0, d0, m0, L0, R0, r1, d1, m1, L1, R1, h.hS, h.hM, h.hP, h.hps, h.o0.more hk, h.o1.more hk, h.e, h.f0, h.f1, h.dis, h.x0, h.x1⟩
theorem StA.ex {C : Addr} {H0 H H' : Hp} {S M p : Addr} {ps : List Addr} {n : Nat} (h : StA P w K C H0 H S M p ps n) (e : Same H H') : StA P w K C H0 H' S M p ps n := by
  obtain ⟨sw, r0, d0, m0, L0, R0, r1, d1, m1, L1, R1, h⟩ := h
  exact ⟨sw, r0, d0, m0, L0, R0, r1, d1, m1, L1, R1, h.ex e⟩
/-- the signed sets of many moments -/
theorem many_ss {H : Hp} {q sq rq g s : Addr} {n v : PyData} {κ : Str} {t : Int} (hrd : PT K H rq [n, .str κ, .int t, v]) (hg : SqT K H g []) (hs : SqT K H s [.ref g, .int 1, .int 1, .int 0, .int 9, .int 3]) (hsq : SqT K H sq [.ref s]) (hq : SqT K H q [.ref rq, .ref sq]) (pn : pureD n = true ∧ n.depth ≤ 1) (pκ : Asc κ) (pv : pureD v = true ∧ v.depth ≤ 4) (ht : Wd t) : KeyAt K H q (ssD n κ t v [.tuple (.tuple [] :: [1, 1, 0, 9, 3].map PyData.int)]) := by
  have hS : SSd (ssD n κ t v [.tuple (.tuple [] :: [1, 1, 0, 9, 3].map PyData.int)]) := ⟨n, v, κ, t, _, rfl, pn, pκ, ht, pv, fun x hx => by rw [List.mem_singleton.mp hx]; exact ⟨.tuple [], _, rfl, rfl, by simp [PyData.depth, PyData.depthAll], rfl⟩, by simp⟩
  refine hS.key (.tup hq (.cons hrd.dp (.cons (.tup hsq (.cons (.tup hs (.cons (.tup hg .nil) (.cons (.int _) (.cons (.int _) (.cons (.int _) (.cons (.int _) (.cons (.int _) .nil))))))) .nil)) .nil)))
theorem One.here {C r d m : Addr} {L : List DRow} {R : List MRow} {n : Nat} {H : Hp} (h : One P w K C H r d m L R n) : ∀ b ∈ loc d m R, ∃ o, H b = some o := fun b hb => by
  rcases List.mem_cons.mp hb with rfl | hb
  · exact ⟨_, h.rc.2.1.1⟩
  · rcases List.mem_cons.mp hb with rfl | hb
    · exact ⟨_, h.ro.1⟩
    · obtain ⟨y, hy, rfl⟩ := List.mem_map.mp hb
      exact ⟨_, (h.ro.2.1 y hy).1⟩
theorem ways2 {Q : Hp → Prop} {c : Prop} (J : Hp) {M N : Hp → Prop} (q : ∀ J', (c ∧ J' = J) ∨ (¬c ∧ M J' ∧ N J') → Q J') : (c → Q J) ∧ (¬c → ∀ J', M J' → N J' → Q J') := ⟨fun h => q J (.inl ⟨h, rfl⟩), fun h J' m n => q J' (.inr ⟨h, m, n⟩)⟩
theorem ways3 {Q : Hp → Prop} {c : Prop} (J : Hp) {M N O L : Hp → List MRow → Prop} (q : ∀ J', (c ∧ Same J J') ∨ (¬c ∧ ∃ R', M J' R' ∧ N J' R' ∧ O J' R' ∧ L J' R') → Q J') : (c → ∀ J', Same J J' → Q J') ∧ (¬c → ∀ J' R', M J' R' → N J' R' → O J' R' → L J' R' → Q J') := ⟨fun h J' e => q J' (.inl ⟨h, e⟩), fun h J' R' m n o l => q J' (.inr ⟨h, R', m, n, o, l⟩)⟩
theorem ok_law (T : Txt K mg) : Fn P w K mg base 5 "law" ["script"] (spLaw K) := by
  refine T.d_law.ok sc_law (by rintro vs H Q E ⟨_, _, rfl, _⟩; rfl) (fun f cdv A outer s H vs Q E hr h => ?_)
  obtain ⟨a, ns, rfl, hA, hl, k⟩ := h
  refine ⟨_, (pss_cons (ps_set (i := 1) sc_law.nd rfl (by first | exact .inl rfl | exact .inr rfl) (pe_fn (ok__law_cell T) (hr.mono (by decide)) (by rfl) (pa_cons (pv 0) (pa_cons pe_int pa_nil))))
  (pss_cons (ps_set (i := 2) sc_law.nd rfl (by first | exact .inl rfl | exact .inr rfl) (pe_fn (ok__law_draws T) (hr.mono (by decide)) (by rfl) (pa_cons (pv 1) (pa_cons pe_int pa_nil))))
  (pss_cons (ps_setLc (i := 3) (own := [("k", 4)]) (g := (gName 4)) (tt := tYes) rfl sc_law.nd rfl rfl (sw_true rfl rfl rfl (by decide +kernel)) (pi_range1 rfl T.m_range (pa_cons (pe_op op_add pe_int (pe_op op_mod (pe_ix ix_list (pv 2) pe_int (fun _ _ => rfl)) pe_int)) pa_nil)) (blkOk_by (N := ["script", "first", "header", "pool", "k", "stores", "models", "record_set", "signed_set", "cell", "draws", "which", "time", "at"]) (sc := defScope s_law) (by decide +kernel)) (fun _ _ _ _ _ => (pg_name (i := 4) sc_law.nd rfl (Or.inl rfl))) (fun _ _ _ _ _ => pts_nil) (fun _ _ _ _ _ => (pe_fn (ok__law_signed_set T) (hr.mono (by decide)) (by rfl) (pa_cons (pe_op op_add (pe_fn (ok__law_cell T) (hr.mono (by decide)) (by rfl) (pa_cons (pv 0) (pa_cons (pe_op op_add pe_int (pv 4)) pa_nil))) (pv 4)) pa_nil))))
  (pss_cons (ps_set (i := 5) sc_law.nd rfl (by first | exact .inl rfl | exact .inr rfl) (pe_lst (pa_cons (pe_mk0 (ok_Received___init__ T) (hr.mono (by decide)) (by rfl) T.g_Received) (pa_cons (pe_mk0 (ok_Received___init__ T) (hr.mono (by decide)) (by rfl) T.g_Received) pa_nil))))
  (pss_cons (ps_set (i := 6) sc_law.nd rfl (by first | exact .inl rfl | exact .inr rfl) (pe_lst (pa_cons (pe_lst pa_nil) (pa_cons (pe_lst pa_nil) pa_nil))))
  (pss_cut (ps_if (pt_cmpR op_eq (pe_op op_mod (pe_ix ix_list (pv 2) pe_int (fun _ _ => rfl)) pe_int) pe_int (nomark _))
  (pss_cons (ps_set (i := 7) sc_law.nd rfl (by first | exact .inl rfl | exact .inr rfl) (pe_ix ix_tup (pe_ix ix_list (pv 3) pe_int (fun _ _ => rfl)) pe_int (fun _ _ => rfl)))
  (pss_one (ps_for PassesOwn.never rfl (pi_range1 rfl T.m_range (pa_cons (pe_op op_mod (pe_ix ix_list (pv 2) pe_int (fun _ _ => rfl)) pe_int) pa_nil)) (pg_name (i := 4) sc_law.nd rfl (.inl rfl))
  (pss_cons (ps_set (i := 8) sc_law.nd rfl (by first | exact .inl rfl | exact .inr rfl) (pe_tup (pa_cons (pe_op op_catA (pe_slice sl_tupA (pv 7) po_none (po_some pe_int)) (pe_tup (pa_cons (pe_op op_mul pe_int (pv 4)) (pa_cons (pe_ix ix_tup (pv 7) pe_int (fun _ _ => rfl)) pa_nil)))) (pa_cons (pe_tup (pa_cons (pe_tup (pa_cons (pe_tup pa_nil) (pa_cons pe_int (pa_cons pe_int (pa_cons pe_int (pa_cons pe_int (pa_cons pe_int pa_nil))))))) pa_nil)) pa_nil))))
  (pss_cons (ps_expr (pe_mth (ok_Received_take T) T.cl_Received (hr.mono (by decide)) (pe_ix ix_list (pv 5) pe_int (fun _ _ => rfl)) (pa_cons (pv 8) (pa_cons (pe_op op_mod (pv 4) pe_int) pa_nil))))
  (pss_one (ps_expr (pe_fn (ok__law_take T) (hr.mono (by decide)) (by rfl) (pa_cons (pe_ix ix_list (pv 6) pe_int (fun _ _ => rfl)) (pa_cons (pv 8) (pa_cons (pe_op op_mod (pv 4) pe_int) pa_nil)))))))))))
  pss_nil)
  (pss_cons (ps_if (PW.pt (pw_or (pt_not (pt_val (pe_fn (ok__law_holds T) (hr.mono (by decide)) (by rfl) (pa_cons (pe_ix ix_list (pv 5) pe_int (fun _ _ => rfl)) (pa_cons (pe_ix ix_list (pv 6) pe_int (fun _ _ => rfl)) (pa_cons pe_int pa_nil)))))) (pw_or1 (pt_not (pt_val (pe_fn (ok__law_holds T) (hr.mono (by decide)) (by rfl) (pa_cons (pe_ix ix_list (pv 5) pe_int (fun _ _ => rfl)) (pa_cons (pe_ix ix_list (pv 6) pe_int (fun _ _ => rfl)) (pa_cons pe_int pa_nil)))))))))
  (pss_one (ps_ret pe_bl))
  pss_nil)
  (pss_cons (ps_for PassesOwn.never rfl (pi_range2 rfl T.m_range (pa_cons pe_int (pa_cons (pe_callB (cMin2 rfl) (by rfl) T.m_min (by decide +kernel) (pa_cons (pe_callB cLenQ (by rfl) T.m_len PySem.boot_len (pa_cons (pv 0) pa_nil)) (pa_cons pe_int pa_nil))) pa_nil))) (pg_name (i := 4) sc_law.nd rfl (.inl rfl))
  (pss_cons (ps_set (i := 9) sc_law.nd rfl (by first | exact .inl rfl | exact .inr rfl) (pe_callTy cInt (by rfl) T.m_int (by decide +kernel) (pa_cons (pe_ix ix_list (pv 0) (pv 4) (fun _ _ => rfl)) pa_nil)))
  (pss_cons (ps_set (i := 10) sc_law.nd rfl (by first | exact .inl rfl | exact .inr rfl) (pe_slice sl_list (pe_fn (ok__law_draws T) (hr.mono (by decide)) (by rfl) (pa_cons (pv 9) (pa_cons pe_int pa_nil))) (po_some pe_int) po_none))
  (pss_cons (ps_set (i := 11) sc_law.nd rfl (by first | exact .inl rfl | exact .inr rfl) (pe_op op_mod (pe_ix ix_list (pv 10) pe_int (fun _ _ => rfl)) pe_int))
  (pss_cons (ps_set (i := 8) sc_law.nd rfl (by first | exact .inl rfl | exact .inr rfl) (pe_fn (ok__law_variant T) (hr.mono (by decide)) (by rfl) (pa_cons (pe_ix ix_list (pv 3) (pe_op op_mod (pe_ix ix_list (pv 10) pe_int (fun _ _ => rfl)) (pe_callB cLenQ (by rfl) T.m_len PySem.boot_len (pa_cons (pv 3) pa_nil))) (fun _ _ => rfl)) (pa_cons (pe_op op_mod (pe_ix ix_list (pv 10) pe_int (fun _ _ => rfl)) pe_int) pa_nil))))
  (pss_cons (ps_set (i := 12) sc_law.nd rfl (by first | exact .inl rfl | exact .inr rfl) (pe_fn (ok__law_word T) (hr.mono (by decide)) (by rfl) (pa_cons (pv 9) (pa_cons (pe_ix ix_list (pv 10) pe_int (fun _ _ => rfl)) pa_nil))))
  (pss_cons (ps_expr (pe_mth (ok_Received_take T) T.cl_Received (hr.mono (by decide)) (pe_ix ix_list (pv 5) (pv 11) (fun _ _ => rfl)) (pa_cons (pv 8) (pa_cons (pv 12) pa_nil))))
  (pss_cons (ps_expr (pe_fn (ok__law_take T) (hr.mono (by decide)) (by rfl) (pa_cons (pe_ix ix_list (pv 6) (pv 11) (fun _ _ => rfl)) (pa_cons (pv 8) (pa_cons (pv 12) pa_nil)))))
  (pss_one (ps_for PassesOwn.never rfl (pi_range1 rfl T.m_range (pa_cons pe_int pa_nil)) (pg_name (i := 13) sc_law.nd rfl (.inl rfl))
  (pss_one (ps_if (pt_not (pt_val (pe_fn (ok__law_holds T) (hr.mono (by decide)) (by rfl) (pa_cons (pe_ix ix_list (pv 5) (pv 13) (fun _ _ => rfl)) (pa_cons (pe_ix ix_list (pv 6) (pv 13) (fun _ _ => rfl)) (pa_cons (pe_fn (ok__law_moment T) (hr.mono (by decide)) (by rfl) (pa_cons (pe_ix ix_list (pv 6) (pv 13) (fun _ _ => rfl)) (pa_cons (pv 9) (pa_cons (pe_ix ix_list (pv 10) (pe_op op_add pe_int (pv 13)) (fun _ _ => rfl)) pa_nil)))) pa_nil))))))
  (pss_one (ps_ret pe_bl))
  pss_nil))))))))))))
  (pss_one (ps_ret pe_bl)))))))))), ?_⟩
  walk_at "en"
  refine r_cell hA hl (by decide) (by decide) fun c0 => ?_
  walk_at "rd"
  refine r_drw (n := 3) (by decide) fun H1 hh ds n1 e1 hhd hdl hdr => ?_
  walk_at "rd"
  refine r_ixW (SqL.of hhd) hdr (by omega) fun h0 h00 h01 => ?_
  walk_at "rd"
  have hm0 := Int.emod_nonneg h0 (show (6 : Int) ≠ 0 by decide)
  have hm1 := Int.emod_lt_of_pos h0 (show (0 : Int) < 6 by decide)
  refine lcRg (fun D i H' => H1 D = none ∧ Same H1 H' ∧ ∃ ps : List Addr, H' D = some (.lst (ps.map V.ref)) ∧ ps.length = i ∧ ∀ b ∈ ps, ∃ x, KeyAt K H' b x ∧ SSd x) (fun D H2 n2 e2 hD => ⟨n2, e2, [], hD, rfl, by simp⟩) ?_ ?_
  · rintro D i H' hi ⟨n2, e2, ps, hD, hpl, hps⟩
    have hz2 : (0 : Int) + (i : Nat) = (i : Nat) := by omega
    rw [hz2]
    walk_at "rd"
    refine ⟨rfl, ?_⟩
    walk_at "rd"
    refine r_cell (ex_l (e1.trans e2) hA) hl (by omega) (by omega) fun c => ?_
    walk_at "rd"
    refine ⟨_, rfl, fun H3 b x e3 kb hx => ?_⟩
    refine r_yield (e3 _ _ hD) (by rw [List.length_map]; omega) fun H4 b4 h4 => ?_
    have nt : NoTup H3 D := noTup_l (e3 _ _ hD)
    refine ⟨n2, same_but (e2.trans e3) b4 n2, ps ++ [b], by rw [h4, List.map_append]; rfl, by simp [hpl], fun q hq => ?_⟩
    rcases List.mem_append.mp hq with hq | hq
    · obtain ⟨y, ky, hy⟩ := hps q hq
      exact ⟨y, (ky.ex e3).but b4 nt, hy⟩
    · rw [List.mem_singleton.mp hq]
      exact ⟨x, kb.but b4 nt, hx⟩
  rintro p H2 ⟨n2, e2, ps, hp, hpl, hps⟩
  have e02 := e1.trans e2
  walk_at "rd"
  have hp0 : 0 < ps.length := by rw [hpl]; omega
  refine r_made fun x0 dx0 H3 n3 e3 h3 => ?_
  refine ⟨x0, dx0, rfl, h3, fun H4 d0 b4 nd0 rc0 => ⟨rfl, ?_⟩⟩
  have e24 : Same H2 H4 := same_but e3 b4 n3
  walk_at "rd"
  refine r_made fun x1 dx1 H5 n5 e5 h5 => ?_
  refine ⟨x1, dx1, rfl, h5, fun H6 d1 b6 nd1 rc1 => ⟨rfl, ?_⟩⟩
  have e46 : Same H4 H6 := same_but e5 b6 n5
  have rc05 := rc0.ex e5
  obtain ⟨⟨dy0, y0⟩, z0, _⟩ := id rc05
  obtain ⟨⟨dz0, w0⟩, _⟩ := id rc0
  have x01 : x0 ≠ x1 := ne_of_none w0 n5
  have d01 : d0 ≠ x1 := ne_of_none rc0.2.1.1 n5
  have rc06 := rc05.but b6 x01 d01 (noTup_i h5)
  walk_at "rd"
  intro S H7 n7 e7 hS
  walk_at "rd"
  intro m0 H8 n8 e8 hm0
  walk_at "rd"
  intro m1 H9 n9 e9 hm1
  walk_at "rd"
  intro M H10 n10 e10 hM
  have e26 := e24.trans e46
  have e810 := e9.trans e10
  have e710 := e8.trans e810
  have e610 := e7.trans e710
  have hs0 : StA P w K T.a_Received H2 H10 S M p ps 0 := by
    have g0 := e7 _ _ rc06.2.1.1
    have g1 := e7 _ _ rc1.2.1.1
    refine ⟨false, x0, d0, m0, [], [], x1, d1, m1, [], [], e710 _ _ hS, hM, (e26.trans e610) _ _ hp, fun b hb => ?_, .new (rc06.ex e610) (e810 _ _ hm0), .new (rc1.ex e610) (e10 _ _ hm1), e26.trans e610, ?_, ?_, ?_, ⟨?_, ?_, ?_⟩, ⟨?_, ?_, ?_⟩⟩
    · obtain ⟨x, kx, hx⟩ := hps b hb
      exact ⟨x, kx.ex (e26.trans e610), hx⟩
    · intro b hb
      simp only [loc, List.map_nil, List.mem_cons, List.not_mem_nil, or_false] at hb
      rcases hb with rfl | rfl
      · exact fresh_back e3 nd0
      · exact fresh_back (e26.trans e7) n8
    · intro b hb
      simp only [loc, List.map_nil, List.mem_cons, List.not_mem_nil, or_false] at hb
      rcases hb with rfl | rfl
      · exact fresh_back (e24.trans e5) nd1
      · exact fresh_back ((e26.trans e7).trans e8) n9
    · intro b hb z
      simp only [loc, List.map_nil, List.mem_cons, List.not_mem_nil, or_false] at hb z
      rcases hb with rfl | rfl <;> rcases z with z | z
      · exact ne_of_none z0.1 nd1 z
      · exact ne_of_none (e8 _ _ g0) n9 z
      · exact ne_of_none g1 n8 z.symm
      · exact ne_of_none hm0 n9 z
    all_goals
      intro z
      simp only [loc, List.map_nil, List.mem_cons, List.not_mem_nil, or_false] at z
      rcases z with z | z
    · exact ne_of_none rc06.2.1.1 n7 z.symm
    · exact ne_of_none hS n8 z
    · exact ne_of_none ((e8.trans e9) _ _ g0) n10 z.symm
    · exact ne_of_none (e9 _ _ hm0) n10 z.symm
    · exact ne_of_none hp (fresh_back e3 nd0) z
    · exact ne_of_none hp (fresh_back (e26.trans e7) n8) z
    · exact ne_of_none rc1.2.1.1 n7 z.symm
    · exact ne_of_none (e8 _ _ hS) n9 z
    · exact ne_of_none ((e8.trans e9) _ _ g1) n10 z.symm
    · exact ne_of_none hm1 n10 z.symm
    · exact ne_of_none hp (fresh_back (e24.trans e5) nd1) z
    · exact ne_of_none hp (fresh_back ((e26.trans e7).trans e8) n9) z
  have hA2 := ex_l e02 hA
  have hh2 := e2 _ _ hhd
  have E0 : Same H2 H10 := e26.trans e610
  clear e26 e610 e710 e810 e46 e24 rc05 rc06 rc0 rc1 x01 d01 hS hM hm0 hm1 n7 n8 n9 n10 e7 e8 e9 e10 b4 b6 h3 h5 n3 n5 e3 e5 y0 z0 nd0 nd1
  walk_at "rd"
  refine r_cut (fun σ' H' => (∃ v4 v7 v8, σ' = [some (.ref a), some (.int c0), some (.ref hh), some (.ref p), v4, some (.ref S), some (.ref M), v7, v8, none, none, none, none, none]) ∧ StA P w K T.a_Received H2 H' S M p ps 190) ?_ ?_
  · walk_at "rd"
    refine r_ixW (SqL.of (E0 _ _ hh2)) hdr (by omega) fun h1 h10 h11 => ?_
    walk_at "rd"
    walk_at "sp" <;> intro hq
    · walk_at "rd"
      obtain ⟨b0, hb0⟩ : ∃ b0, ps[0]? = some b0 := ⟨_, List.getElem?_eq_getElem hp0⟩
      obtain ⟨x, kx, n, v, κ, t, sg, rfl, hn, hκ, ht, hv, _, _⟩ := hps b0 (List.mem_of_getElem? hb0)
      obtain ⟨ar, ag, vn, vv, gs, y1, y2, y3, y4, y5, y6, y7, y8⟩ := ss_at kx.1
      have hrd : PT K H2 ar [n, .str κ, .int t, v] := ⟨_, y2, .cons y5 (.cons (.str _) (.cons (.int _) (.cons y6 .nil)))⟩
      refine r_ixL (SqL.of (E0 _ _ hp)) (show atI (ps.map V.ref) ((0 : Nat) : Int) = some (.ref b0) from atI_nat (by rw [List.getElem?_map, hb0]; rfl)) ?_
      walk_at "rd"
      refine r_ixW (SqL.of (E0 _ _ hh2)) hdr (by omega) fun h2 h20 h21 => ?_
      walk_at "rd"
      refine loopR (fun i σ' H' => (∃ v4 v8, σ' = [some (.ref a), some (.int c0), some (.ref hh), some (.ref p), v4, some (.ref S), some (.ref M), some (.ref ar), v8, none, none, none, none, none]) ∧ StA P w K T.a_Received H2 H' S M p ps i) ⟨⟨_, _, rfl⟩, hs0⟩ ?_ ?_
      · rintro i σ' H' hi ⟨⟨v4, v8, rfl⟩, hs⟩
        have hz2 : (0 : Int) + (i : Nat) = (i : Nat) := by omega
        have hi : i ≤ 190 := by omega
        rw [hz2]
        walk_at "rd"
        have eH : Same H2 H' := let ⟨_, _, _, _, _, _, _, _, _, _, _, h⟩ := hs; h.e
        refine r_slPT (hrd.ex eH) fun q1 K1 f1 hq1 => ?_
        have hq1 : PT K K1 q1 [n, .str κ] := hq1
        walk_at "rd"
        intro q2 K2 g2 f2 hq2
        have hq2 : PT K K2 q2 [.int (7 * (i : Int)), v] := ⟨_, SqT.of hq2, .cons (.int _) (.cons (dp_ex ((eH.trans f1).trans f2) _ _ y6) .nil)⟩
        refine r_catPT (hq1.ex f2) hq2 (by simp) fun q3 K3 f3 hq3 => ?_
        walk_at "rd"
        intro q4 K4 g4 f4 hq4
        walk_at "rd"
        intro q5 K5 g5 f5 hq5
        walk_at "rd"
        intro q6 K6 g6 f6 hq6
        walk_at "rd"
        intro q7 K7 g7 f7 hq7
        walk_at "rd"
        have f36 := (f4.trans f5).trans f6
        have ka : KeyAt K K7 q7 (ssD n κ (7 * (i : Int)) v [.tuple (.tuple [] :: [1, 1, 0, 9, 3].map PyData.int)]) := many_ss (hq3.ex (f36.trans f7)) (SqT.of (((f5.trans f6).trans f7) _ _ hq4)) (SqT.of ((f6.trans f7) _ _ hq5)) (SqT.of (f7 _ _ hq6)) (SqT.of hq7) hn hκ hv ⟨by omega, by omega⟩
        have f17 : Same H' K7 := (((f1.trans f2).trans f3).trans f36).trans f7
        obtain ⟨sw, r0, d0, m0, L0, R0, r1, d1, m1, L1, R1, h, z1, z2⟩ := (hs.ex f17).pick (i := 0) ⟨by decide, by decide⟩
        refine r_ixL (SqL.of h.hS) z1 ?_
        walk_at "rd"
        obtain ⟨dx, hx⟩ := h.o0.rc.1
        refine r_mth1 hx rfl ?_
        walk_at "rd"
        refine ⟨r0, d0, q7, L0, n, v, κ, _, _, _, rfl, h.o0.rc, by have := h.o0.ln; omega, h.o0.ai, ka, (fun z => by cases z), fun _ J1 b1 rcJ => ?_⟩
        walk_at "rd"
        refine r_ixL (SqL.of (b1 _ _ ?_ h.hM)) z2 ?_
        · intro z; exact h.x0.2.1 (z ▸ List.mem_cons_self)
        walk_at "rd"
        refine ⟨m0, q7, R0, n, v, κ, _, _, _, rfl, h.o0.ro.but b1 h.o0.nds h.o0.rc.2.1.noTup, by have := h.o0.ln; have := h.o0.mt.len; omega, h.o0.nd, ka.but b1 h.o0.rc.2.1.noTup, (fun z => by cases z), fun _ J2 R2 b2 ro hk hf => ?_⟩
        exact ⟨⟨_, _, rfl⟩, h.took b1 rcJ b2 ro hk hf⟩
      · rintro σ' H' ⟨⟨v4, v8, rfl⟩, hs⟩
        exact ⟨⟨_, _, _, rfl⟩, St.more hs (by omega)⟩
    · walk_at "rd"
      exact ⟨⟨_, _, _, rfl⟩, St.more hs0 (by omega)⟩
  clear hs0 E0
  rintro σ' H' ⟨⟨v4, v7, v8, rfl⟩, hs⟩
  walk_at "rd"
  obtain ⟨sw, r0, d0, m0, L0, R0, r1, d1, m1, L1, R1, h, z1, z2⟩ := hs.pick (i := 0) ⟨by decide, by decide⟩
  refine r_ixL (SqL.of h.hS) z1 ?_
  walk_at "rd"
  refine r_ixL (SqL.of h.hM) z2 ?_
  walk_at "rd"
  refine ⟨r0, d0, m0, L0, R0, _, rfl, h.o0.rc, by have := h.o0.ln; omega, h.o0.ai, h.o0.ro, h.o0.mt, fun G1 w1 => ?_⟩
  replace hs := hs.ex w1
  clear z1 z2 h sw r0 d0 m0 L0 R0 r1 d1 m1 L1 R1
  walk_at "rd"
  obtain ⟨sw, r0, d0, m0, L0, R0, r1, d1, m1, L1, R1, h, z1, z2⟩ := hs.pick (i := 1) ⟨by decide, by decide⟩
  refine r_ixL (SqL.of h.hS) z1 ?_
  walk_at "rd"
  refine r_ixL (SqL.of h.hM) z2 ?_
  walk_at "rd"
  refine ⟨r0, d0, m0, L0, R0, _, rfl, h.o0.rc, by have := h.o0.ln; omega, h.o0.ai, h.o0.ro, h.o0.mt, fun G2 w2 => ?_⟩
  replace hs := hs.ex w2
  clear z1 z2 h sw r0 d0 m0 L0 R0 r1 d1 m1 L1 R1
  have eG : Same H2 G2 := let ⟨_, _, _, _, _, _, _, _, _, _, _, h⟩ := hs; h.e
  have hAG := ex_l eG hA2
  walk_at "rd"
  rw [List.length_map]
  walk_at "rd"
  refine loopR (fun i σ' H' => (∃ v4 v7 v8 v9 v10 v11 v12 v13, σ' = [some (.ref a), some (.int c0), some (.ref hh), some (.ref p), v4, some (.ref S), some (.ref M), v7, v8, v9, v10, v11, v12, v13]) ∧ StA P w K T.a_Received H2 H' S M p ps (190 + i)) ⟨⟨_, _, _, _, _, _, _, _, rfl⟩, hs⟩ ?_ ?_
  · clear hs eG hAG
    rintro i σ' H' hi ⟨⟨v4, v7, v8, v9, v10, v11, v12, v13, rfl⟩, hs⟩
    have eH : Same H2 H' := let ⟨_, _, _, _, _, _, _, _, _, _, _, h⟩ := hs; h.e
    have hAH := ex_l eH hA2
    have hi2 : i ≤ 62 ∧ 1 + (i : Int) < ns.length := by
      rcases Nat.lt_or_ge ns.length 63 with c | c <;> omega
    walk_at "rd"
    obtain ⟨y, hy, ya, _⟩ := atI_in (xs := ns.map V.int) (i := 1 + (i : Int)) (by omega) (by rw [List.length_map]; omega)
    obtain ⟨c, _, rfl⟩ := List.mem_map.mp hy
    refine r_ixL hAH ya ?_
    walk_at "rd"
    refine r_drw (n := 14) (by decide) fun J1 dr ds2 g1 f1 hdr1 hdl1 hdd1 => ?_
    walk_at "rd"
    have cut : cutV (ds2.map V.int) (some 8) none = (ds2.drop 8).map V.int := by
      unfold cutV
      rw [List.length_map, hdl1]
      rw [show HT.sIx 14 0 (some 8) = 8 from by decide, show HT.sIx 14 14 none = 14 from by decide, ← List.map_drop, ← List.map_take, List.take_of_length_le (by rw [List.length_drop, hdl1]; exact Nat.le_refl _)]
    refine r_slL (SqL.of hdr1) fun dq J2 g2 f2 hdq => ?_
    rw [cut] at hdq
    have hdl : (ds2.drop 8).length = 6 := by rw [List.length_drop, hdl1]
    have hdd : Drw (ds2.drop 8) := fun d hd => hdd1 d (List.mem_of_mem_drop hd)
    generalize ds2.drop 8 = ds3 at hdq hdl hdd
    have f12 := f1.trans f2
    have nq : H' dq = none := fresh_back f1 g2
    have eJ := eH.trans (f1.trans f2)
    clear cut hdr1 hdl1 hdd1 f1 f2 g1 g2 eH hAH J1
    walk_at "rd"
    refine r_ixW (SqL.of hdq) hdd (by omega) fun w0 w00 w01 => ?_
    walk_at "rd"
    refine r_ixW (SqL.of hdq) hdd (by omega) fun w1 w10 w11 => ?_
    have hp2 := eJ _ _ hp
    walk_at "rd"
    rw [List.length_map]
    walk_at "rd"
    obtain ⟨y, hy, yb, _⟩ := atI_in (xs := ps.map V.ref) (i := w1 % (ps.length : Int)) (Int.emod_nonneg _ (by omega)) (by rw [List.length_map]; exact Int.emod_lt_of_pos _ (by omega))
    obtain ⟨b, hb, rfl⟩ := List.mem_map.mp hy
    obtain ⟨x, kx, hx⟩ := hps b hb
    refine r_ixL (SqL.of hp2) yb ?_
    walk_at "rd"
    refine r_ixW (SqL.of hdq) hdd (by omega) fun w2 w20 w21 => ?_
    walk_at "rd"
    refine ⟨b, _, x, rfl, kx.ex eJ, hx, fun J3 b3 x3 f3 k3 hx3 => ?_⟩
    have hdq3 := f3 _ _ hdq
    walk_at "rd"
    refine r_ixW (SqL.of hdq3) hdd (by omega) fun w3 w30 w31 => ?_
    walk_at "rd"
    refine ⟨_, _, rfl, fun tm htm => ?_⟩
    walk_at "rd"
    have e3 := f12.trans f3
    obtain ⟨sw, r0, d0, m0, L0, R0, r1, d1, m1, L1, R1, hh, z1, z2⟩ := hs.pick (i := w0 % 2) ⟨Int.emod_nonneg _ (by decide), Int.emod_lt_of_pos _ (by decide)⟩
    have nqL : dq ∉ loc d0 m0 R0 := fun z => by
      obtain ⟨o, ho⟩ := hh.o0.here dq z
      rw [nq] at ho
      cases ho
    have h := hh.ex e3
    clear hh
    refine r_ixL (SqL.of h.hS) z1 ?_
    walk_at "rd"
    obtain ⟨dx, hx0⟩ := h.o0.rc.1
    obtain ⟨n, v, κ, t, sg, rfl, _⟩ := hx3
    refine r_mth1 hx0 rfl ?_
    walk_at "rd"
    refine ⟨r0, d0, b3, L0, n, v, κ, _, _, sg, rfl, h.o0.rc, by have := h.o0.ln; omega, h.o0.ai, k3, ways2 J3 (fun J4 o4 => ?_)⟩
    walk_at "rd"
    have hM4 : J4 M = some (.lst (two sw m0 m1)) := by
      rcases o4 with ⟨_, rfl⟩ | ⟨_, b1, _⟩
      · exact h.hM
      · exact b1 _ _ (fun z => h.x0.2.1 (z ▸ List.mem_cons_self)) h.hM
    refine r_ixL (SqL.of hM4) z2 ?_
    walk_at "rd"
    have ro4 : RowsAt K J4 m0 R0 := by
      rcases o4 with ⟨_, rfl⟩ | ⟨_, b1, _⟩
      · exact h.o0.ro
      · exact h.o0.ro.but b1 h.o0.nds h.o0.rc.2.1.noTup
    have k4 : KeyAt K J4 b3 (ssD n κ t v sg) := by
      rcases o4 with ⟨_, rfl⟩ | ⟨_, b1, _⟩
      · exact k3
      · exact k3.but b1 h.o0.rc.2.1.noTup
    refine ⟨m0, b3, R0, n, v, κ, _, _, sg, rfl, ro4, by have := h.o0.ln; have := h.o0.mt.len; omega, h.o0.nd, k4, ways3 J4 (fun J5 o5 => ?_)⟩
    have both : StA P w K T.a_Received H2 J5 S M p ps (190 + (i + 1)) ∧ J5 dq = some (.lst (ds3.map V.int)) := by
      rcases o4 with ⟨c4, rfl⟩ | ⟨c4, b1, rcJ⟩ <;> rcases o5 with ⟨c5, e5⟩ | ⟨c5, R2, b2, ro, hk, hf⟩
      · exact ⟨St.more ⟨_, _, _, _, _, _, _, _, _, _, _, h.ex e5⟩ (by omega), e5 _ _ hdq3⟩
      · exact absurd c4 c5
      · exact absurd c5 c4
      · exact ⟨h.took b1 rcJ b2 ro hk hf, b2 _ _ (fun z => nqL (List.mem_cons_of_mem _ z)) (b1 _ _ (fun z => nqL (z ▸ List.mem_cons_self)) hdq3)⟩
    obtain ⟨hs5, hdq5⟩ := both
    clear o4 o5 k4 ro4 hM4 h z1 z2 hx0 nqL hs
    walk_at "rd"
    refine loopR (fun j σ' H' => (∃ v13, σ' = [some (.ref a), some (.int c0), some (.ref hh), some (.ref p), some (.int (1 + (i : Int))), some (.ref S), some (.ref M), v7, some (.ref b3), some (.int c), some (.ref dq), some (.int (w0 % 2)), some (.int tm), v13]) ∧ Same J5 H') ⟨⟨_, rfl⟩, Same.refl _⟩ ?_ ?_
    · rintro j σ' H6 hj ⟨⟨v13, rfl⟩, e6⟩
      have hj : j < 2 := by simpa using hj
      have hz2 : (0 : Int) + (j : Nat) = (j : Nat) := by omega
      rw [hz2]
      have hdq6 := e6 _ _ hdq5
      obtain ⟨sw, r0, d0, m0, L0, R0, r1, d1, m1, L1, R1, h, z1, z2⟩ := (hs5.ex e6).pick (i := (j : Nat)) ⟨by omega, by omega⟩
      walk_at "rd"
      refine r_ixL (SqL.of h.hS) z1 ?_
      walk_at "rd"
      refine r_ixL (SqL.of h.hM) z2 ?_
      walk_at "rd"
      refine r_ixL (SqL.of h.hM) z2 ?_
      walk_at "rd"
      refine r_ixW (SqL.of hdq6) hdd (by omega) fun w4 w40 w41 => ?_
      walk_at "rd"
      refine ⟨m0, R0, _, _, rfl, h.o0.ro, fun mo => ?_⟩
      walk_at "rd"
      refine ⟨r0, d0, m0, L0, R0, _, rfl, h.o0.rc, by have := h.o0.ln; omega, h.o0.ai, h.o0.ro, h.o0.mt, fun H7 e7 => ?_⟩
      walk_at "rd"
      exact ⟨⟨_, rfl⟩, e6.trans e7⟩
    · rintro σ' H6 ⟨⟨v13, rfl⟩, e6⟩
      exact ⟨⟨_, _, _, _, _, _, _, _, rfl⟩, hs5.ex e6⟩
  · rintro σ' H' _
    walk_at "rd"
    exact k _

end
end My
open PySem PySem.W PyProof.Rows
theorem My.law_fin {P : Program} {w : World} {K : PySem.W.Frag} {mg : Str → Option Value} {h : Heap} {fa : Addr} (KX : K.In h) (hmg : mg "law" = some (.ref fa)) (T : My.Txt K mg) :
    ∃ fd : FuncData, (∀ (s : Shared) (u : Value), BindsTo s fd ⟨[u], []⟩ [("script", u)]) ∧ ∀ base : Heap, K.In base → base.Ns mainGlobals mg → L2.FnOk P w K mg base L2.CX0 5 fa fd ["script"] (My.spLaw K) :=
  My.Fn.fin T.d_law hmg (fun _ _ _ _ _ _ _ => rfl) (fun base => My.ok_law T)
theorem My.txt_mk_ok : True := trivial
def My.txt_mk {K : PySem.W.Frag} {mg : Str → Option Value} {a_Received : Addr} (m_abs : mg "abs" = none) (m_int : mg "int" = none) (m_isinstance : mg "isinstance" = none) (m_len : mg "len" = none) (m_list : mg "list" = none) (m_max : mg "max" = none) (m_min : mg "min" = none) (m_range : mg "range" = none) (m_str : mg "str" = none) (m_tuple : mg "tuple" = none) (d__law_cell : My.Def1 K mg "_law_cell" ["script", "k"] My.s__law_cell) (d__law_draws : My.Def1 K mg "_law_draws" ["cell", "count"] My.s__law_draws) (d__law_word : My.Def1 K mg "_law_word" ["cell", "draw"] My.s__law_word) (d__law_label : My.Def1 K mg "_law_label" ["code"] My.s__law_label) (d__law_name : My.Def1 K mg "_law_name" ["first", "second"] My.s__law_name) (d__law_values : My.Def1 K mg "_law_values" ["kind", "word", "name", "draw"] My.s__law_values) (d__law_signed_set : My.Def1 K mg "_law_signed_set" ["cell"] My.s__law_signed_set) (d__law_variant : My.Def1 K mg "_law_variant" ["signed_set", "variant"] My.s__law_variant) (d__law_take : My.Def1 K mg "_law_take" ["rows", "signed_set", "time"] My.s__law_take) (d__law_moment : My.Def1 K mg "_law_moment" ["rows", "cell", "draw"] My.s__law_moment) (d__law_holds : My.Def1 K mg "_law_holds" ["received", "rows", "time"] My.s__law_holds) (d_law : My.Def1 K mg "law" ["script"] My.s_law) (g_Received : mg "Received" = some (.ref a_Received)) (cl_Received : L2.Cls K a_Received) (n_Received__ends : L2.NoAttr K a_Received "_ends") (d_Received___init__ : My.DefI K a_Received "Received.__init__" ["self"] My.s_Received___init__) (d_Received_take : My.DefM K a_Received "take" "Received.take" ["self", "signed_set", "time"] My.s_Received_take) (d_Received_live : My.DefM K a_Received "live" "Received.live" ["self", "time"] My.s_Received_live) (d_Received___len__ : My.DefM K a_Received "__len__" "Received.__len__" ["self"] My.s_Received___len__) : My.Txt K mg :=
  ⟨m_abs, m_int, m_isinstance, m_len, m_list, m_max, m_min, m_range, m_str, m_tuple, d__law_cell, d__law_draws, d__law_word, d__law_label, d__law_name, d__law_values, d__law_signed_set, d__law_variant, d__law_take, d__law_moment, d__law_holds, d_law, a_Received, g_Received, cl_Received, n_Received__ends, d_Received___init__, d_Received_take, d_Received_live, d_Received___len__⟩
set_option maxRecDepth 100000 in
set_option maxHeartbeats 0 in
theorem PySem.Challenge.cw_provenames_k36_received_sets_live_until_holds : PySem.Challenge.rw_provenames_k36_received_sets_live_until.Holds := by
  w_on; o_law; k_head; (case hw => w_witness2)
  k_fill
  refine L2.walk_of (l := PySem.Challenge.rw_provenames_k36_received_sets_live_until) (n := 63) (k := 5) (x := "script") (CX := fun _ => L2.CX0) (sp := fun w => My.spLaw _) rfl (by decide) rfl ⟨rfl, by decide, by decide⟩ (fun w h Y => PySem.W.kIn_of Y) ?F (fun _ _ a ns hl _ hS => ⟨a, ns, rfl, hS, hl, fun _ => rfl⟩) (fun _ _ _ _ _ h => h)
  case F =>
    intro w mg fa h KX G hmg
    refine My.law_fin KX hmg ?T
    case T =>
      refine' My.txt_mk ?m_abs ?m_int ?m_isinstance ?m_len ?m_list ?m_max ?m_min ?m_range ?m_str ?m_tuple ?d__law_cell ?d__law_draws ?d__law_word ?d__law_label ?d__law_name ?d__law_values ?d__law_signed_set ?d__law_variant ?d__law_take ?d__law_moment ?d__law_holds ?d_law ?g_Received ?cl_Received ?n_Received__ends ?d_Received___init__ ?d_Received_take ?d_Received_live ?d_Received___len__
      (case m_abs => exact PySem.W.mg_none_of KX G (by k_is))
      (case m_int => exact PySem.W.mg_none_of KX G (by k_is))
      (case m_isinstance => exact PySem.W.mg_none_of KX G (by k_is))
      (case m_len => exact PySem.W.mg_none_of KX G (by k_is))
      (case m_list => exact PySem.W.mg_none_of KX G (by k_is))
      (case m_max => exact PySem.W.mg_none_of KX G (by k_is))
      (case m_min => exact PySem.W.mg_none_of KX G (by k_is))
      (case m_range => exact PySem.W.mg_none_of KX G (by k_is))
      (case m_str => exact PySem.W.mg_none_of KX G (by k_is))
      (case m_tuple => exact PySem.W.mg_none_of KX G (by k_is))
      (case d__law_cell => (refine' My.def1_mk KX G (fun _ _ _ _ _ _ us hl => match us, hl with | [_, _], _ => rfl) ?a ?l ?c ?k; (case a => k_is); (case l => k_is); (case c => k_is); (case k => k_is)))
      (case d__law_draws => (refine' My.def1_mk KX G (fun _ _ _ _ _ _ us hl => match us, hl with | [_, _], _ => rfl) ?a ?l ?c ?k; (case a => k_is); (case l => k_is); (case c => k_is); (case k => k_is)))
      (case d__law_word => (refine' My.def1_mk KX G (fun _ _ _ _ _ _ us hl => match us, hl with | [_, _], _ => rfl) ?a ?l ?c ?k; (case a => k_is); (case l => k_is); (case c => k_is); (case k => k_is)))
      (case d__law_label => (refine' My.def1_mk KX G (fun _ _ _ _ _ _ us hl => match us, hl with | [_], _ => rfl) ?a ?l ?c ?k; (case a => k_is); (case l => k_is); (case c => k_is); (case k => k_is)))
      (case d__law_name => (refine' My.def1_mk KX G (fun _ _ _ _ _ _ us hl => match us, hl with | [_, _], _ => rfl) ?a ?l ?c ?k; (case a => k_is); (case l => k_is); (case c => k_is); (case k => k_is)))
      (case d__law_values => (refine' My.def1_mk KX G (fun _ _ _ _ _ _ us hl => match us, hl with | [_, _, _, _], _ => rfl) ?a ?l ?c ?k; (case a => k_is); (case l => k_is); (case c => k_is); (case k => k_is)))
      (case d__law_signed_set => (refine' My.def1_mk KX G (fun _ _ _ _ _ _ us hl => match us, hl with | [_], _ => rfl) ?a ?l ?c ?k; (case a => k_is); (case l => k_is); (case c => k_is); (case k => k_is)))
      (case d__law_variant => (refine' My.def1_mk KX G (fun _ _ _ _ _ _ us hl => match us, hl with | [_, _], _ => rfl) ?a ?l ?c ?k; (case a => k_is); (case l => k_is); (case c => k_is); (case k => k_is)))
      (case d__law_take => (refine' My.def1_mk KX G (fun _ _ _ _ _ _ us hl => match us, hl with | [_, _, _], _ => rfl) ?a ?l ?c ?k; (case a => k_is); (case l => k_is); (case c => k_is); (case k => k_is)))
      (case d__law_moment => (refine' My.def1_mk KX G (fun _ _ _ _ _ _ us hl => match us, hl with | [_, _, _], _ => rfl) ?a ?l ?c ?k; (case a => k_is); (case l => k_is); (case c => k_is); (case k => k_is)))
      (case d__law_holds => (refine' My.def1_mk KX G (fun _ _ _ _ _ _ us hl => match us, hl with | [_, _, _], _ => rfl) ?a ?l ?c ?k; (case a => k_is); (case l => k_is); (case c => k_is); (case k => k_is)))
      (case d_law => (refine' My.def1_mk KX G (fun _ _ _ _ _ _ us hl => match us, hl with | [_], _ => rfl) ?a ?l ?c ?k; (case a => k_is); (case l => k_is); (case c => k_is); (case k => k_is)))
      (case g_Received => (refine' PySem.W.mg_of KX G ?z; (case z => k_is)))
      (case cl_Received => (refine' ⟨?z1, ?z2, ?z3, ?z4⟩; (case z1 => k_is); (case z2 => k_is); (case z3 => k_is); (case z4 => k_is)))
      (case n_Received__ends => (show PySem.W.findIn _ _ _ = some none; k_is))
      (case d_Received___init__ => (refine' My.defi_mk (fun _ _ _ _ _ _ us hl => match us, hl with | [_], _ => rfl) ?a ?i ?l ?c ?k ?mk ?kc; (case a => k_is); (case i => k_is); (case l => k_is); (case c => k_is); (case k => k_is); (case mk => k_is); (case kc => k_is)))
      (case d_Received_take => (refine' My.defm_mk (fun _ _ _ _ _ _ us hl => match us, hl with | [_, _, _], _ => rfl) ?a ?i ?l ?c ?k; (case a => k_is); (case i => k_is); (case l => k_is); (case c => k_is); (case k => k_is)))
      (case d_Received_live => (refine' My.defm_mk (fun _ _ _ _ _ _ us hl => match us, hl with | [_, _], _ => rfl) ?a ?i ?l ?c ?k; (case a => k_is); (case i => k_is); (case l => k_is); (case c => k_is); (case k => k_is)))
      (case d_Received___len__ => (refine' My.defm_mk (fun _ _ _ _ _ _ us hl => match us, hl with | [_], _ => rfl) ?a ?i ?l ?c ?k; (case a => k_is); (case i => k_is); (case l => k_is); (case c => k_is); (case k => k_is)))
#print axioms PySem.Challenge.cw_provenames_k36_received_sets_live_until_holds

