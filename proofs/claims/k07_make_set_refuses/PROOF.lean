import PyProof.Rows.All
import Wide.All
import OpenK.AllK
import Wide.FinOn
import HandS.ForMost
import HandS.ForExc
import HandS.TupAny
import HandS.IsInst
import HandS.Codes
import HandS.Style
import HandS.StrMore
import HandS.Small
import HandS.ExcIs
import HandS.FStr
import HandS.RaiseMore
import HandS.GenBody
import HandS.Zip
import HandS.GenYield
import HandS.GenCall
import HandS.GenList
import PyProof.GenComp
import KE.SortData
import KE.DataCmp
import HandS.Deep
import HandS.Property
import HandS.Defaults
import HandS.More
import HandS.RevRange
import HandS.WideBits
import HandS.Strs
import HandS.Walk
import KE.GoesComp
import KE.GoesRaise
import HandS.TupSets
import KE.KeyNested
import KE.DataMinKey
import HandS.TryOnly
import HandS.SortKw
import KE.KDictKeyed
import HandS.Iter
import HandS.DictSubView
import HandS.DictTup
import HandS.SetFor
import KE.GoesMore
import HandS.Star
import HandS.FStrTup
import PySem.Challenge.RW_provenames_k07_make_set_refuses
set_option Elab.async false
set_option linter.all false
set_option maxRecDepth 100000
set_option maxHeartbeats 4000000
namespace My
open PySem PySem.Spec PyProof.Rows L2
open C8 (tCut pss_cut)
/-! ### defs by their names -/
/-- the def st stands at the module's name x -/
def Def1 (K : PySem.W.Frag) (mg : Str → Option Value) (x : Str) (ps : List Str) (st : Stmt) : Prop := ∃ f fd, mg x = some (.ref f) ∧ Fun K x x st f fd ∧ Binds K fd ps []
/-- the def at the module's name x keeps the promise sp -/
def Fn (P : Program) (w : World) (K : PySem.W.Frag) (mg : Str → Option Value) (base : Heap) (k : Nat) (x : Str) (ps : List Str) (sp : Sp) : Prop :=
  ∃ f fd, mg x = some (.ref f) ∧ PySem.W.keepIn K (.ref f) = true ∧ Binds K fd ps [] ∧ FnOk P w K mg base CX0 k f fd ps sp ∧ ∃ oc od osl, K.lookup f = some ⟨oc, od, .func fd, osl⟩
theorem def1_mk {K : PySem.W.Frag} {h : Heap} {mg : Str → Option Value} {x : Str} {ps : List Str} {st : Stmt} {f : Addr} {oc : Value} {od an : Option Addr} {osl : Array (Option Value)} {kV doc pm cdv ct : Value} (X : K.In h) (G : h.Ns mainGlobals mg)
    (hb : ∀ (kV doc pm : Value) (an : Option Addr) (cdv ct : Value) (us : List Value), us.length = ps.length → bindArgs (PySem.W.fnOf x x (defArgs st) (defBody st) (defScope st) .none kV doc pm an cdv ct) ⟨us, []⟩ = pure (ps.zip us))
    (a : PySem.W.nsIn K mainGlobals x = some (some (.ref f))) (l : K.lookup f = some ⟨oc, od, .func (PySem.W.fnOf x x (defArgs st) (defBody st) (defScope st) .none kV doc pm an cdv ct), osl⟩)
    (c : PySem.W.codeIn K cdv x = true) (k : PySem.W.keepIn K (.ref f) = true) : Def1 K mg x ps st :=
  have F := fun_mk (st := st) l c k
  ⟨f, _, PySem.W.mg_of X G a, F, F.binds hb⟩
section
variable {P : Program} {w : World} {K : PySem.W.Frag} {mg : Str → Option Value} {base : Heap}
theorem Def1.ok {x : Str} {ps N : List Str} {st : Stmt} {k : Nat} {sp : Sp} (d : Def1 K mg x ps st) (S : FnScope N ps (defScope st)) (len : ∀ vs H Q E, sp vs H Q E → vs.length = ps.length)
    (hbody : ∀ (f : Addr) (cdv : Value) (A : Around) (outer : List Env) (s : Shared) (H : Hp) (vs : List V) (Q : VK) (E : XK), Room k (A.deeper (envOfC x (defScope st) s.heap.objs.size f cdv)) → sp vs H Q E →
      ∃ t, PSs (cxOf CX0 P w K mg base N x (defScope st) f cdv A outer s H E).nox (defBody st) t ∧ t { nx := fun _ H' => Q .non H', rt := Q } (start N vs) H) : Fn P w K mg base (k + 1) x ps sp := by
  obtain ⟨f, fd, hm, F, b⟩ := d
  refine ⟨f, fd, hm, F.kp, b, F.ok S len (hbody f), ?_⟩
  obtain ⟨oc, od, kV, doc, pm, an, cdv, ct, osl, _, lk, _⟩ := F.ex
  exact ⟨oc, od, osl, lk⟩
/-- the law's def, at the end -/
theorem Fn.fin {x p : Str} {st : Stmt} {k : Nat} {sp : Sp} {fa : Addr} (d : Def1 K mg x [p] st) (hfa : mg x = some (.ref fa))
    (hb : ∀ (kV doc pm : Value) (an : Option Addr) (cdv ct u : Value), bindArgs (PySem.W.fnOf x x (defArgs st) (defBody st) (defScope st) .none kV doc pm an cdv ct) ⟨[u], []⟩ = pure [(p, u)])
    (h : ∀ base : Heap, Fn P w K mg base k x [p] sp) : ∃ fd : FuncData, (∀ (s : Shared) (u : Value), BindsTo s fd ⟨[u], []⟩ [(p, u)]) ∧ ∀ base : Heap, K.In base → base.Ns mainGlobals mg → FnOk P w K mg base CX0 k fa fd [p] sp := by
  obtain ⟨f, fd, hm, F, b⟩ := d
  obtain ⟨oc, od, kV, doc, pm, an, cdv, ct, osl, e, lk, _⟩ := F.ex
  have ef : f = fa := Value.ref.inj (Option.some.inj (hm.symm.trans hfa))
  subst ef
  refine ⟨fd, fun s u => ?_, fun base _ _ => ?_⟩
  · rw [e]
    exact .of_eq (hb _ _ _ _ _ _ _)
  · obtain ⟨f', fd', hm', _, _, ok, oc', od', osl', lk'⟩ := h base
    have ef : f' = f := Value.ref.inj (Option.some.inj (hm'.symm.trans hm))
    subst ef
    rw [lk] at lk'
    have e2 := Option.some.inj lk'
    have e3 : fd = fd' := by
      injection e2 with _ _ e4 _
      injection e4
    rw [e3]
    exact ok
end
section
variable {X : Cx} {k : Nat} {x : Str} {ps : List Str} {sp : Sp}
def tFn (sp : Sp) (t : TA) : TE := fun σ H Q => t σ H fun vs H1 => sp vs H1 Q E0
theorem pe_fn {e : Expr} {es : List Expr} {t : TA} {p pos : Pos} (G : Fn X.prog X.w X.K X.mg X.base k x ps sp) (hr : Room k X.A) (hg : Gl X x) (ha : PA X (e :: es) t) (hdb : (x == ("__debug__" : Str)) = false := by decide)
    (he : starEach (e :: es) X.env = (false, eval e X.env) :: starEach es X.env := by rfl) (hpl : (backTo pos (starEach es X.env)).any (·.1) = false := by rfl) : PE X (.Call (.Name x p) (e :: es) [] pos) (tFn sp t) := by
  obtain ⟨f, fd, hm, hk, hb, F, _⟩ := G
  have h := pe_call (p := p) F hr hg hm hk hb .nil (E := E0) pass0 ha hdb he hpl
  refine ⟨fun pins s σ H Q I q => h.run pins s σ H Q I ?_⟩
  unfold tCall
  simp only [List.append_nil]
  exact q
theorem pe_fn0 {p pos : Pos} (G : Fn X.prog X.w X.K X.mg X.base k x ps sp) (hr : Room k X.A) (hg : Gl X x) (hdb : (x == ("__debug__" : Str)) = false := by decide) : PE X (.Call (.Name x p) [] [] pos) (tFn sp tNil) := by
  obtain ⟨f, fd, hm, hk, hb, F, _⟩ := G
  have h := pe_call0 F hr hg hm hk hb .nil (E := E0) pass0 hdb (p := p) (pos := pos)
  refine ⟨fun pins s σ H Q I q => h.run pins s σ H Q I ?_⟩
  unfold tCall
  simp only [List.append_nil]
  exact q
/-- a constant of the module -/
def GC (mg : Str → Option Value) (x : Str) (v : V) : Prop := ∃ u, mg x = some u ∧ RelV v u
theorem pe_gc {x : Str} {v : V} {pos : Pos} (h : GC X.mg x v) (hg : Gl X x) (hd : (x == ("__debug__" : Str)) = false := by decide) : PE X (.Name x pos) (tC v) := by
  obtain ⟨u, hm, r⟩ := h
  exact pe_glob hg hm r hd
end

/-! ### a statement, then the rest, with a word between them -/
section
variable {X : Cx}
theorem r_cut {t u : TS} {a c d : L2.St → Hp → Prop} {b : VK} {σ : L2.St} {H : Hp} (Mid : L2.St → Hp → Prop) (h : t ⟨Mid, b, c, d⟩ σ H) (k : ∀ σ' H', Mid σ' H' → u ⟨a, b, c, d⟩ σ' H') : tCut t u ⟨a, b, c, d⟩ σ H := ⟨Mid, h, k⟩
end
section
variable {X : Cx}
/-- an expression's value, told by a word between it and what follows -/
def tCutE (t : TE) : TE := fun σ H Q => ∃ Mid : VK, t σ H Mid ∧ ∀ v H', Mid v H' → Q v H'
theorem pe_cut {e : Expr} {t : TE} (h : PE X e t) : PE X e (tCutE t) := by
  refine ⟨fun pins s σ H Q I q => ?_⟩
  obtain ⟨Mid, hm, hk⟩ := q
  refine thn (h.run pins s σ H Mid I hm) fun v s1 q1 => ?_
  obtain ⟨x, H', I', r, m⟩ := q1
  exact ⟨x, H', I', r, hk _ _ m⟩
theorem r_cutE {t : TE} {σ : L2.St} {H : Hp} {Q : VK} (Mid : VK) (h : t σ H Mid) (k : ∀ v H', Mid v H' → Q v H') : tCutE t σ H Q := ⟨Mid, h, k⟩
end
/-! ### the rules under names of their own -/
section
variable {X : Cx} {to te : TE}
def rLenS : List V → Hp → VK → Prop := fun xs H Q => ∃ z, xs = [.str z] ∧ z.length ≤ sizeLine ∧ Q (.int z.length) H
theorem cLenS : CallR X (.builtin "len") rLenS := call_len_str
def rLenQ (K : PySem.W.Frag) : List V → Hp → VK → Prop := fun xs H Q => ∃ p ys, xs = [.ref p] ∧ (SqL K H p ys ∨ SqT K H p ys) ∧ Q (.int ys.length) H
theorem cLenQ : CallR X (.builtin "len") (rLenQ X.K) := call_len_seq
def rInt : List V → Hp → VK → Prop := fun xs H Q => (∃ i, xs = [.int i] ∧ Q (.int i) H) ∨ ∃ k, xs = [.bl k] ∧ Q (.int (if k then 1 else 0)) H
theorem cInt : CallR X (.type "int") rInt := call_int1
def rAddS : R2 := fun x y H Q => ∃ i j, x = .str i ∧ y = .str j ∧ i.length + j.length ≤ sizeLine ∧ Q (.str (i ++ j)) H
theorem oAddS : OpR X (binaryOp .Add) rAddS := op_add_str
def rInS : R2 := fun x y H Q => ∃ (c : Nat) (z : Str), x = .str ⟨#[c]⟩ ∧ y = .str z ∧ Q (.bl (decide (c ∈ z.cps.toList))) H
def rNotInS : R2 := fun x y H Q => ∃ (c : Nat) (z : Str), x = .str ⟨#[c]⟩ ∧ y = .str z ∧ Q (.bl (!decide (c ∈ z.cps.toList))) H
theorem oInS : OpR X (compareOp .In) rInS := op_in_sign
theorem oNotInS : OpR X (compareOp .NotIn) rNotInS := op_notIn_sign
def rTupOf (K : PySem.W.Frag) : List V → Hp → VK → Prop := fun xs H Q => ∃ p ys, xs = [.ref p] ∧ ((SqL K H p ys ∧ ∀ l, H l = none → Q (.ref l) (upd H l (.tup ys))) ∨ (SqT K H p ys ∧ Q (.ref p) H))
theorem cTupOf : CallR X (.type "tuple") (rTupOf X.K) := call_tuple_of
def rListOf (K : PySem.W.Frag) : List V → Hp → VK → Prop := fun xs H Q => ∃ p ys, xs = [.ref p] ∧ (SqL K H p ys ∨ SqT K H p ys) ∧ ∀ l, H l = none → Q (.ref l) (upd H l (.lst ys))
theorem cListOf : CallR X (.type "list") (rListOf X.K) := call_list_of
def tUp (to : TE) : TE := tM0 (fun x xs H Q => ∃ a, x = .str a ∧ xs = [] ∧ a.length ≤ 5592405 ∧ Q (.str (Txt.upper a)) H) to
theorem pe_up {o : Expr} {apos pos : Pos} (ho : PE X o to) (hbase : attributeBase o "upper" X.env (eval o X.env) = eval o X.env := by rfl) (hline : (apos.endLine == pos.line) = true := by rfl) : PE X (.Call (.Attribute o "upper" apos) [] [] pos) (tUp to) := pe_upper ho hbase hline
def tLow (to : TE) : TE := tM0 (fun x xs H Q => ∃ a, x = .str a ∧ xs = [] ∧ a.length ≤ 5592405 ∧ Q (.str (Txt.lower a)) H) to
theorem pe_low {o : Expr} {apos pos : Pos} (ho : PE X o to) (hbase : attributeBase o "lower" X.env (eval o X.env) = eval o X.env := by rfl) (hline : (apos.endLine == pos.line) = true := by rfl) : PE X (.Call (.Attribute o "lower" apos) [] [] pos) (tLow to) := pe_lower ho hbase hline
end
theorem nox_K {CX : CXT} {P : Program} {w : World} {K : PySem.W.Frag} {mg : Str → Option Value} {base : Heap} {N : List Str} {q : Str} {sc : Scope} {f : Addr} {cdv : Value} {A : Around} {outer : List Env} {s : Shared} {H : Hp} {E : XK} :
    (cxOf CX P w K mg base N q sc f cdv A outer s H E).nox.K = K := rfl
/-! ### heaps -/
theorem ex_new {H : Hp} {p : Addr} {o : HO} (h : H p = none) : Same H (upd H p o) := fun a u e => by
  rw [upd_ne (ne_of_none e h)]
  exact e
/-- all but what stands at l is as it was -/
def But (l : Addr) (H H' : Hp) : Prop := ∀ b o, b ≠ l → H b = some o → H' b = some o
theorem But.refl (l : Addr) (H : Hp) : But l H H := fun _ _ _ h => h
theorem But.trans {l : Addr} {H H1 H2 : Hp} (a : But l H H1) (b : But l H1 H2) : But l H H2 := fun c o n h => b c o n (a c o n h)
theorem But.of {l : Addr} {H H' : Hp} (a : Same H H') : But l H H' := fun c o _ h => a c o h
theorem But.upd {l : Addr} {H : Hp} {o : HO} : But l H (upd H l o) := fun c u n h => by
  rw [upd_ne n]
  exact h
theorem But.same {l : Addr} {H H0 H' : Hp} (e : Same H0 H) (b : But l H H') (h : H0 l = none) : Same H0 H' := fun c o h0 => b c o (ne_of_none h0 h) (e c o h0)
theorem ex_l {K : PySem.W.Frag} {H H' : Hp} {a : Addr} {xs : List V} (e : Same H H') (h : SqL K H a xs) : SqL K H' a xs := e.seq h
theorem ex_t {K : PySem.W.Frag} {H H' : Hp} {a : Addr} {xs : List V} (e : Same H H') (h : SqT K H a xs) : SqT K H' a xs :=
  h.imp (fun h => h.imp (e a _) fun ⟨o, h⟩ => ⟨o, e a _ h⟩) id
theorem but_rd {l : Addr} {H H' : Hp} {a : Addr} {u : HO} (e : But l H H') (n : a ≠ l) (h : Rd H a u) : Rd H' a u := by
  rcases h with h | ⟨o, h⟩
  · exact Or.inl (e a _ n h)
  · exact Or.inr ⟨o, e a _ n h⟩
theorem but_t {K : PySem.W.Frag} {l : Addr} {H H' : Hp} {a : Addr} {xs ys : List V} (e : But l H H') (hl : H l = some (.lst ys)) (h : SqT K H a xs) : SqT K H' a xs := by
  rcases h with h | h
  · refine Or.inl (but_rd e ?_ h)
    rintro rfl
    rcases h with h | ⟨o, h⟩
    · rw [hl] at h; cases h
    · rw [hl] at h; cases h
  · exact Or.inr h
theorem but_l {K : PySem.W.Frag} {l : Addr} {H H' : Hp} {a : Addr} {xs : List V} (e : But l H H') (n : a ≠ l) (h : SqL K H a xs) : SqL K H' a xs := by
  rcases h with h | h
  · exact Or.inl (but_rd e n h)
  · exact Or.inr h
theorem fresh_back {H H' : Hp} {p : Addr} (e : Same H H') (h : H' p = none) : H p = none := by
  cases h1 : H p with
  | none => rfl
  | some o =>
    rw [e p o h1] at h
    cases h
theorem but_fresh {l : Addr} {H H' : Hp} {p : Addr} (e : But l H H') (n : p ≠ l) (h : H' p = none) : H p = none := by
  cases h1 : H p with
  | none => rfl
  | some o =>
    rw [e p o n h1] at h
    cases h
/-! ### the readings' steps -/
section
variable {σ : L2.St} {H : Hp} {Q : VK} {QT : Bool → Hp → Prop} {QA : List V → Hp → Prop} {QO : Option Int → Hp → Prop} {ta tb tc te : TE} {t u : TT} {v x y : V} {i j : Nat} {K : PySem.W.Frag}
theorem r_var (h : σ[i]? = some (some v)) (q : Q v H) : tVar i σ H Q := ⟨v, h, q⟩
theorem r_c (q : Q v H) : tC v σ H Q := q
theorem r_op {r : R2} (h : ta σ H fun x H1 => tb σ H1 fun y H2 => r x y H2 Q) : tOp r ta tb σ H Q := h
theorem r_un {r : V → Hp → VK → Prop} (h : ta σ H fun x H1 => r x H1 Q) : tUn r ta σ H Q := h
theorem r_if (h : t σ H fun c H1 => if c = true then ta σ H1 Q else tb σ H1 Q) : tIf t ta tb σ H Q := h
theorem r_fn {sp : Sp} {t : TA} (h : t σ H fun vs H1 => sp vs H1 Q E0) : tFn sp t σ H Q := h
theorem r_cb {r : List V → Hp → VK → Prop} {t : TA} (h : t σ H fun vs H1 => r vs H1 Q) : tCB r t σ H Q := h
theorem r_nil (q : QA [] H) : tNil σ H QA := q
theorem r_cons {tr : TA} (h : ta σ H fun x H1 => tr σ H1 fun xs H2 => QA (x :: xs) H2) : tCons ta tr σ H QA := h
/-- a new tuple, a new list, whatever the heap's form -/
def NewT (xs : List V) (H : Hp) (Q : VK) : Prop := xs.length ≤ sizeLine ∧ ∀ p, H p = none → Q (.ref p) (upd H p (.tup xs))
def NewL (xs : List V) (H : Hp) (Q : VK) : Prop := xs.length ≤ sizeLine ∧ ∀ p, H p = none → Q (.ref p) (upd H p (.lst xs))
theorem r_tup {t : TA} (h : t σ H fun xs H1 => NewT xs H1 Q) : tTup t σ H Q := h
theorem r_lst {t : TA} (h : t σ H fun xs H1 => NewL xs H1 Q) : tLst t σ H Q := h
theorem r_newT {xs : List V} (hl : xs.length ≤ 100000) (h : ∀ p H2, H p = none → Same H H2 → H2 p = some (.tup xs) → Q (.ref p) H2) : NewT xs H Q :=
  ⟨Nat.le_trans hl (by decide), fun p hp => h p _ hp (ex_new hp) upd_same⟩
theorem r_newL {xs : List V} (hl : xs.length ≤ 100000) (h : ∀ p H2, H p = none → Same H H2 → H2 p = some (.lst xs) → Q (.ref p) H2) : NewL xs H Q :=
  ⟨Nat.le_trans hl (by decide), fun p hp => h p _ hp (ex_new hp) upd_same⟩
theorem r_sl {r : V → Option Int → Option Int → Hp → VK → Prop} {tl th : TO} (h : te σ H fun x H1 => tl σ H1 fun l H2 => th σ H2 fun u H3 => r x l u H3 Q) : tSl r te tl th σ H Q := h
theorem r_noPart (q : QO none H) : tNoPart σ H QO := q
theorem r_part (h : te σ H fun x H1 => ∃ i, x = .int i ∧ QO (some i) H1) : tPart te σ H QO := h
theorem r_andV (h : ta σ H fun x H1 => ∃ c, x = .bl c ∧ if c = true then tb σ H1 Q else Q (.bl false) H1) : tAndV ta tb σ H Q := h
theorem r_orV (h : ta σ H fun x H1 => ∃ c, x = .bl c ∧ if c = true then Q (.bl true) H1 else tb σ H1 Q) : tOrV ta tb σ H Q := h
theorem r_notV (h : ta σ H fun x H1 => ∃ c, x = .bl c ∧ Q (.bl (!c)) H1) : tNotV ta σ H Q := h
theorem r_test (h : te σ H fun x H' => ∃ k, x = .bl k ∧ QT k H') : tTest te σ H QT := h
theorem r_tB (h : te σ H fun x H' => ∃ k, x = .bl k ∧ QT k H') : tB te σ H QT := h
theorem r_and (h : t σ H fun c H1 => if c = true then u σ H1 QT else QT false H1) : tAnd t u σ H QT := h
theorem r_or (h : t σ H fun c H1 => if c = true then QT true H1 else u σ H1 QT) : tOr t u σ H QT := h
theorem r_not (h : t σ H fun c H1 => QT (!c) H1) : tNot t σ H QT := h
theorem r_chain {r r' : R2} (h : ta σ H fun x H1 => tb σ H1 fun y H2 => r x y H2 fun z H3 => ∃ k, z = .bl k ∧ if k = true then tc σ H3 fun z' H4 => r' y z' H4 Q else Q (.bl false) H3) : tChain r r' ta tb tc σ H Q := h
theorem r_bl {b : Bool} {QB : Bool → Prop} (q : QB b) : ∃ k, V.bl b = .bl k ∧ QB k := ⟨b, rfl, q⟩
theorem r_I0 {g : Int → Int → V} {a b : Int} (q : Q (g a b) H) : rI0 g (.int a) (.int b) H Q := ⟨a, b, rfl, rfl, q⟩
theorem r_I {C : Int → Int → Prop} {g : Int → Int → V} {a b : Int} (c : C a b) (q : Q (g a b) H) : rI C g (.int a) (.int b) H Q := ⟨a, b, rfl, rfl, c, q⟩
theorem r_U {g : Int → V} {a : Int} (q : Q (g a) H) : rU g (.int a) H Q := ⟨a, rfl, q⟩
theorem r_eqI {a b : Int} (q : Q (.bl (decide (a = b))) H) : rEq (.int a) (.int b) H Q := ⟨rfl, by
  have e : decide (V.int a = V.int b) = decide (a = b) := decide_eq_decide.mpr ⟨fun z => V.int.inj z, fun z => by rw [z]⟩
  rw [e]; exact q⟩
theorem r_neI {a b : Int} (q : Q (.bl (!decide (a = b))) H) : rNe (.int a) (.int b) H Q := ⟨rfl, by
  have e : decide (V.int a = V.int b) = decide (a = b) := decide_eq_decide.mpr ⟨fun z => V.int.inj z, fun z => by rw [z]⟩
  rw [e]; exact q⟩
theorem r_eqS {a b : Str} (q : Q (.bl (decide (a = b))) H) : rEq (.str a) (.str b) H Q := ⟨rfl, by
  have e : decide (V.str a = V.str b) = decide (a = b) := decide_eq_decide.mpr ⟨fun z => V.str.inj z, fun z => by rw [z]⟩
  rw [e]; exact q⟩
theorem r_neS {a b : Str} (q : Q (.bl (!decide (a = b))) H) : rNe (.str a) (.str b) H Q := ⟨rfl, by
  have e : decide (V.str a = V.str b) = decide (a = b) := decide_eq_decide.mpr ⟨fun z => V.str.inj z, fun z => by rw [z]⟩
  rw [e]; exact q⟩
theorem r_eqB {a b : Bool} (q : Q (.bl (decide (a = b))) H) : rEq (.bl a) (.bl b) H Q := ⟨rfl, by
  have e : decide (V.bl a = V.bl b) = decide (a = b) := decide_eq_decide.mpr ⟨fun z => V.bl.inj z, fun z => by rw [z]⟩
  rw [e]; exact q⟩
theorem r_neB {a b : Bool} (q : Q (.bl (!decide (a = b))) H) : rNe (.bl a) (.bl b) H Q := ⟨rfl, by
  have e : decide (V.bl a = V.bl b) = decide (a = b) := decide_eq_decide.mpr ⟨fun z => V.bl.inj z, fun z => by rw [z]⟩
  rw [e]; exact q⟩
theorem r_lenS {z : Str} (hz : z.length ≤ 100000) (q : Q (.int (z.length : Int)) H) : rLenS [.str z] H Q := ⟨z, rfl, Nat.le_trans hz (by decide), q⟩
theorem r_lenT {p : Addr} {ys : List V} (h : SqT K H p ys) (q : Q (.int (ys.length : Int)) H) : rLenQ K [.ref p] H Q := ⟨p, ys, rfl, .inr h, q⟩
theorem r_lenL {p : Addr} {ys : List V} (h : SqL K H p ys) (q : Q (.int (ys.length : Int)) H) : rLenQ K [.ref p] H Q := ⟨p, ys, rfl, .inl h, q⟩
theorem r_int {n : Int} (q : Q (.int n) H) : rInt [.int n] H Q := .inl ⟨n, rfl, q⟩
theorem r_addS {x y : Str} (hz : x.length + y.length ≤ 100000) (q : Q (.str (x ++ y)) H) : rAddS (.str x) (.str y) H Q := ⟨x, y, rfl, rfl, Nat.le_trans hz (by decide), q⟩
theorem r_inS {c : Nat} {z : Str} (q : Q (.bl (decide (c ∈ z.cps.toList))) H) : rInS (.str ⟨#[c]⟩) (.str z) H Q := ⟨c, z, rfl, rfl, q⟩
theorem r_notInS {c : Nat} {z : Str} (q : Q (.bl (!decide (c ∈ z.cps.toList))) H) : rNotInS (.str ⟨#[c]⟩) (.str z) H Q := ⟨c, z, rfl, rfl, q⟩
theorem r_tupOf {p : Addr} {ys : List V} (h : SqL K H p ys) (q : ∀ l H2, H l = none → Same H H2 → H2 l = some (.tup ys) → Q (.ref l) H2) : rTupOf K [.ref p] H Q := ⟨p, ys, rfl, .inl ⟨h, fun l hl => q l _ hl (ex_new hl) upd_same⟩⟩
theorem r_tupOfT {p : Addr} {ys : List V} (h : SqT K H p ys) (q : Q (.ref p) H) : rTupOf K [.ref p] H Q := ⟨p, ys, rfl, .inr ⟨h, q⟩⟩
theorem r_listOf {p : Addr} {ys : List V} (h : SqL K H p ys ∨ SqT K H p ys) (q : ∀ l H2, H l = none → Same H H2 → H2 l = some (.lst ys) → Q (.ref l) H2) : rListOf K [.ref p] H Q := ⟨p, ys, rfl, h, fun l hl => q l _ hl (ex_new hl) upd_same⟩
theorem r_ixL {p : Addr} {xs : List V} {i : Int} (h : SqL K H p xs) (ha : atI xs i = some v) (q : Q v H) : rIxL K (.ref p) (.int i) H Q := ⟨p, xs, i, v, rfl, rfl, h, ha, q⟩
theorem r_ixT {p : Addr} {xs : List V} {i : Int} (h : SqT K H p xs) (ha : atI xs i = some v) (q : Q v H) : rIxT K (.ref p) (.int i) H Q := ⟨p, xs, i, v, rfl, rfl, h, ha, q⟩
theorem r_ixS {z : Str} {i : Int} {c : Nat} (hz : z.length ≤ 100000) (ha : atI z.cps.toList i = some c) (q : Q (.str ⟨#[c]⟩) H) : rIxS (.str z) (.int i) H Q := ⟨z, i, c, rfl, rfl, Nat.le_trans hz (by decide), ha, q⟩
theorem r_bm {T : String} {r : V → List V → Hp → VK → Prop} {to : TE} {t : TA} (h : to σ H fun x H1 => tyV K T x H1 ∧ t σ H1 fun xs H2 => r x xs H2 Q) : tBM K T r to t σ H Q := h
/-- xs.append(y) -/
theorem r_append {l : Addr} {xs : List V} {t : TA} (h : H l = some (.lst xs)) (h2 : t σ H fun vs H2 => rAppend (.ref l) vs H2 Q) : tyV K "list" (.ref l) H ∧ t σ H fun vs H2 => rAppend (.ref l) vs H2 Q := ⟨.inl ⟨rfl, _, SqL.of h⟩, h2⟩
theorem r_append1 {l : Addr} {xs : List V} {y : V} (h : H l = some (.lst xs)) (hz : xs.length < 100000) (q : ∀ H2, But l H H2 → H2 l = some (.lst (xs ++ [y])) → Q .non H2) : rAppend (.ref l) [y] H Q := ⟨l, xs, y, rfl, rfl, h, Nat.lt_of_lt_of_le hz (by decide), q _ But.upd upd_same⟩
theorem r_sub {to ti : TE} {r : TSet} {Q : L2.St → Hp → Prop} (h : to σ H fun o H1 => ti σ H1 fun i H2 => r o i v H2 fun H3 => Q σ H3) : gSub to ti r v σ H Q := h
theorem r_setL {p : Addr} {xs : List V} {k : Int} {j : Nat} {Q : Hp → Prop} (h : H p = some (.lst xs)) (hj : ixN xs.length k = some j) (q : ∀ H2, But p H H2 → H2 p = some (.lst (xs.set j v)) → Q H2) : rSetL (.ref p) (.int k) v H Q := ⟨p, xs, k, j, rfl, rfl, h, hj, q _ But.upd upd_same⟩
def UpR (x : V) (H : Hp) (Q : VK) : Prop := (∃ a, x = .str a) ∧ ∃ a, x = .str a ∧ ([] : List V) = [] ∧ a.length ≤ 5592405 ∧ Q (.str (Txt.upper a)) H
theorem r_up {to : TE} (h : to σ H fun x H1 => UpR x H1 Q) : tUp to σ H Q := h
theorem r_up1 {z : Str} (hz : z.length ≤ 100000) (q : Q (.str (Txt.upper z)) H) : UpR (.str z) H Q := ⟨⟨z, rfl⟩, z, rfl, rfl, Nat.le_trans hz (by decide), q⟩
def LowR (x : V) (H : Hp) (Q : VK) : Prop := (∃ a, x = .str a) ∧ ∃ a, x = .str a ∧ ([] : List V) = [] ∧ a.length ≤ 5592405 ∧ Q (.str (Txt.lower a)) H
theorem r_low {to : TE} (h : to σ H fun x H1 => LowR x H1 Q) : tLow to σ H Q := h
theorem r_low1 {z : Str} (hz : z.length ≤ 100000) (q : Q (.str (Txt.lower z)) H) : LowR (.str z) H Q := ⟨⟨z, rfl⟩, z, rfl, rfl, Nat.le_trans hz (by decide), q⟩
theorem r_slS {z : Str} {lo hi : Option Int} (hz : z.length ≤ 100000) (q : Q (.str (cutS z lo hi)) H) : rSlS (.str z) lo hi H Q := ⟨z, rfl, Nat.le_trans hz (by decide), q⟩
/-! statements -/
variable {a b' c d : L2.St → Hp → Prop} {b : VK} {t1 t2 : TS}
theorem r_seq (h : t1 ⟨t2 ⟨a, b, c, d⟩, b, c, d⟩ σ H) : tSeq t1 t2 ⟨a, b, c, d⟩ σ H := h
theorem r_next (h : a σ H) : tNext ⟨a, b, c, d⟩ σ H := h
theorem r_brk (h : c σ H) : tBreak ⟨a, b, c, d⟩ σ H := h
theorem r_cont (h : d σ H) : tCont ⟨a, b, c, d⟩ σ H := h
theorem r_asgN (h : te σ H fun x H1 => a (σ.set i (some x)) H1) : tAsg te (gName i) ⟨a, b, c, d⟩ σ H := h
theorem r_asg {g : TG} (h : te σ H fun x H1 => g x σ H1 a) : tAsg te g ⟨a, b, c, d⟩ σ H := h
theorem r_gName {Q : L2.St → Hp → Prop} (h : Q (σ.set i (some v)) H) : gName i v σ H Q := h
theorem r_ret (h : te σ H b) : tRet te ⟨a, b, c, d⟩ σ H := h
theorem r_retN (h : b .non H) : tRetN ⟨a, b, c, d⟩ σ H := h
theorem r_drop (h : te σ H fun _ H1 => a σ H1) : tDrop te ⟨a, b, c, d⟩ σ H := h
theorem r_ifS (h : t σ H fun k H1 => if k = true then t1 ⟨a, b, c, d⟩ σ H1 else t2 ⟨a, b, c, d⟩ σ H1) : tIfS t t1 t2 ⟨a, b, c, d⟩ σ H := h
end
/-! ### loops -/
section
variable {σ : L2.St} {H : Hp} {te : TE} {ta : TA} {a c d : L2.St → Hp → Prop} {b : VK} {tb : TS} {j : Nat} {K : PySem.W.Frag} {g : TG}
theorem for_str {x : Str} {g : TG} {D : Ends} (Pv : Nat → L2.St → Hp → Prop) (h0 : Pv 0 σ H)
    (hs : ∀ i k σ H, x.cps[i]? = some k → Pv i σ H → g (.str ⟨#[k]⟩) σ H fun σ2 H2 => tb { D with nx := Pv (i + 1), ct := Pv (i + 1), bk := D.nx } σ2 H2) (hd : ∀ σ H, Pv x.cps.size σ H → D.nx σ H) :
    ∃ W : Nat → Nat → L2.St → Hp → Prop, (∃ m, W 0 m σ H) ∧ ∀ i m σ H, W i m σ H →
      ((Its x).stop i H ∧ D.nx σ H) ∨ ((Its x).go i H ∧ ∃ N : L2.St → Hp → Prop, (∀ σ' H', N σ' H' → ∃ m', m' < m ∧ W (i + 1) m' σ' H') ∧ ∀ y H', (Its x).yld i H y H' → g y σ H' fun σ2 H2 => tb { D with nx := N, ct := N, bk := D.nx } σ2 H2) := by
  refine ⟨fun i m σ H => m = x.cps.size - i ∧ i ≤ x.cps.size ∧ Pv i σ H, ⟨x.cps.size, by simp, Nat.zero_le _, h0⟩, ?_⟩
  rintro i m σ H ⟨rfl, hi, p⟩
  by_cases hlt : i < x.cps.size
  · refine .inr ⟨hlt, Pv (i + 1), fun σ' H' p' => ⟨x.cps.size - (i + 1), by omega, rfl, hlt, p'⟩, fun y H' q => ?_⟩
    obtain ⟨rfl, k, hk, rfl⟩ := q
    exact hs i k σ _ hk p
  · have e : i = x.cps.size := by omega
    subst e
    exact .inl ⟨Nat.le_refl _, hd σ H p⟩
def ForR (J : It) (g : TG) (tb : TS) (D : Ends) (σ : L2.St) (H : Hp) : Prop := ∃ W : Nat → Nat → L2.St → Hp → Prop, (∃ m, W 0 m σ H) ∧ ∀ i m σ H, W i m σ H →
  (J.stop i H ∧ D.nx σ H) ∨ (J.go i H ∧ ∃ N : L2.St → Hp → Prop, (∀ σ' H', N σ' H' → ∃ m', m' < m ∧ W (i + 1) m' σ' H') ∧ ∀ x H', J.yld i H x H' → g x σ H' fun σ2 H2 => tb { D with nx := N, ct := N, bk := D.nx } σ2 H2)
theorem r_for {wi : TI} (h : wi σ H fun J H1 => ForR J g tb ⟨a, b, c, d⟩ σ H1) : tFor wi g tb ⟨a, b, c, d⟩ σ H := h
variable {R : It → Hp → Prop}
theorem r_iStr (h : te σ H fun v H1 => ∃ x, v = .str x ∧ R (Its x) H1) : iStr te σ H R := h
theorem r_exI {n : Int} {QS : Int → Prop} (h : QS n) : ∃ y, V.int n = .int y ∧ QS y := ⟨n, rfl, h⟩
theorem r_iStr1 {x : Str} {QS : Str → Prop} (h : QS x) : ∃ y, V.str x = .str y ∧ QS y := ⟨x, rfl, h⟩
theorem r_iList (h : te σ H fun x H1 => ∃ a, x = .ref a ∧ (∃ xs, SqL K H1 a xs) ∧ R (Itl K a) H1) : iList K te σ H R := h
theorem r_iList1 {a : Addr} {QS : Addr → Prop} (xs : List V) (hx : SqL K H a xs) (h : QS a) : ∃ b, V.ref a = .ref b ∧ (∃ xs, SqL K H b xs) ∧ QS b := ⟨a, rfl, ⟨xs, hx⟩, h⟩
theorem r_iTup (h : te σ H fun x H1 => ∃ a, x = .ref a ∧ (∃ xs, SqT K H1 a xs) ∧ R (Itt K a) H1) : iTup K te σ H R := h
theorem r_iTup1 {a : Addr} {QS : Addr → Prop} (xs : List V) (hx : SqT K H a xs) (h : QS a) : ∃ b, V.ref a = .ref b ∧ (∃ xs, SqT K H b xs) ∧ QS b := ⟨a, rfl, ⟨xs, hx⟩, h⟩
theorem r_iRng1 (h : ta σ H fun vs H1 => ∃ j : Int, vs = [.int j] ∧ -(2 ^ 62) ≤ j ∧ j < 2 ^ 62 ∧ R (Itr 0 j.toNat) H1) : iRng1 ta σ H R := h
theorem r_iRng11 {n : Int} {QS : Int → Prop} (h1 : -1000000 ≤ n ∧ n ≤ 1000000) (h : QS n) : ∃ j : Int, [V.int n] = [.int j] ∧ -(2 ^ 62) ≤ j ∧ j < 2 ^ 62 ∧ QS j := ⟨n, rfl, by omega, by omega, h⟩
theorem r_iRng2 (h : ta σ H fun vs H1 => ∃ i j : Int, vs = [.int i, .int j] ∧ (-(2 ^ 62) ≤ i ∧ i < 2 ^ 62 ∧ -(2 ^ 62) ≤ j ∧ j < 2 ^ 62) ∧ R (Itr i (j - i).toNat) H1) : iRng2 ta σ H R := h
theorem r_iRng21 {i n : Int} (h1 : -1000000 ≤ i ∧ i ≤ 1000000 ∧ -1000000 ≤ n ∧ n ≤ 1000000) {QS : Int → Int → Prop} (h : QS i n) : ∃ i' j : Int, [V.int i, V.int n] = [.int i', .int j] ∧ (-(2 ^ 62) ≤ i' ∧ i' < 2 ^ 62 ∧ -(2 ^ 62) ≤ j ∧ j < 2 ^ 62) ∧ QS i' j := ⟨i, n, rfl, by omega, h⟩
/-- the loops, by a word Pv by the turn -/
theorem loopS {x : Str} (Pv : Nat → L2.St → Hp → Prop) (h0 : Pv 0 σ H) (hs : ∀ i k σ' H', x.cps.toList[i]? = some k → Pv i σ' H' → tb ⟨Pv (i + 1), b, a, Pv (i + 1)⟩ (σ'.set j (some (.str ⟨#[k]⟩))) H') (hd : ∀ σ' H', Pv x.cps.toList.length σ' H' → a σ' H') :
    ForR (Its x) (gName j) tb ⟨a, b, c, d⟩ σ H := by
  refine ⟨fun i m σ H => m = x.cps.size - i ∧ i ≤ x.cps.size ∧ Pv i σ H, ⟨x.cps.size, by simp, Nat.zero_le _, h0⟩, ?_⟩
  rintro i m σ H ⟨rfl, hi, p⟩
  by_cases hlt : i < x.cps.size
  · refine .inr ⟨hlt, Pv (i + 1), fun σ' H' p' => ⟨x.cps.size - (i + 1), by omega, rfl, hlt, p'⟩, fun y H' q => ?_⟩
    obtain ⟨rfl, k, hk, rfl⟩ := q
    exact hs i k σ _ (by rw [← hk]; simp) p
  · have e : i = x.cps.size := by omega
    subst e
    exact .inl ⟨Nat.le_refl _, hd σ H (by simpa using p)⟩
theorem loopL {p : Addr} {xs : List V} (Pv : Nat → L2.St → Hp → Prop) (h0 : Pv 0 σ H) (hl : ∀ i σ' H', i ≤ xs.length → Pv i σ' H' → SqL K H' p xs)
    (hs : ∀ i x σ' H', xs[i]? = some x → Pv i σ' H' → g x σ' H' fun σ2 H2 => tb ⟨Pv (i + 1), b, a, Pv (i + 1)⟩ σ2 H2) (hd : ∀ σ' H', Pv xs.length σ' H' → a σ' H') : ForR (Itl K p) g tb ⟨a, b, c, d⟩ σ H :=
  for_list (xs := xs) (D := ⟨a, b, c, d⟩) Pv h0 hl hs hd
theorem loopT {p : Addr} {xs : List V} (Pv : Nat → L2.St → Hp → Prop) (h0 : Pv 0 σ H) (hl : ∀ i σ' H', i ≤ xs.length → Pv i σ' H' → SqT K H' p xs)
    (hs : ∀ i x σ' H', xs[i]? = some x → Pv i σ' H' → g x σ' H' fun σ2 H2 => tb ⟨Pv (i + 1), b, a, Pv (i + 1)⟩ σ2 H2) (hd : ∀ σ' H', Pv xs.length σ' H' → a σ' H') : ForR (Itt K p) g tb ⟨a, b, c, d⟩ σ H :=
  for_tup (xs := xs) (D := ⟨a, b, c, d⟩) Pv h0 hl hs hd
theorem loopR {lo : Int} {n : Nat} (Pv : Nat → L2.St → Hp → Prop) (h0 : Pv 0 σ H)
    (hs : ∀ i σ' H', i < n → Pv i σ' H' → g (.int (lo + i)) σ' H' fun σ2 H2 => tb ⟨Pv (i + 1), b, a, Pv (i + 1)⟩ σ2 H2) (hd : ∀ σ' H', Pv n σ' H' → a σ' H') : ForR (Itr lo n) g tb ⟨a, b, c, d⟩ σ H :=
  for_range (D := ⟨a, b, c, d⟩) Pv h0 hs hd
end
theorem r_ite {b : Bool} {A B : Prop} (h1 : b = true → A) (h2 : b = false → B) : if b = true then A else B := by
  cases b with
  | true => exact h1 rfl
  | false => exact h2 rfl
theorem r_iteD {p : Prop} {_ : Decidable p} {A B : Prop} (h1 : p → A) (h2 : ¬ p → B) : if decide p = true then A else B := by
  by_cases h : p
  · rw [decide_eq_true h]; exact h1 h
  · rw [decide_eq_false h]; exact h2 h
theorem r_iteN {p : Prop} {_ : Decidable p} {A B : Prop} (h1 : ¬ p → A) (h2 : p → B) : if (!decide p) = true then A else B := by
  by_cases h : p
  · rw [decide_eq_true h]; exact h2 h
  · rw [decide_eq_false h]; exact h1 h
theorem r_iteF {A B : Prop} (h : B) : if false = true then A else B := iteF h
theorem r_iteT {A B : Prop} (h : A) : if true = true then A else B := iteT h
/-! ### slices, tuples of texts -/
theorem cutV_whole {xs : List V} {lo hi : Option Int} (h : HT.sIx xs.length 0 lo = 0 ∧ HT.sIx xs.length xs.length hi = xs.length) : cutV xs lo hi = xs := by
  unfold cutV
  rw [h.1, h.2]
  simp
theorem r_slA {K : PySem.W.Frag} {H : Hp} {Q : VK} {a : Addr} {xs : List V} {lo hi : Option Int} (h : SqT K H a xs) (q : ∀ p H2, Same H H2 → SqT K H2 p (cutV xs lo hi) → Q (.ref p) H2) : rSlA K (.ref a) lo hi H Q :=
  ⟨a, xs, rfl, h, fun w => q a H (Same.refl H) (by rw [cutV_whole w]; exact h), fun _ p hp => q p _ (ex_new hp) (SqT.of upd_same)⟩
theorem r_slL {K : PySem.W.Frag} {H : Hp} {Q : VK} {a : Addr} {xs : List V} {lo hi : Option Int} (h : SqL K H a xs) (q : ∀ p H2, H p = none → Same H H2 → H2 p = some (.lst (cutV xs lo hi)) → Q (.ref p) H2) : rSlL K (.ref a) lo hi H Q :=
  ⟨a, xs, rfl, h, fun p hp => q p _ hp (ex_new hp) upd_same⟩
def Asc (z : Str) : Prop := ∀ c ∈ z.cps.toList, c < 128
theorem Asc.ok {z : Str} (h : Asc z) : PyData.strOk z = true := by
  unfold PyData.strOk
  rw [← Array.all_toList, List.all_eq_true]
  intro c hc
  exact decide_eq_true (Nat.lt_of_lt_of_le (h c hc) (by decide))
instance {z : Str} : Decidable (Asc z) := inferInstanceAs (Decidable (∀ c ∈ z.cps.toList, c < 128))
theorem len_app (x y : Str) : (x ++ y).length = x.length + y.length := Str.length_append x y
theorem len_one (c : Nat) : (⟨#[c]⟩ : Str).length = 1 := rfl
theorem cps_app (x y : Str) : (x ++ y).cps.toList = x.cps.toList ++ y.cps.toList := by
  show (x.cps ++ y.cps).toList = _
  simp
theorem len_list (x : Str) : x.cps.toList.length = x.length := by simp [Str.length]
theorem Asc.app {x y : Str} (h : Asc x) (g : Asc y) : Asc (x ++ y) := by
  intro c hc
  rw [cps_app] at hc
  exact (List.mem_append.mp hc).elim (h c) (g c)
theorem Asc.one {c : Nat} (h : c < 128) : Asc ⟨#[c]⟩ := by
  intro d hd
  have : d = c := by simpa using hd
  omega
theorem Asc.mem {z : Str} {c : Nat} (h : Asc z) (hc : c ∈ z.cps.toList) : Asc ⟨#[c]⟩ := .one (h c hc)
theorem Asc.cut {z : Str} (h : Asc z) (lo hi : Option Int) : Asc (cutS z lo hi) := fun c hc => h c (List.mem_of_mem_drop (List.mem_of_mem_take (by simpa [cutS] using hc)))
theorem dpAll_str {K : PySem.W.Frag} {H : Hp} : ∀ xs : List Str, DpAll K H (xs.map V.str) (xs.map PyData.str)
  | [] => .nil
  | x :: xs => .cons (.str x) (dpAll_str xs)
theorem dp_strs {K : PySem.W.Frag} {H : Hp} {a : Addr} {xs : List Str} (h : SqT K H a (xs.map V.str)) : Dp K H (.ref a) (.tuple (xs.map PyData.str)) := .tup h (dpAll_str xs)
theorem canLay_strs : ∀ {xs : List Str}, (∀ x ∈ xs, Asc x) → PyData.canLayAll0 (xs.map PyData.str) = true
  | [], _ => by simp [PyData.canLayAll0]
  | x :: xs, h => by
    have h1 := (h x (List.mem_cons_self)).ok
    have h2 := canLay_strs (xs := xs) fun y hy => h y (List.mem_cons_of_mem _ hy)
    simp [PyData.canLayAll0, PyData.canLay0, h1, h2]
theorem depth_strs : ∀ xs : List Str, PyData.depthAll (xs.map PyData.str) = 0
  | [] => by simp [PyData.depthAll]
  | x :: xs => by simp [PyData.depthAll, PyData.depth, depth_strs xs]
theorem shaped_strs {xs : List Str} (h : ∀ x ∈ xs, Asc x) : SeqAt.shaped (.tuple (xs.map PyData.str)) = true := by
  unfold SeqAt.shaped
  rw [Bool.and_eq_true]
  refine ⟨by simp only [PyData.canLay0]; exact canLay_strs h, decide_eq_true ?_⟩
  simp [PyData.depth, depth_strs xs]
theorem eqvAll_strs : ∀ xs ys : List Str, PyData.eqvAll (xs.map PyData.str) (ys.map PyData.str) = decide (xs = ys)
  | [], [] => by simp [PyData.eqvAll]
  | [], _ :: _ => by simp [PyData.eqvAll]
  | _ :: _, [] => by simp [PyData.eqvAll]
  | x :: xs, y :: ys => by
    simp only [List.map_cons, PyData.eqvAll, PyData.eqv, eqvAll_strs xs ys]
    by_cases h : x = y <;> by_cases h' : xs = ys <;> simp [h, h']
theorem r_eqD {K : PySem.W.Frag} {H : Hp} {Q : VK} {x y : V} {d e : PyData} (hd : Dp K H x d) (he : Dp K H y e) (sd : SeqAt.shaped d = true) (se : SeqAt.shaped e = true) (q : Q (.bl (PyData.eqv d e)) H) : rEqD K x y H Q := ⟨d, e, hd, he, sd, se, q⟩
theorem r_eqTS {K : PySem.W.Frag} {H : Hp} {Q : VK} {a b : Addr} {xs ys : List Str} (h1 : SqT K H a (xs.map V.str)) (h2 : SqT K H b (ys.map V.str)) (o1 : ∀ x ∈ xs, Asc x) (o2 : ∀ x ∈ ys, Asc x) (q : Q (.bl (decide (xs = ys))) H) : rEqD K (.ref a) (.ref b) H Q := by
  refine r_eqD (dp_strs h1) (dp_strs h2) (shaped_strs o1) (shaped_strs o2) ?_
  have e : PyData.eqv (.tuple (xs.map PyData.str)) (.tuple (ys.map PyData.str)) = decide (xs = ys) := by
    simp only [PyData.eqv]
    exact eqvAll_strs xs ys
  rw [e]
  exact q
theorem cutV_strs (xs : List Str) (lo hi : Option Int) : cutV (xs.map V.str) lo hi = ((xs.drop (HT.sIx xs.length 0 lo)).take (HT.sIx xs.length xs.length hi - HT.sIx xs.length 0 lo)).map V.str := by
  unfold cutV
  rw [List.length_map, List.map_take, List.map_drop]
theorem But.step {l p : Addr} {H H1 H2 : Hp} (a : But l H H1) (b : But p H1 H2) (h : H p = none) : But l H H2 := fun c o n hc => b c o (ne_of_none hc h) (a c o n hc)
theorem But.same' {l : Addr} {H H1 H2 : Hp} (a : But l H H1) (b : Same H1 H2) : But l H H2 := fun c o n hc => b c o (a c o n hc)
theorem But.pre {l : Addr} {H H1 H2 : Hp} (a : Same H H1) (b : But l H1 H2) : But l H H2 := fun c o n hc => b c o n (a c o hc)
theorem But.drop {l : Addr} {H H1 : Hp} (b : But l H H1) (h : H l = none) : Same H H1 := fun c o hc => b c o (ne_of_none hc h) hc
/-- an item at a place in bounds -/
theorem atI_in {α : Type} {xs : List α} {i : Int} (h0 : 0 ≤ i) (h1 : i < (xs.length : Int)) : ∃ v, v ∈ xs ∧ atI xs i = some v ∧ xs[i.toNat]? = some v := by
  obtain ⟨n, rfl⟩ := Int.eq_ofNat_of_zero_le h0
  have hk : n < xs.length := by omega
  exact ⟨xs[n], List.getElem_mem hk, atI_nat (List.getElem?_eq_getElem hk), List.getElem?_eq_getElem hk⟩
theorem ixN_in {n : Nat} {i : Int} (h0 : 0 ≤ i) (h1 : i < (n : Int)) : ixN n i = some i.toNat := by
  unfold ixN
  rw [if_pos h0, if_pos (by omega)]
theorem map_get {α : Type} {f : α → V} {xs : List α} {i : Nat} {x : V} (h : (xs.map f)[i]? = some x) : ∃ y, xs[i]? = some y ∧ x = f y := by
  rw [List.getElem?_map] at h
  cases e : xs[i]? with
  | none => rw [e] at h; cases h
  | some y => rw [e] at h; exact ⟨y, rfl, (Option.some.inj h).symm⟩
/-! ### a law's source of draws -/
def Src (H : Hp) (a : Addr) : Prop := ∃ x y z : Int, H a = some (.lst [.int x, .int y, .int z]) ∧ (y = 0 ∨ (0 ≤ x ∧ x < 2147483648 ∧ 0 ≤ z ∧ z < 2147483648))
theorem Src.lst {H : Hp} {a : Addr} (h : Src H a) : ∃ xs, H a = some (.lst xs) := by
  obtain ⟨_, _, _, h, _⟩ := h
  exact ⟨_, h⟩
theorem Src.ex {H H' : Hp} {a : Addr} (h : Src H a) (e : Same H H') : Src H' a := by
  obtain ⟨x, y, z, h, r⟩ := h
  exact ⟨x, y, z, e _ _ h, r⟩
theorem Src.but {H H' : Hp} {a l : Addr} (h : Src H a) (e : But l H H') (n : a ≠ l) : Src H' a := by
  obtain ⟨x, y, z, h, r⟩ := h
  exact ⟨x, y, z, e _ _ n h, r⟩
def spDraw : Sp := fun vs H Q _ => ∃ (a : Addr) (m : Int), vs = [.ref a, .int m] ∧ Src H a ∧ 0 < m ∧ m ≤ 1000000 ∧ ∀ H' d, But a H H' → Src H' a → 0 ≤ d → d < m → Q (.int d) H'
def spSource : Sp := fun vs H Q _ => ∃ n : Int, vs = [.int n] ∧ ∀ H' a, Same H H' → H a = none → Src H' a → Q (.ref a) H'
def spCell (K : PySem.W.Frag) : Sp := fun vs H Q _ => ∃ (l : Addr) (ns : List Int) (k : Int), vs = [.ref l, .int k] ∧ SqL K H l (ns.map V.int) ∧ ns.length ≤ 63 ∧ 0 ≤ k ∧ k ≤ 1000000 ∧ ∀ c : Int, Q (.int c) H
theorem r_draw {H : Hp} {Q : VK} {a : Addr} {m : Int} (hs : Src H a) (h0 : 0 < m) (h1 : m ≤ 1000000) (q : ∀ H' d, But a H H' → Src H' a → 0 ≤ d → d < m → Q (.int d) H') : spDraw [.ref a, .int m] H Q E0 := ⟨a, m, rfl, hs, h0, h1, q⟩
/-- a def that draws: what it hands back is as post says -/
def spDrawn (post : Hp → V → Prop) : Sp := fun vs H Q _ => ∃ a : Addr, vs = [.ref a] ∧ Src H a ∧ ∀ H' v, But a H H' → Src H' a → post H' v → Q v H'
theorem r_drawn {post : Hp → V → Prop} {H : Hp} {Q : VK} {a : Addr} (hs : Src H a) (q : ∀ H' v, But a H H' → Src H' a → post H' v → Q v H') : spDrawn post [.ref a] H Q E0 := ⟨a, rfl, hs, q⟩
/-- a text of ASCII signs, of so many signs -/
def SV (lo hi : Nat) (v : V) : Prop := ∃ z : Str, v = .str z ∧ lo ≤ z.length ∧ z.length ≤ hi ∧ Asc z
theorem r_cell {K : PySem.W.Frag} {H : Hp} {Q : VK} {l : Addr} {ns : List Int} {k : Int} (hL : SqL K H l (ns.map V.int)) (hn : ns.length ≤ 63) (h0 : 0 ≤ k) (h1 : k ≤ 1000000) (q : ∀ c : Int, Q (.int c) H) : spCell K [.ref l, .int k] H Q E0 := ⟨l, ns, k, rfl, hL, hn, h0, h1, q⟩
theorem r_source {H : Hp} {Q : VK} {n : Int} (q : ∀ H' a, Same H H' → H a = none → Src H' a → Q (.ref a) H') : spSource [.int n] H Q E0 := ⟨n, rfl, q⟩
theorem r_cat {H : Hp} {Q : VK} {l b : Addr} {xs ys : List V} (h1 : H l = some (.lst xs)) (h2 : H b = some (.lst ys)) (hz : xs.length + ys.length ≤ 100000) (q : ∀ p H2, H p = none → Same H H2 → H2 p = some (.lst (xs ++ ys)) → Q (.ref p) H2) : rCat (.ref l) (.ref b) H Q :=
  ⟨l, b, xs, ys, rfl, rfl, h1, h2, Nat.le_trans hz (by decide), fun p hp => q p _ hp (ex_new hp) upd_same⟩
theorem r_isiB {K : PySem.W.Frag} {H : Hp} {Q : VK} {b r : Bool} {T : String} (h : kitB "bool" T = some r) (q : Q (.bl r) H) : rIsi K [.bl b, .ty T] H Q := ⟨_, _, _, _, r, rfl, .ty T, .base (.bl b), kit_ty h, q⟩
theorem r_isiI {K : PySem.W.Frag} {H : Hp} {Q : VK} {b : Int} {r : Bool} {T : String} (h : kitB "int" T = some r) (q : Q (.bl r) H) : rIsi K [.int b, .ty T] H Q := ⟨_, _, _, _, r, rfl, .ty T, .base (.int b), kit_ty h, q⟩
theorem r_isiS {K : PySem.W.Frag} {H : Hp} {Q : VK} {b : Str} {r : Bool} {T : String} (h : kitB "str" T = some r) (q : Q (.bl r) H) : rIsi K [.str b, .ty T] H Q := ⟨_, _, _, _, r, rfl, .ty T, .base (.str b), kit_ty h, q⟩
theorem r_iteNF {A B : Prop} (h : A) : if (!false) = true then A else B := iteT h
theorem r_iteNT {A B : Prop} (h : B) : if (!true) = true then A else B := iteF h
theorem r_iteDp {p : Prop} {_ : Decidable p} {A B : Prop} (h : p) (a : A) : if decide p = true then A else B := by rw [decide_eq_true h]; exact a
theorem r_iteDn {p : Prop} {_ : Decidable p} {A B : Prop} (h : ¬ p) (b : B) : if decide p = true then A else B := by rw [decide_eq_false h]; exact b
theorem r_iteNp {p : Prop} {_ : Decidable p} {A B : Prop} (h : p) (b : B) : if (!decide p) = true then A else B := by rw [decide_eq_true h]; exact b
theorem r_iteNn {p : Prop} {_ : Decidable p} {A B : Prop} (h : ¬ p) (a : A) : if (!decide p) = true then A else B := by rw [decide_eq_false h]; exact a
end My

set_option Elab.async false
set_option linter.all false
set_option maxRecDepth 100000
set_option maxHeartbeats 4000000
namespace My
open PySem PySem.Spec PyProof.Rows L2
open C8 (tCut pss_cut)
/-! ### t[::-1] of a tuple -/
section
variable {prog : Program} {w : World} {A : Around} {E : Value → Shared → Prop} {s : Shared}
theorem sliceBack {sl : Addr} {vs : Value} {n : Nat} {Q : Int × Int × Nat → Shared → Prop} (hs : s.heap.IsSliceOf sl .none .none vs) (ps : IsPart vs (some (-1))) (h : Q ((n : Int) - 1, -1, n) s) :
    wpAny (model prog w) A (Builtin.Slice.sliceApplied (.ref sl) (pure (n : Int))) Q E s := by
  obtain ⟨o, ho, _, hd⟩ := id hs
  unfold Builtin.Slice.sliceApplied Builtin.Slice.sliceFields
  refine wpAny_bind (wpAny_bind (wpAny_field ho hd (x := .none) rfl (wpAny_bind (wpAny_field ho hd (x := .none) rfl (wpAny_bind (wpAny_field ho hd (x := vs) rfl (wpAny_pure ?_)))))))
  refine wpAny_bind (HT.slicePart_ ps ?_)
  show wpAny _ _ (if ((-1 : Int) == 0) = true then _ else _) _ _ s
  rw [if_neg (by decide)]
  refine wpAny_bind (slicePart_none (wpAny_bind (slicePart_none (wpAny_bind (wpAny_pure ?_)))))
  have e : Builtin.Slice.slicePlaces ((n : Int) - 1) (-1) (-1) = n := by
    unfold Builtin.Slice.slicePlaces
    rw [if_neg (by decide)]
    by_cases hn : (n : Int) - 1 > -1
    · rw [if_pos hn]
      have : -(-1 : Int) = 1 := by decide
      rw [this, Int.ediv_one]
      omega
    · rw [if_neg hn]
      omega
  show wpAny _ _ (pure ((n : Int) - 1, (-1 : Int), Builtin.Slice.slicePlaces ((n : Int) - 1) (-1) (-1))) _ _ s
  rw [e]
  exact wpAny_pure h
theorem fm_congr {α β : Type} {f g : α → Option β} : ∀ {l : List α}, (∀ x ∈ l, f x = g x) → l.filterMap f = l.filterMap g
  | [], _ => rfl
  | x :: l, h => by
    rw [List.filterMap_cons, List.filterMap_cons, h x List.mem_cons_self, fm_congr fun y hy => h y (List.mem_cons_of_mem _ hy)]
theorem backPick (xs : Array Value) : ((List.range xs.size).filterMap fun (m : Nat) => xs[(((xs.size : Nat) : Int) - 1 + (m : Int) * (-1)).toNat]?).toArray = xs.toList.reverse.toArray := by
  have e : (List.range xs.size).filterMap (fun (m : Nat) => xs[(((xs.size : Nat) : Int) - 1 + (m : Int) * (-1)).toNat]?) = (((List.range xs.size).map fun k => xs.size - 1 - k)).filterMap (xs[·]?) := by
    rw [List.filterMap_map]
    refine fm_congr fun m hm => ?_
    have hm := List.mem_range.mp hm
    show _ = xs[xs.size - 1 - m]?
    congr 1
    omega
  rw [e, PySem.W.krv_range, List.filterMap_reverse, PySem.W.krv_all]
theorem getItem_back {t sl : Addr} {items : Array Value} {vs : Value} {Q : Value → Shared → Prop} (ht : IsTup s.heap t items) (hs : s.heap.IsSliceOf sl .none .none vs) (ps : IsPart vs (some (-1)))
    (h : Q (.ref s.heap.objs.size) { s with heap := s.heap.push { cls := .type "tuple", data := .seq items.toList.reverse.toArray } }) (hsz : items.size ≤ sizeLine) : wpAny (model prog w) A (getItem (.ref t) (.ref sl)) Q E s := by
  have htake : sizeOk (.seq items.toList.reverse.toArray) := by
    show items.toList.reverse.toArray.size ≤ sizeLine
    rw [List.size_toArray, List.length_reverse, Array.length_toList]
    exact hsz
  obtain ⟨o, ho, hc, _⟩ := id hs
  have hT : s.TypeIs (.ref sl) "slice" := ⟨o, ho, hc⟩
  unfold getItem
  try with_reducible refine wpAny_holding ?_
  first | refine wpAny_bind (wpAny_pure ?_) | skip
  refine wpAny_bind (wpAny_sequenceKey ht.typeIs (by decide) ?_)
  refine wpAny_bind (wpAny_callSpecial?_slot (name := Str.ofString "__getitem__") ht.typeIs PyProof.Rows.slot_tuple_getitem
    (wpAny_call_entry PyProof.Rows.slot_tuple_getitem ht.typeIs entry_tuple_getitem ?_ (args_tuple_getitem _ _)))
  show wpAny _ _ (Builtin.Tuple.tupleItemsOf (.ref t) >>= _) _ _ s
  refine wpAny_bind (tupleItemsOf_ ht ?_)
  refine wpAny_bind (wpAny_typeOf hT ?_)
  rw [if_pos (by decide)]
  refine wpAny_bind (sliceBack hs ps ?_)
  have hno : ¬ ((((items.size : Nat) : Int) - 1 == 0 && (-1 : Int) == 1 && items.size == items.size) = true) := by
    rw [show ((-1 : Int) == 1) = false from by decide, Bool.and_false, Bool.false_and]
    exact Bool.false_ne_true
  show wpAny _ _ (if (((items.size : Nat) : Int) - 1 == 0 && (-1 : Int) == 1 && items.size == items.size) = true then _ else _) _ _ s
  rw [if_neg hno, backPick]
  first
    | exact wpAny_bind (m := Builtin.Tuple.tupleExact _) (wpAny_newObj_type (wpAny_pure ⟨_, rfl, wpAny_pure h⟩) htake)
    | exact wpAny_bind (m := Builtin.Tuple.tupleExact _) (wpAny_newObj_type (wpAny_bind (wpAny_pure (wpAny_pure ⟨_, rfl, wpAny_pure h⟩))) htake)
    | exact wpAny_bind (wpAny_bind (m := Builtin.Tuple.tupleExact _) (wpAny_newObj_type (wpAny_pure (wpAny_pure ⟨_, rfl, wpAny_pure h⟩)) htake))
    | exact wpAny_bind (wpAny_bind (m := Builtin.Tuple.tupleExact _) (wpAny_newObj_type (wpAny_pure ⟨_, rfl, wpAny_pure h⟩) htake))
end
section
variable {X : Cx}
def rBackT (K : PySem.W.Frag) : V → Hp → VK → Prop := fun x H Q => ∃ a xs, x = .ref a ∧ SqT K H a xs ∧ ∀ p, H p = none → Q (.ref p) (upd H p (.tup xs.reverse))
theorem pe_backT {e : Expr} {te : TE} {k : Nat} {p1 p2 p3 pos : Pos} (he : PE X e te) : PE X (.Subscript e (.Slice none none (some (.UnaryOp .USub (.Constant (.int 1) k p1) p2)) p3) pos) (tUn (rBackT X.K) te) := by
  refine ⟨fun pins s σ H Q I h => Subscript_ (thn (he.run pins s σ H _ I h) fun v s1 ⟨x, H1, I1, r1, q1⟩ => ?_)⟩
  obtain ⟨a, xs, rfl, hx, q⟩ := q1
  cases r1
  have hst : PO X (some (.UnaryOp .USub (.Constant (.int 1) k p1) p2)) (tPart (tUn (rU fun i => .int (-i)) (tC (.int 1)))) := po_some (pe_un un_neg pe_int)
  refine wpAny_Slice (thn (po_none.run pins s1 σ H1 (fun o H2 => o = none ∧ H2 = H1) I1 ⟨rfl, rfl⟩) fun vl s2 ⟨l, H2, I2, pl, el, e2⟩ => ?_)
  subst el e2
  refine thn (po_none.run pins s2 σ H2 (fun o H3 => o = none ∧ H3 = H2) I2 ⟨rfl, rfl⟩) fun vu s3 ⟨u, H3, I3, pu, eu, e3⟩ => ?_
  subst eu e3
  refine thn (hst.run pins s3 σ H3 (fun o H4 => o = some (-1) ∧ H4 = H3) I3 ⟨1, rfl, -1, rfl, rfl, rfl⟩) fun vs s4 ⟨o, H4, I4, ps, eo, e4⟩ => ?_
  subst eo e4
  have I5 : Inv X pins σ H4 { s4 with heap := s4.heap.push { cls := .type "slice", data := .fields #[vl, vu, vs] } } := I4.kept (t' := s4.toks) fun b ob q => Heap.get?_push_of_some _ q
  obtain ⟨its, r, ht, hz⟩ := I5.tuple hx
  cases pl
  cases pu
  show wpAny (model X.prog X.w) X.A (subscriptTail e (.Slice none none (some (.UnaryOp .USub (.Constant (.int 1) k p1) p2)) p3) (.ref a) (.ref s4.heap.objs.size)) (EP X pins σ Q) X.xe { s4 with heap := s4.heap.push { cls := .type "slice", data := .fields #[.none, .none, vs] } }
  refine tail_any (ops := [.ref a, .ref s4.heap.objs.size]) ht.typeIs (PyProof.Rows.slot_tuple_getitem.lookup) ?_ (by with_unfolding_all rfl)
  refine getItem_back ht (Heap.IsSliceOf.new _ .none .none vs) ps ?_ (by have := r.length; rw [List.size_toArray]; omega)
  refine ⟨.ref _, _, I5.laid (t' := s4.toks) (o := .tup xs.reverse) (fun b ob q => Heap.get?_push_of_some _ q) (Nat.le_refl _) ?_, rfl, q _ (I5.hok.fresh (Nat.le_refl _))⟩
  exact ⟨by rw [List.length_reverse]; have := r.length; omega, _, r.reverse, IsTup.new _ _⟩
/-! ### text * int -/
theorem rep_cps (c : Array Nat) : ∀ (k : Nat) (acc : Array Nat), (∀ x ∈ ((List.replicate k c).foldl (· ++ ·) acc).toList, x ∈ acc.toList ∨ x ∈ c.toList)
  | 0, acc => fun x hx => .inl hx
  | k + 1, acc => fun x hx => by
    rw [List.replicate_succ, List.foldl_cons] at hx
    rcases rep_cps c k _ x hx with h | h
    · rw [Array.toList_append] at h
      exact List.mem_append.mp h
    · exact .inr h
def rMulS : R2 := fun x y H Q => ∃ (z : Str) (n : Int), x = .str z ∧ y = .int n ∧ z.length ≤ 100 ∧ 0 ≤ n ∧ n ≤ 1000 ∧ ∀ y : Str, y.length = z.length * n.toNat → (∀ c ∈ y.cps.toList, c ∈ z.cps.toList) → Q (.str y) H
theorem oMulS : OpR X (binaryOp .Mult) rMulS := by
  intro pins s σ H x y v u Q I rx ry h
  obtain ⟨z, n, rfl, rfl, hz, h0, h1, q⟩ := h
  obtain ⟨t, rfl⟩ := rx
  obtain ⟨t', rfl⟩ := ry
  have hm : z.length * n.toNat ≤ 100 * 1000 := Nat.mul_le_mul hz (by omega)
  refine P.mul_str (by rw [decide_eq_false (by omega), decide_eq_false (by omega)]; rfl) (fun a b => ?_) (fun a b => ?_) ?_
  · have hn : (2 ^ 63 - 1) / n ≥ (2 ^ 63 - 1) / 1000 := by
      refine Int.le_ediv_of_mul_le (by omega) ?_
      have : (2 ^ 63 - 1) / 1000 * n ≤ (2 ^ 63 - 1) / 1000 * 1000 := Int.mul_le_mul_of_nonneg_left h1 (by decide)
      exact Int.le_trans this (by decide)
    have hb : (2 ^ 63 - 1) / 1000 ≥ (100 : Int) := by decide
    omega
  · unfold Builtin.Str.tooLong
    refine decide_eq_false ?_
    have : 100 * 1000 ≤ sizeLine := by decide
    omega
  · by_cases c1 : n < 1
    · rw [if_pos c1]
      refine ⟨Nat.zero_le _, .str Str.empty, H, I.tok _, ⟨_, rfl⟩, q _ ?_ ?_⟩
      · have : n.toNat = 0 := by omega
        rw [this]; rfl
      · intro c hc; cases hc
    · rw [if_neg c1]
      by_cases c2 : (n == 1 || z.length == 0) = true
      · rw [if_pos c2]
        refine ⟨.str z, H, I, ⟨_, rfl⟩, q _ ?_ (fun c hc => hc)⟩
        rw [Bool.or_eq_true, beq_iff_eq, beq_iff_eq] at c2
        rcases c2 with c2 | c2
        · rw [c2]; simp
        · rw [c2]; simp
      · rw [if_neg c2]
        refine ⟨?_, .str _, H, I.tok _, ⟨_, rfl⟩, q _ ?_ ?_⟩
        · show ((List.replicate n.toNat z.cps).foldl (· ++ ·) #[]).size ≤ sizeLine
          rw [size_reps, Nat.mul_comm]
          show 0 + z.length * n.toNat ≤ sizeLine
          have : 100 * 1000 ≤ sizeLine := by decide
          omega
        · show ((List.replicate n.toNat z.cps).foldl (· ++ ·) #[]).size = _
          rw [size_reps]
          show 0 + n.toNat * z.length = _
          rw [Nat.zero_add, Nat.mul_comm]
        · intro c hc
          exact (rep_cps z.cps n.toNat #[] c hc).resolve_left (by simp)
end
section
variable {σ : L2.St} {H : Hp} {Q : VK} {K : PySem.W.Frag}
theorem r_mulS {z : Str} {n : Int} (hz : z.length ≤ 100) (h0 : 0 ≤ n ∧ n ≤ 1000) (q : ∀ y : Str, y.length = z.length * n.toNat → (∀ c ∈ y.cps.toList, c ∈ z.cps.toList) → Q (.str y) H) : rMulS (.str z) (.int n) H Q := ⟨z, n, rfl, rfl, hz, h0.1, h0.2, q⟩
theorem r_backT {a : Addr} {xs : List V} (h : SqT K H a xs) (q : ∀ p H2, H p = none → Same H H2 → H2 p = some (.tup xs.reverse) → Q (.ref p) H2) : rBackT K (.ref a) H Q := ⟨a, xs, rfl, h, fun p hp => q p _ hp (ex_new hp) upd_same⟩
/-! ### data as a whole -/
theorem isiT_of {a : Addr} {xs : List V} (h : SqT K H a xs) : TyX K H (.ref a) (.type "tuple") := by
  rcases h with (h | ⟨o, h⟩) | h
  · exact .base (.tup h)
  · exact .fTuple h
  · obtain ⟨o, _, _, hk, hc, _⟩ := h
    exact .kTuple hk hc
theorem r_isiT {a : Addr} {xs : List V} {r : Bool} {T : String} (hx : SqT K H a xs) (h : kitB "tuple" T = some r) (q : Q (.bl r) H) : rIsi K [.ref a, .ty T] H Q := ⟨_, _, _, _, r, rfl, .ty T, isiT_of hx, kit_ty h, q⟩
mutual
/-- whole numbers, texts, tuples of such -/
def pureD : PyData → Bool
  | .int _ => true
  | .str x => PyData.strOk x
  | .tuple xs => decide (xs.length ≤ 10000) && pureAll xs
  | .none => false
  | .bool _ => false
  | .list _ => false
  | .dict _ => false
def pureAll : List PyData → Bool
  | [] => true
  | x :: xs => pureD x && pureAll xs
end
theorem pureAll_iff : ∀ xs : List PyData, pureAll xs = true ↔ ∀ x ∈ xs, pureD x = true
  | [] => by simp [pureAll]
  | x :: xs => by simp [pureAll, pureAll_iff xs]
mutual
theorem canLay_pure : ∀ d : PyData, pureD d = true → d.canLay0 = true
  | .int _, _ => by simp [PyData.canLay0]
  | .str x, h => by simpa [PyData.canLay0, pureD] using h
  | .tuple xs, h => by
    simp only [PyData.canLay0]
    exact canLay_pureAll xs (by simp [pureD] at h; exact h.2)
  | .none, h => by simp [pureD] at h
  | .bool _, h => by simp [pureD] at h
  | .list _, h => by simp [pureD] at h
  | .dict _, h => by simp [pureD] at h
theorem canLay_pureAll : ∀ xs : List PyData, pureAll xs = true → PyData.canLayAll0 xs = true
  | [], _ => by simp [PyData.canLayAll0]
  | x :: xs, h => by
    have h' : pureD x = true ∧ pureAll xs = true := by simpa [pureAll] using h
    simp [PyData.canLayAll0, canLay_pure x h'.1, canLay_pureAll xs h'.2]
end
theorem shaped_pure {d : PyData} (h : pureD d = true) (hd : d.depth ≤ 64) : SeqAt.shaped d = true := by
  unfold SeqAt.shaped
  rw [canLay_pure d h, decide_eq_true hd]
  rfl
theorem depth_mem : ∀ {xs : List PyData} {x : PyData}, x ∈ xs → x.depth ≤ PyData.depthAll xs
  | y :: xs, x, h => by
    simp only [PyData.depthAll]
    rcases List.mem_cons.mp h with rfl | h
    · omega
    · have := depth_mem h; omega
theorem dpAll_len {xs : List V} : ∀ {ds : List PyData}, DpAll K H xs ds → xs.length = ds.length := by
  induction xs with
  | nil => intro ds h; cases h; rfl
  | cons x xs ih =>
    intro ds h
    cases h with
    | cons _ t => simp [ih t]
theorem dpAll_get {xs : List V} : ∀ {ds : List PyData} {i : Nat} {d : PyData}, DpAll K H xs ds → ds[i]? = some d → ∃ v, xs[i]? = some v ∧ Dp K H v d := by
  induction xs with
  | nil => intro ds i d h e; cases h; simp at e
  | cons x xs ih =>
    intro ds i d h e
    cases h with
    | cons a t =>
      cases i with
      | zero => simp at e; subst e; exact ⟨x, rfl, a⟩
      | succ i => simpa using ih t (by simpa using e)
theorem eqvAll_no : ∀ {ds es : List PyData} {i : Nat} {d e : PyData}, ds[i]? = some d → es[i]? = some e → PyData.eqv d e = false → PyData.eqvAll ds es = false
  | x :: ds, y :: es, 0, d, e, h1, h2, h3 => by
    simp at h1 h2
    subst h1 h2
    simp [PyData.eqvAll, h3]
  | x :: ds, y :: es, i + 1, d, e, h1, h2, h3 => by
    simp only [PyData.eqvAll, eqvAll_no (i := i) (by simpa using h1) (by simpa using h2) h3, Bool.and_false]
theorem eqvAll_yes : ∀ {ds es : List PyData}, ds.length = es.length → (∀ (i : Nat) (d e : PyData), ds[i]? = some d → es[i]? = some e → PyData.eqv d e = true) → PyData.eqvAll ds es = true
  | [], [], _, _ => by simp [PyData.eqvAll]
  | x :: ds, y :: es, hl, h => by
    simp only [PyData.eqvAll, h 0 x y rfl rfl, Bool.true_and]
    exact eqvAll_yes (by simpa using hl) fun i d e h1 h2 => h (i + 1) d e (by simpa using h1) (by simpa using h2)
  | [], _ :: _, hl, _ => by simp at hl
  | _ :: _, [], hl, _ => by simp at hl
def spSame (K : PySem.W.Frag) : Nat → Sp
  | 0 => fun _ _ _ _ => False
  | n + 1 => fun vs H Q _ => ∃ v u d e, vs = [v, u] ∧ Dp K H v d ∧ Dp K H u e ∧ pureD d = true ∧ pureD e = true ∧ e.depth ≤ n ∧ Q (.bl (PyData.eqv d e)) H
theorem fn_false {P : Program} {w : World} {mg : Str → Option Value} {base : Heap} {x : Str} {ps : List Str} {st : Stmt} {k : Nat} (d : Def1 K mg x ps st) : Fn P w K mg base k x ps (fun _ _ _ _ => False) := by
  obtain ⟨f, fd, hm, F, b⟩ := d
  obtain ⟨oc, od, kV, doc, pm, an, cdv, ct, osl, _, lk, _⟩ := F.ex
  exact ⟨f, fd, hm, F.kp, b, ⟨fun _ _ _ _ h => h.elim, fun _ _ _ _ _ _ _ _ _ _ _ _ _ h => h.elim⟩, oc, od, osl, lk⟩
end
/-! ### comprehensions -/
section
variable {σ : L2.St} {H : Hp} {Q : VK} {K : PySem.W.Frag} {g : TG} {tt : TT} {te : TE} {vs : List Nat}
def Yield (D : Addr) (Nx : Hp → Prop) (y : V) (H : Hp) : Prop := ∃ acc, H D = some (.lst acc) ∧ acc.length < sizeLine ∧ Nx (upd H D (.lst (acc ++ [y])))
theorem r_yield {D : Addr} {Nx : Hp → Prop} {y : V} {acc : List V} (h : H D = some (.lst acc)) (hz : acc.length < 100000) (k : ∀ H2, But D H H2 → H2 D = some (.lst (acc ++ [y])) → Nx H2) : Yield D Nx y H :=
  ⟨acc, h, Nat.lt_of_lt_of_le hz (by decide), k _ But.upd upd_same⟩
def LcR (J : It) (g : TG) (tt : TT) (te : TE) (vs : List Nat) (Q : VK) (σ : L2.St) (H1 : Hp) : Prop := ∀ D, H1 D = none → ∃ W : Nat → Nat → Hp → Prop, (∃ m, W 0 m (upd H1 D (.lst []))) ∧ ∀ i m H, W i m H →
  (J.stop i H ∧ Q (.ref D) H) ∨ (J.go i H ∧ ∃ Nx : Hp → Prop, (∀ H', Nx H' → ∃ m', m' < m ∧ W (i + 1) m' H') ∧ ∀ x H', J.yld i H x H' → g x (wipe σ vs) H' fun σ2 H2 => wipe σ2 vs = wipe σ vs ∧ tt σ2 H2 fun b H3 =>
    if b = true then te σ2 H3 fun y H4 => Yield D Nx y H4 else Nx H3)
theorem r_lc {wi : TI} (h : wi σ H fun J H1 => LcR J g tt te vs Q σ H1) : tLc wi g tt te vs σ H Q := h
theorem lcT {a : Addr} {xs : List V} (Pv : Addr → Nat → Hp → Prop) (h0 : ∀ D H2, H D = none → Same H H2 → H2 D = some (.lst []) → Pv D 0 H2) (hl : ∀ D i H', i ≤ xs.length → Pv D i H' → SqT K H' a xs)
    (hs : ∀ D i x H', xs[i]? = some x → Pv D i H' → g x (wipe σ vs) H' fun σ2 H2 => wipe σ2 vs = wipe σ vs ∧ tt σ2 H2 fun b H3 => if b = true then te σ2 H3 fun y H4 => Yield D (Pv D (i + 1)) y H4 else Pv D (i + 1) H3)
    (hd : ∀ D H', Pv D xs.length H' → Q (.ref D) H') : LcR (Itt K a) g tt te vs Q σ H := fun D hD =>
  lc_tup (xs := xs) (Pv D) (h0 D _ hD (ex_new hD) upd_same) (hl D) (hs D) (hd D)
theorem lcL {a : Addr} {xs : List V} (Pv : Addr → Nat → Hp → Prop) (h0 : ∀ D H2, H D = none → Same H H2 → H2 D = some (.lst []) → Pv D 0 H2) (hl : ∀ D i H', i ≤ xs.length → Pv D i H' → SqL K H' a xs)
    (hs : ∀ D i x H', xs[i]? = some x → Pv D i H' → g x (wipe σ vs) H' fun σ2 H2 => wipe σ2 vs = wipe σ vs ∧ tt σ2 H2 fun b H3 => if b = true then te σ2 H3 fun y H4 => Yield D (Pv D (i + 1)) y H4 else Pv D (i + 1) H3)
    (hd : ∀ D H', Pv D xs.length H' → Q (.ref D) H') : LcR (Itl K a) g tt te vs Q σ H := fun D hD =>
  lc_list (xs := xs) (Pv D) (h0 D _ hD (ex_new hD) upd_same) (hl D) (hs D) (hd D)
theorem lcRg {lo : Int} {n : Nat} (Pv : Addr → Nat → Hp → Prop) (h0 : ∀ D H2, H D = none → Same H H2 → H2 D = some (.lst []) → Pv D 0 H2)
    (hs : ∀ D i H', i < n → Pv D i H' → g (.int (lo + i)) (wipe σ vs) H' fun σ2 H2 => wipe σ2 vs = wipe σ vs ∧ tt σ2 H2 fun b H3 => if b = true then te σ2 H3 fun y H4 => Yield D (Pv D (i + 1)) y H4 else Pv D (i + 1) H3)
    (hd : ∀ D H', Pv D n H' → Q (.ref D) H') : LcR (Itr lo n) g tt te vs Q σ H := fun D hD =>
  lc_range (Pv D) (h0 D _ hD (ex_new hD) upd_same) (hs D) (hd D)
theorem r_yes {QT : Bool → Hp → Prop} (q : QT true H) : tYes σ H QT := q
end
/-! ### texts -/
section
variable {X : Cx} {to te : TE}
def tEndsW (to te : TE) : TE := tM1 (fun x xs H Q => ∃ a b, x = .str a ∧ xs = [.str b] ∧ Q (.bl (Txt.endswith a b)) H) to te
theorem pe_endsW {o e : Expr} {apos pos : Pos} (ho : PE X o to) (he : PE X e te) (hs : starEach [e] X.env = [(false, eval e X.env)] := by rfl) (hbase : attributeBase o "endswith" X.env (eval o X.env) = eval o X.env := by rfl) (hline : (apos.endLine == pos.line) = true := by rfl) :
    PE X (.Call (.Attribute o "endswith" apos) [e] [] pos) (tEndsW to te) := pe_m1 PySem.F.slot_str_endswith PySem.F.type_str_endswith mt_endswith ho he hs hbase hline
theorem r_endsW {σ : L2.St} {H : Hp} {Q : VK} (h : to σ H fun x H1 => (∃ a, x = .str a) ∧ te σ H1 fun y H2 => ∃ a b, x = .str a ∧ [y] = [V.str b] ∧ Q (.bl (Txt.endswith a b)) H2) : tEndsW to te σ H Q := h
def tSplit (to te : TE) : TE := tM1 (fun x xs H Q => ∃ a b, x = .str a ∧ xs = [.str b] ∧ (b.length == 0) = false ∧ a.length + 2 ≤ sizeLine ∧ rNewStrs (Txt.split a b) H Q) to te
theorem pe_spl {o e : Expr} {apos pos : Pos} (ho : PE X o to) (he : PE X e te) (hs : starEach [e] X.env = [(false, eval e X.env)] := by rfl) (hbase : attributeBase o "split" X.env (eval o X.env) = eval o X.env := by rfl) (hline : (apos.endLine == pos.line) = true := by rfl) :
    PE X (.Call (.Attribute o "split" apos) [e] [] pos) (tSplit to te) := pe_split ho he hs hbase hline
theorem r_split {σ : L2.St} {H : Hp} {Q : VK} (h : to σ H fun x H1 => (∃ a, x = .str a) ∧ te σ H1 fun y H2 => ∃ a b, x = .str a ∧ [y] = [V.str b] ∧ (b.length == 0) = false ∧ a.length + 2 ≤ sizeLine ∧ rNewStrs (Txt.split a b) H2 Q) : tSplit to te σ H Q := h
theorem r_newStrs {ys : List Str} {H : Hp} {Q : VK} (q : ∀ p H2, H p = none → Same H H2 → H2 p = some (.lst (ys.map V.str)) → Q (.ref p) H2) : rNewStrs ys H Q := fun p hp => q p _ hp (ex_new hp) upd_same
def tJoin (K : PySem.W.Frag) (to te : TE) : TE := tM1 (fun x xs H Q => ∃ a p, ∃ ys : List Str, x = .str a ∧ xs = [.ref p] ∧ (SqL K H p (ys.map V.str) ∨ SqT K H p (ys.map V.str)) ∧ (ys.map (·.length)).sum + ys.length * a.length ≤ 16777216 ∧ Q (.str (Txt.join a ys)) H) to te
theorem pe_joi {o e : Expr} {apos pos : Pos} (ho : PE X o to) (he : PE X e te) (hs : starEach [e] X.env = [(false, eval e X.env)] := by rfl) (hbase : attributeBase o "join" X.env (eval o X.env) = eval o X.env := by rfl) (hline : (apos.endLine == pos.line) = true := by rfl) :
    PE X (.Call (.Attribute o "join" apos) [e] [] pos) (tJoin X.K to te) := pe_join ho he hs hbase hline
theorem r_join {K : PySem.W.Frag} {σ : L2.St} {H : Hp} {Q : VK} (h : to σ H fun x H1 => (∃ a, x = .str a) ∧ te σ H1 fun y H2 => ∃ a p, ∃ ys : List Str, x = .str a ∧ [y] = [V.ref p] ∧ (SqL K H2 p (ys.map V.str) ∨ SqT K H2 p (ys.map V.str)) ∧ (ys.map (·.length)).sum + ys.length * a.length ≤ 16777216 ∧ Q (.str (Txt.join a ys)) H2) : tJoin K to te σ H Q := h
def tAscii (K : PySem.W.Frag) (to : TE) : TE := tBM0 K "str" (fun x xs H Q => ∃ a, x = .str a ∧ xs = [] ∧ True ∧ Q (.bl (Txt.isascii a)) H) to
theorem pe_ascii {o : Expr} {apos pos : Pos} (ho : PE X o to) (hbase : attributeBase o "isascii" X.env (eval o X.env) = eval o X.env := by rfl) (hline : (apos.endLine == pos.line) = true := by rfl) :
    PE X (.Call (.Attribute o "isascii" apos) [] [] pos) (tAscii X.K to) := pe_bm0 PySem.F.plainAttrs_str PySem.F.slot_str_isascii PySem.F.type_str_isascii mt_isascii ho hbase hline
def AscR (K : PySem.W.Frag) (x : V) (H : Hp) (Q : VK) : Prop := tyV K "str" x H ∧ ∃ a, x = .str a ∧ ([] : List V) = [] ∧ True ∧ Q (.bl (Txt.isascii a)) H
theorem r_asc {K : PySem.W.Frag} {σ : L2.St} {H : Hp} {Q : VK} (h : to σ H fun x H1 => AscR K x H1 Q) : tAscii K to σ H Q := h
theorem r_asc1 {K : PySem.W.Frag} {H : Hp} {Q : VK} {z : Str} (q : Q (.bl (Txt.isascii z)) H) : AscR K (.str z) H Q := ⟨rfl, z, rfl, rfl, trivial, q⟩
def RevR (K : PySem.W.Frag) (x : V) (H : Hp) (Q : VK) : Prop := ∃ a xs, x = .ref a ∧ SqL K H a xs ∧ ∀ p, H p = none → Q (.ref p) (upd H p (.lst xs.reverse))
theorem r_revL {K : PySem.W.Frag} {σ : L2.St} {H : Hp} {Q : VK} (h : te σ H fun x H1 => RevR K x H1 Q) : tRevL K te σ H Q := h
theorem r_revL1 {K : PySem.W.Frag} {H : Hp} {Q : VK} {a : Addr} {xs : List V} (hx : SqL K H a xs) (q : ∀ p H2, H p = none → Same H H2 → H2 p = some (.lst xs.reverse) → Q (.ref p) H2) : RevR K (.ref a) H Q := ⟨a, xs, rfl, hx, fun p hp => q p _ hp (ex_new hp) upd_same⟩
end
theorem r_isiBt {K : PySem.W.Frag} {H : Hp} {Q : VK} {b : Bool} {T : String} (h : kitB "bool" T = some true) (q : Q (.bl true) H) : rIsi K [.bl b, .ty T] H Q := r_isiB h q
theorem r_isiBf {K : PySem.W.Frag} {H : Hp} {Q : VK} {b : Bool} {T : String} (h : kitB "bool" T = some false) (q : Q (.bl false) H) : rIsi K [.bl b, .ty T] H Q := r_isiB h q
theorem r_isiIt {K : PySem.W.Frag} {H : Hp} {Q : VK} {b : Int} {T : String} (h : kitB "int" T = some true) (q : Q (.bl true) H) : rIsi K [.int b, .ty T] H Q := r_isiI h q
theorem r_isiIf {K : PySem.W.Frag} {H : Hp} {Q : VK} {b : Int} {T : String} (h : kitB "int" T = some false) (q : Q (.bl false) H) : rIsi K [.int b, .ty T] H Q := r_isiI h q
theorem r_isiSt {K : PySem.W.Frag} {H : Hp} {Q : VK} {b : Str} {T : String} (h : kitB "str" T = some true) (q : Q (.bl true) H) : rIsi K [.str b, .ty T] H Q := r_isiS h q
theorem r_isiSf {K : PySem.W.Frag} {H : Hp} {Q : VK} {b : Str} {T : String} (h : kitB "str" T = some false) (q : Q (.bl false) H) : rIsi K [.str b, .ty T] H Q := r_isiS h q
theorem r_isiTt {K : PySem.W.Frag} {H : Hp} {Q : VK} {a : Addr} {xs : List V} {T : String} (hx : SqT K H a xs) (h : kitB "tuple" T = some true) (q : Q (.bl true) H) : rIsi K [.ref a, .ty T] H Q := r_isiT hx h q
theorem r_isiTf {K : PySem.W.Frag} {H : Hp} {Q : VK} {a : Addr} {xs : List V} {T : String} (hx : SqT K H a xs) (h : kitB "tuple" T = some false) (q : Q (.bl false) H) : rIsi K [.ref a, .ty T] H Q := r_isiT hx h q
theorem r_strAnd {z : Str} {A : Prop} (h : A) : (∃ a, V.str z = .str a) ∧ A := ⟨⟨z, rfl⟩, h⟩
theorem dp_tup {K : PySem.W.Frag} {H : Hp} {a : Addr} {zs : List Str} (h : SqT K H a (zs.map V.str)) : Dp K H (.ref a) (.tuple (zs.map PyData.str)) := dp_strs h
theorem pure_strs {zs : List Str} (hl : zs.length ≤ 10000) (h : ∀ z ∈ zs, Asc z) : pureD (.tuple (zs.map PyData.str)) = true := by
  simp only [pureD, List.length_map, decide_eq_true hl, Bool.true_and]
  refine (pureAll_iff _).mpr fun x hx => ?_
  obtain ⟨z, hz, rfl⟩ := List.mem_map.mp hx
  simp only [pureD]
  exact (h z hz).ok
theorem pure_str {z : Str} (h : Asc z) : pureD (.str z) = true := by
  simp only [pureD]
  exact h.ok
theorem eqv_strs (xs ys : List Str) : PyData.eqv (.tuple (xs.map PyData.str)) (.tuple (ys.map PyData.str)) = decide (xs = ys) := by
  simp only [PyData.eqv]
  exact eqvAll_strs xs ys
theorem depth_tup (zs : List Str) : (PyData.tuple (zs.map PyData.str)).depth = 1 := by simp [PyData.depth, depth_strs zs]
/-- _law_same of two names, of two texts -/
theorem r_same_strs {K : PySem.W.Frag} {H : Hp} {Q : VK} {a b : Addr} {xs ys : List Str} {n : Nat} (h1 : SqT K H a (xs.map V.str)) (h2 : SqT K H b (ys.map V.str)) (o1 : ∀ z ∈ xs, Asc z) (o2 : ∀ z ∈ ys, Asc z) (l1 : xs.length ≤ 10000) (l2 : ys.length ≤ 10000)
    (q : Q (.bl (decide (xs = ys))) H) : spSame K (n + 2) [.ref a, .ref b] H Q E0 :=
  ⟨_, _, _, _, rfl, dp_tup h1, dp_tup h2, pure_strs l1 o1, pure_strs l2 o2, by rw [depth_tup]; omega, by rw [eqv_strs]; exact q⟩
theorem r_same_str {K : PySem.W.Frag} {H : Hp} {Q : VK} {x y : Str} {n : Nat} (o1 : Asc x) (o2 : Asc y) (q : Q (.bl (decide (x = y))) H) : spSame K (n + 1) [.str x, .str y] H Q E0 :=
  ⟨_, _, _, _, rfl, .str x, .str y, pure_str o1, pure_str o2, by simp [PyData.depth], by
    have e : PyData.eqv (.str x) (.str y) = decide (x = y) := by
      simp only [PyData.eqv]
      by_cases h : x = y <;> simp [h]
    rw [e]; exact q⟩
theorem r_two {x y : Str} {P : Str → Str → Prop} (h : P x y) : ∃ a b, V.str x = .str a ∧ [V.str y] = [V.str b] ∧ P a b := ⟨x, y, rfl, rfl, h⟩
theorem same_but {H H1 H2 : Hp} {p : Addr} (e : Same H H1) (b : But p H1 H2) (n : H p = none) : Same H H2 := fun c o hc => b c o (ne_of_none hc n) (e c o hc)
theorem same_src {H H1 H2 : Hp} {b : Addr} (e : Same H H1) (n : H b = none) (d : But b H1 H2) : Same H H2 := fun c o hc => d c o (ne_of_none hc n) (e c o hc)
theorem get_last {α : Type} (xs : List α) (x : α) : (xs ++ [x])[xs.length]? = some x := by simp
end My

set_option Elab.async false
set_option linter.all false
set_option maxRecDepth 100000
set_option maxHeartbeats 4000000
namespace My
open PySem PySem.Spec PyProof.Rows L2
open C8 (tCut pss_cut)
theorem take_mem {α : Type} {xs : List α} {P : α → Prop} {i : Nat} {c : α} (hi : xs[i]? = some c) (h : ∀ x ∈ xs.take i, P x) (hc : P c) : ∀ x ∈ xs.take (i + 1), P x := by
  intro x hx
  rw [List.take_add_one, hi] at hx
  rcases List.mem_append.mp hx with hx | hx
  · exact h x hx
  · have : x = c := by simpa using hx
    rw [this]; exact hc
def CH : Str := "abcdefghijklmnopqrstuvwxyz0123456789-"
def plainB (z : Str) : Bool := decide (1 ≤ z.length ∧ z.length ≤ 20) && z.cps.toList.all (fun c => decide (c ∈ CH.cps.toList))
def wildB (xs : List Str) : Bool := decide (xs.drop (xs.length - 1) = [("*" : Str)])
def nameB (xs : List Str) : Bool := decide (xs.length ≤ 12) && (if wildB xs then xs.dropLast else xs).all plainB
theorem wild_iff (xs : List Str) : wildB xs = true ↔ 1 ≤ xs.length ∧ xs[xs.length - 1]? = some "*" := by
  unfold wildB
  rw [decide_eq_true_iff]
  by_cases h : 1 ≤ xs.length
  · have hl : xs.length - 1 < xs.length := by omega
    rw [List.drop_eq_getElem_cons hl, List.drop_of_length_le (by omega), List.getElem?_eq_getElem hl]
    constructor
    · intro e; exact ⟨h, congrArg some (List.cons.inj e).1⟩
    · intro e; rw [Option.some.inj e.2]
  · have : xs = [] := List.eq_nil_of_length_eq_zero (by omega)
    subst this
    constructor
    · intro e; cases e
    · intro e; exact absurd e.1 h
theorem name_no {xs : List Str} {i : Nat} {y : Str} (hy : xs[i]? = some y) (hp : plainB y = false) (hn : ¬ (i = xs.length - 1 ∧ y = "*")) : nameB xs = false := by
  unfold nameB
  rw [Bool.and_eq_false_iff]
  refine .inr (List.all_eq_false.mpr ⟨y, ?_, by rw [hp]; decide⟩)
  split
  · rename_i hw
    have hw := (wild_iff xs).mp hw
    have hi := (List.getElem?_eq_some_iff.mp hy).1
    have hne : i ≠ xs.length - 1 := by
      rintro rfl
      rw [hw.2] at hy
      exact hn ⟨rfl, (Option.some.inj hy).symm⟩
    refine List.mem_of_getElem? (i := i) ?_
    rw [List.getElem?_dropLast, if_pos (by omega)]
    exact hy
  · exact List.mem_of_getElem? hy
theorem name_yes {xs : List Str} (hl : xs.length ≤ 12) (h : ∀ (i : Nat) (y : Str), xs[i]? = some y → plainB y = true ∨ (i = xs.length - 1 ∧ y = "*")) : nameB xs = true := by
  unfold nameB
  rw [Bool.and_eq_true]
  refine ⟨decide_eq_true hl, List.all_eq_true.mpr fun y hy => ?_⟩
  split at hy
  · obtain ⟨i, hi⟩ := List.mem_iff_getElem?.mp hy
    rw [List.getElem?_dropLast] at hi
    split at hi
    · rename_i hlt
      exact (h i y hi).resolve_right (by omega)
    · cases hi
  · rename_i hw
    obtain ⟨i, hi⟩ := List.mem_iff_getElem?.mp hy
    rcases h i y hi with h | ⟨rfl, rfl⟩
    · exact h
    · exact absurd ((wild_iff xs).mpr ⟨by have := (List.getElem?_eq_some_iff.mp hi).1; omega, hi⟩) hw

theorem plain_iff {z : Str} : plainB z = true ↔ (1 ≤ z.length ∧ z.length ≤ 20) ∧ ∀ c ∈ z.cps.toList, c ∈ CH.cps.toList := by
  unfold plainB
  rw [Bool.and_eq_true, decide_eq_true_iff, List.all_eq_true]
  simp
theorem CH_fact : ∀ c ∈ CH.cps.toList, c < 128 ∧ c ≠ 46 ∧ c ≠ 42 ∧ lo1 c = c := by decide +kernel
theorem plain_asc {z : Str} (h : plainB z = true) : Asc z := fun c hc => (CH_fact c ((plain_iff.mp h).2 c hc)).1
theorem name_len {zs : List Str} (h : nameB zs = true) : zs.length ≤ 12 := by
  unfold nameB at h
  rw [Bool.and_eq_true, decide_eq_true_iff] at h
  exact h.1
theorem name_mem {zs : List Str} (h : nameB zs = true) {z : Str} (hz : z ∈ zs) : plainB z = true ∨ z = "*" := by
  cases hp : plainB z with
  | true => exact .inl rfl
  | false =>
    obtain ⟨i, hi⟩ := List.mem_iff_getElem?.mp hz
    by_cases e : i = zs.length - 1 ∧ z = "*"
    · exact .inr e.2
    · rw [name_no hi hp e] at h
      cases h
theorem lab_fact {z : Str} (h : plainB z = true ∨ z = "*") : (1 ≤ z.length ∧ z.length ≤ 20) ∧ ∀ c ∈ z.cps.toList, c < 128 ∧ c ≠ 46 ∧ lo1 c = c := by
  rcases h with h | rfl
  · exact ⟨(plain_iff.mp h).1, fun c hc => by have := CH_fact c ((plain_iff.mp h).2 c hc); exact ⟨this.1, this.2.1, this.2.2.2⟩⟩
  · decide +kernel
theorem name_asc {zs : List Str} (h : nameB zs = true) {z : Str} (hz : z ∈ zs) : z.length ≤ 20 ∧ Asc z :=
  ⟨(lab_fact (name_mem h hz)).1.2, fun c hc => ((lab_fact (name_mem h hz)).2 c hc).1⟩
/-! ### the written form -/
def dotted (zs : List Str) : List Nat := (zs.reverse.map fun z => z.cps.toList ++ [46]).flatten
def written (zs : List Str) : Str := if zs = [] then "." else ⟨(dotted zs).toArray⟩
theorem dotted_snoc (zs : List Str) (z : Str) : dotted (zs ++ [z]) = z.cps.toList ++ [46] ++ dotted zs := by
  unfold dotted
  rw [List.reverse_append, List.reverse_singleton, List.singleton_append, List.map_cons, List.flatten_cons]
theorem join_dots : ∀ ps : List (List Nat), ps ≠ [] → (ps.map fun p => p ++ [46]).flatten = TL.joinL [46] ps ++ [46]
  | [], h => absurd rfl h
  | [p], _ => by simp [TL.joinL]
  | p :: q :: r, _ => by
    have ih := join_dots (q :: r) (by simp)
    rw [List.map_cons, List.flatten_cons, ih]
    show p ++ [46] ++ (TL.joinL [46] (q :: r) ++ [46]) = p ++ ([46] ++ TL.joinL [46] (q :: r)) ++ [46]
    simp
theorem dotted_join {zs : List Str} (h : zs ≠ []) : dotted zs = TL.joinL [46] (zs.reverse.map TL.tl) ++ [46] := by
  unfold dotted
  rw [← join_dots _ (by simpa using h), List.map_map]
  rfl
def lowS (t : Str) : Str := ⟨t.cps.map lo1⟩
theorem low_eq {t : Str} (h : Asc t) : Txt.lower t = lowS t := lower_ascii h
theorem split_dots {zs : List Str} (h : zs ≠ []) (hd : ∀ z ∈ zs, 46 ∉ z.cps.toList) {x : Str} (hx : x.cps.toList = TL.joinL [46] (zs.reverse.map TL.tl)) : Txt.split x "." = zs.reverse := by
  have e : x = Txt.join "." zs.reverse := by
    rw [TL.join_eq]
    exact TL.ext_tl (by rw [TL.tl_join]; exact hx)
  rw [e]
  exact TL.split_join (s := 46) (S := []) (by decide +kernel) (by decide +kernel) (by simpa using h) fun p hp => hd p (by simpa using hp)
theorem joinL_nil : ∀ ps : List (List Nat), TL.joinL [] ps = ps.flatten
  | [] => rfl
  | [p] => by simp [TL.joinL]
  | p :: q :: r => by
    have ih := joinL_nil (q :: r)
    show p ++ ([] ++ TL.joinL [] (q :: r)) = _
    rw [ih]
    simp
theorem dotted_mem {zs : List Str} {c : Nat} (h : c ∈ dotted zs) : c = 46 ∨ ∃ z ∈ zs, c ∈ z.cps.toList := by
  unfold dotted at h
  obtain ⟨l, hl, hc⟩ := List.mem_flatten.mp h
  obtain ⟨z, hz, rfl⟩ := List.mem_map.mp hl
  rcases List.mem_append.mp hc with hc | hc
  · exact .inr ⟨z, by simpa using hz, hc⟩
  · exact .inl (by simpa using hc)
theorem dotted_len (n : Nat) : ∀ zs : List Str, (∀ z ∈ zs, z.length ≤ n) → (dotted zs).length ≤ zs.length * (n + 1) := by
  intro zs h
  unfold dotted
  have key : ∀ l : List Str, (∀ z ∈ l, z.length ≤ n) → ((l.map fun z => z.cps.toList ++ [46]).flatten).length ≤ l.length * (n + 1) := by
    intro l
    induction l with
    | nil => simp
    | cons z l ih =>
      intro h
      have h1 := h z List.mem_cons_self
      have h2 := ih fun y hy => h y (List.mem_cons_of_mem _ hy)
      have e := len_list z
      have e2 : (l.length + 1) * (n + 1) = l.length * (n + 1) + (n + 1) := Nat.succ_mul _ _
      rw [List.map_cons, List.flatten_cons, List.length_append, List.length_append]
      simp only [List.length_cons, List.length_nil]
      rw [e2]
      omega
  have := key zs.reverse (by simpa using h)
  simpa using this
theorem written_cps {zs : List Str} (h : zs ≠ []) : (written zs).cps.toList = dotted zs := by
  unfold written
  rw [if_neg h]
theorem written_mem {zs : List Str} (hn : nameB zs = true) {c : Nat} (h : c ∈ (written zs).cps.toList) : c < 128 ∧ lo1 c = c := by
  by_cases e : zs = []
  · subst e
    have key : ∀ c ∈ (written []).cps.toList, c < 128 ∧ lo1 c = c := by decide +kernel
    exact key c h
  · rw [written_cps e] at h
    rcases dotted_mem h with rfl | ⟨z, hz, hc⟩
    · decide
    · have := (lab_fact (name_mem hn hz)).2 c hc
      exact ⟨this.1, this.2.2⟩
theorem written_asc {zs : List Str} (hn : nameB zs = true) : Asc (written zs) := fun c h => (written_mem hn h).1
theorem low_written {zs : List Str} (hn : nameB zs = true) : lowS (written zs) = written zs := by
  refine TL.ext_tl ?_
  show ((written zs).cps.map lo1).toList = (written zs).cps.toList
  rw [Array.toList_map]
  conv => rhs; rw [← List.map_id (written zs).cps.toList]
  exact List.map_congr_left fun c hc => (written_mem hn hc).2
theorem written_len {zs : List Str} (hn : nameB zs = true) : (written zs).length ≤ 300 := by
  by_cases e : zs = []
  · subst e; decide +kernel
  · rw [← len_list, written_cps e]
    have h1 := dotted_len 20 zs fun z hz => (name_asc hn hz).1
    have h2 := name_len hn
    omega
theorem dotted_pos {zs : List Str} (hn : nameB zs = true) (e : zs ≠ []) : 2 ≤ (dotted zs).length := by
  obtain ⟨z, r, rfl⟩ := List.exists_cons_of_ne_nil e
  rcases List.eq_nil_or_concat (z :: r) with h | ⟨l, y, h⟩
  · cases h
  · rw [h, List.concat_eq_append, dotted_snoc]
    have hy := (lab_fact (name_mem hn (z := y) (by rw [h]; simp))).1.1
    have := len_list y
    rw [List.length_append, List.length_append]
    simp only [List.length_singleton]
    omega
theorem low_len {t : Str} : (lowS t).length = t.length := by simp [lowS, Str.length]
theorem low_cps (t : Str) : (lowS t).cps.toList = t.cps.toList.map lo1 := by
  show (t.cps.map lo1).toList = _
  rw [Array.toList_map]
theorem lo1_dot {c : Nat} (h : lo1 c = 46) : c = 46 := by
  unfold lo1 at h
  split at h <;> omega
/-- a text whose small form is the written form of a name is that name's, in capitals here and there -/
theorem low_root {t : Str} {zs : List Str} (hn : nameB zs = true) (h : lowS t = written zs) : t = "." ↔ zs = [] := by
  constructor
  · rintro rfl
    by_cases e : zs = []
    · exact e
    · have h2 := dotted_pos hn e
      rw [← written_cps e, ← h] at h2
      exact absurd h2 (by decide +kernel)
  · rintro rfl
    have h1 : t.cps.toList.map lo1 = [46] := by
      rw [← low_cps, h]; decide +kernel
    have h2 : t.cps.toList = [46] := by
      cases hc : t.cps.toList with
      | nil => rw [hc] at h1; cases h1
      | cons c r =>
        rw [hc] at h1
        cases r with
        | nil =>
          have : lo1 c = 46 := by simpa using h1
          rw [lo1_dot this]
        | cons d r => simp at h1
    exact TL.ext_tl (by show t.cps.toList = _; rw [h2]; decide +kernel)
theorem low_last {t : Str} {zs : List Str} (h : lowS t = written zs) (e : zs ≠ []) : ∃ l, t.cps.toList = l ++ [46] ∧ l.map lo1 = TL.joinL [46] (zs.reverse.map TL.tl) := by
  have h1 : t.cps.toList.map lo1 = TL.joinL [46] (zs.reverse.map TL.tl) ++ [46] := by
    rw [← low_cps, h, written_cps e, dotted_join e]
  rcases List.eq_nil_or_concat t.cps.toList with h2 | ⟨l, c, h2⟩
  · rw [h2] at h1; simp at h1
  · rw [List.concat_eq_append] at h2
    rw [h2, List.map_append] at h1
    have h3 := List.append_inj' h1 rfl
    have h4 : lo1 c = 46 := by simpa using h3.2
    rw [lo1_dot h4] at h2
    exact ⟨l, h2, h3.1⟩
theorem written_nil : written [] = "." := by decide +kernel
theorem isascii_of {t : Str} (h : Asc t) : Txt.isascii t = true := by
  unfold Txt.isascii
  rw [← Array.all_toList, List.all_eq_true]
  exact fun c hc => decide_eq_true (h c hc)
theorem ends_dot {t : Str} : Txt.endswith t "." = true ↔ ∃ l, t.cps.toList = l ++ [46] := by
  have e : ("." : Str) = ⟨#[46]⟩ := by decide +kernel
  have el := len_list t
  have h := StrLaws.subAt_one t 46 (t.length - 1)
  unfold Txt.endswith
  rw [e, Bool.and_eq_true, decide_eq_true_iff]
  show 0 + 1 ≤ t.length ∧ Builtin.Str.subAt t ⟨#[46]⟩ (t.length - 1) = true ↔ _
  constructor
  · rintro ⟨h1, h2⟩
    have h3 := h.mp ⟨by show t.length - 1 + 1 ≤ t.length; omega, h2⟩
    refine ⟨t.cps.toList.dropLast, ?_⟩
    rcases List.eq_nil_or_concat t.cps.toList with h4 | ⟨l, c, h4⟩
    · rw [h4] at h3; simp at h3
    · rw [List.concat_eq_append] at h4
      rw [h4] at h3 el ⊢
      rw [List.length_append, List.length_singleton] at el
      rw [← el, Nat.add_sub_cancel, List.getElem?_append_right (Nat.le_refl _), Nat.sub_self] at h3
      have : c = 46 := by simpa using h3
      rw [this, List.dropLast_concat]
  · rintro ⟨l, hl⟩
    rw [hl, List.length_append, List.length_singleton] at el
    refine ⟨by omega, (h.mpr ?_).2⟩
    rw [hl, ← el, Nat.add_sub_cancel, List.getElem?_append_right (Nat.le_refl _), Nat.sub_self]
    rfl
theorem sIx_last (n d : Nat) : HT.sIx n d (some (-1)) = n - 1 := by
  show (if (-1 : Int) < 0 then ((-1 : Int) + (n : Int)).toNat else min (-1 : Int).toNat n) = _
  rw [if_pos (by decide)]; omega
theorem cut_last {t : Str} {l : List Nat} {c : Nat} (h : t.cps.toList = l ++ [c]) : (cutS t none (some (-1))).cps.toList = l := by
  have el := len_list t
  rw [h, List.length_append, List.length_singleton] at el
  unfold cutS
  rw [sIx_last]
  show (t.cps.toList.drop 0).take (t.length - 1 - 0) = l
  rw [h, List.drop_zero, ← el]
  simp
theorem sum_len (n : Nat) : ∀ ys : List Str, (∀ y ∈ ys, y.length ≤ n) → (ys.map (·.length)).sum ≤ ys.length * n
  | [], _ => by simp
  | y :: ys, h => by
    have h1 := h y List.mem_cons_self
    have h2 := sum_len n ys fun z hz => h z (List.mem_cons_of_mem _ hz)
    have e : (ys.length + 1) * n = ys.length * n + n := Nat.succ_mul _ _
    rw [List.map_cons, List.sum_cons, List.length_cons, e]
    omega
end My

set_option Elab.async false
set_option linter.all false
set_option maxRecDepth 100000
set_option maxHeartbeats 4000000
namespace My
open PySem PySem.Spec PyProof.Rows L2
open C8 (tCut pss_cut)
/-! ### the rules with K told -/
section
variable {X : Cx} {K : PySem.W.Frag} {a b : Expr} {ta tb te : TE} {pos : Pos}
theorem pe_kix {r : PySem.W.Frag → R2} (hK : X.K = K) (h : IxR X (r X.K)) (ha : PE X a ta) (hb : PE X b tb) (hs : PlainIx b) : PE X (.Subscript a b pos) (tOp (r K) ta tb) := hK ▸ pe_ix h ha hb hs
end
/-! ### defs that may raise -/
def FnX (P : Program) (w : World) (K : PySem.W.Frag) (mg : Str → Option Value) (base : Heap) (k : Nat) (x : Str) (ps : List Str) (sp : Sp) : Prop :=
  ∃ f fd, mg x = some (.ref f) ∧ PySem.W.keepIn K (.ref f) = true ∧ Binds K fd ps [] ∧ FnOk P w K mg base (L2.CX P w) k f fd ps sp
section
variable {P : Program} {w : World} {K : PySem.W.Frag} {mg : Str → Option Value} {base : Heap}
theorem Def1.okX {x : Str} {ps N : List Str} {st : Stmt} {k : Nat} {sp : Sp} (d : Def1 K mg x ps st) (S : FnScope N ps (defScope st)) (len : ∀ vs H Q E, sp vs H Q E → vs.length = ps.length)
    (hbody : ∀ (f : Addr) (cdv : Value) (A : Around) (outer : List Env) (s : Shared) (H : Hp) (vs : List V) (Q : VK) (E : XK), Room k (A.deeper (envOfC x (defScope st) s.heap.objs.size f cdv)) → sp vs H Q E →
      ∃ t, PSs (cxOf (L2.CX P w) P w K mg base N x (defScope st) f cdv A outer s H E) (defBody st) t ∧ t { nx := fun _ H' => Q .non H', rt := Q } (start N vs) H) : FnX P w K mg base (k + 1) x ps sp := by
  obtain ⟨f, fd, hm, F, b⟩ := d
  exact ⟨f, fd, hm, F.kp, b, F.okX S len (hbody f)⟩
theorem cx_K {CX : CXT} {N : List Str} {q : Str} {sc : Scope} {f : Addr} {cdv : Value} {A : Around} {outer : List Env} {s : Shared} {H : Hp} {E : XK} : (cxOf CX P w K mg base N q sc f cdv A outer s H E).K = K := rfl
end
section
variable {X : Cx} {k : Nat} {x : Str} {ps : List Str} {sp : Sp}
/-- a call of such a def: W is what is wished of an error at the slots -/
def tFnS (sp : Sp) (W : WX) (t : TA) : TE := fun σ H Q => t σ H fun vs H1 => sp vs H1 Q (WE W σ)
theorem pe_fnS {e : Expr} {es : List Expr} {t : TA} {p pos : Pos} {W : WX} (G : FnX X.prog X.w X.K X.mg X.base k x ps sp) (hr : Room k X.A) (hg : Gl X x) (tk : Takes X W) (ha : PA X (e :: es) t) (hdb : (x == ("__debug__" : Str)) = false := by decide)
    (he : starEach (e :: es) X.env = (false, eval e X.env) :: starEach es X.env := by rfl) (hpl : (backTo pos (starEach es X.env)).any (·.1) = false := by rfl) : PE X (.Call (.Name x p) (e :: es) [] pos) (tFnS sp W t) := by
  obtain ⟨f, fd, hm, hk, hb, F⟩ := G
  exact pe_callS (p := p) F hr hg hm hk hb (fun σ => passAt tk σ) ha hdb he hpl
theorem passE0 : Passes (L2.CX X.prog X.w) X E0 := fun _ _ _ _ _ _ _ c => by
  obtain ⟨_, _, _, _, _, _, _, _, _, _, _, _, z⟩ := c
  exact z.elim
/-- a call where nothing is raised -/
theorem pe_fnX {e : Expr} {es : List Expr} {t : TA} {p pos : Pos} (G : FnX X.prog X.w X.K X.mg X.base k x ps sp) (hr : Room k X.A) (hg : Gl X x) (ha : PA X (e :: es) t) (hdb : (x == ("__debug__" : Str)) = false := by decide)
    (he : starEach (e :: es) X.env = (false, eval e X.env) :: starEach es X.env := by rfl) (hpl : (backTo pos (starEach es X.env)).any (·.1) = false := by rfl) : PE X (.Call (.Name x p) (e :: es) [] pos) (tFn sp t) := by
  obtain ⟨f, fd, hm, hk, hb, F⟩ := G
  have h := pe_call (p := p) F hr hg hm hk hb .nil (E := E0) passE0 ha hdb he hpl
  refine ⟨fun pins s σ H Q I q => h.run pins s σ H Q I ?_⟩
  unfold tCall
  simp only [List.append_nil]
  exact q
def tRaise (C : Addr) (W : WX) (t : TA) : TS := fun _ σ H => t σ H fun vs H1 => vs.length ≤ sizeLine ∧ W (.ref C) none σ H1
theorem ps_rai {C : Addr} {W : WX} {e : Expr} {es : List Expr} {t : TA} {x : Str} {p pos pos' : Pos} (hc : X.calm = true) (tk : Takes X W) (q : PySem.W.excIn X.K C [.type "ValueError", .type "Exception", .type "BaseException", .type "object"] "ValueError.__new__" = true) (gC : X.mg x = some (.ref C))
    (kC : PySem.W.keepIn X.K (.ref C) = true) (b : PySem.W.subIn X.K (.ref C) (.type "BaseException") = some true) (ty : PySem.W.typeIn X.K (.ref C) = some (.type "type")) (hg : Gl X x) (ha : PA X (e :: es) t) (hdb : (x == ("__debug__" : Str)) = false := by decide)
    (he : starEach (e :: es) X.env = (false, eval e X.env) :: starEach es X.env := by rfl) (hpl : (backTo pos (starEach es X.env)).any (·.1) = false := by rfl) : PS X (.Raise (some (.Call (.Name x p) (e :: es) [] pos)) none pos') (tRaise C W t) :=
  ps_raise hc tk (pmk_ownA PySem.F.excBase_ValueError q gC kC (raises_own b ty) hg ha hdb he hpl)
/-- isinstance of the error that a suite holds -/
def rIsX (K : PySem.W.Frag) (a : Addr) (cls : Value) (d : Option Addr) : List V → Hp → VK → Prop := fun xs H Q => ∃ D, cls = .ref D ∧ d = none ∧ ExcC K D ∧ rIsE K D a xs H Q
theorem call_isX {a : Addr} {oe : Obj} {pn : List (Addr × Obj)} {cls : Value} {d : Option Addr} {K : PySem.W.Frag} (hK : X.K = K) (hz : Zc cls d oe) (hf : ∃ vs, oe.data = .fields vs) : CallR (X.suite a ((a, oe) :: pn)) (.builtin "isinstance") (rIsX K a cls d) := by
  subst hK
  intro pins s σ H xs us Q I r h
  obtain ⟨D, rfl, rfl, C, h⟩ := h
  exact call_isE C hz hf pins s σ H xs us Q I r h
end
section
variable {σ : L2.St} {H : Hp} {Q : VK} {K : PySem.W.Frag} {a c d : L2.St → Hp → Prop} {b : VK}
theorem r_fnS {sp : Sp} {W : WX} {t : TA} (h : t σ H fun vs H1 => sp vs H1 Q (WE W σ)) : tFnS sp W t σ H Q := h
theorem r_raise {C : Addr} {W : WX} {t : TA} {D : Ends} (h : t σ H fun vs H1 => vs.length ≤ sizeLine ∧ W (.ref C) none σ H1) : tRaise C W t D σ H := h
theorem r_lenAnd {xs : List V} {A : Prop} (hl : xs.length ≤ 1000) (h : A) : xs.length ≤ sizeLine ∧ A := ⟨Nat.le_trans hl (by decide), h⟩
theorem r_isX {ad D C : Addr} {r : Bool} (hC : ExcC K D) (h : PySem.W.kitOne K (.ref D) (.ref C) = some r) (q : Q (.bl r) H) : rIsX K ad (.ref D) none [.ref ad, .ref C] H Q := ⟨D, rfl, rfl, hC, .ref C, .ref C, r, rfl, fun _ h => h, h, q⟩
theorem r_isXb {ad D : Addr} {T : String} {r : Bool} (hC : ExcC K D) (h : PySem.W.kitOne K (.ref D) (.type T) = some r) (q : Q (.bl r) H) : rIsX K ad (.ref D) none [.ref ad, .ty T] H Q := ⟨D, rfl, rfl, hC, .ty T, .type T, r, rfl, fun _ h => h, h, q⟩
theorem r_fmt {te : TE} (h : te σ H fun x H1 => (∃ y : Str, x = .str y ∧ y.length ≤ sizeLine ∧ Q (.str y) H1) ∨ ∃ i : Int, x = .int i ∧ i.natAbs.log2 < 1920 ∧ Q (.str (toString i)) H1) : tFmt te σ H Q := h
/-- an f-string's text, left open -/
def tJoined (ts : List TE) : TE := fun σ H Q => tJs ts Str.empty σ H fun out H1 => Q (.str out) H1
theorem pe_joi2 {X : Cx} {v1 v2 : Expr} {rest : List Expr} {ts : List TE} {pos : Pos} (h : PJ X (v1 :: v2 :: rest) ts) : PE X (.JoinedStr (v1 :: v2 :: rest) pos) (tJoined ts) := pe_joined h
theorem r_jcons {t : TE} {ts : List TE} {acc : Str} {QJ : Str → Hp → Prop} (h : t σ H fun x H1 => ∃ y : Str, x = .str y ∧ (acc ++ y).length ≤ sizeLine ∧ tJs ts (acc ++ y) σ H1 QJ) : tJs (t :: ts) acc σ H QJ := h
theorem r_jnil {acc : Str} {QJ : Str → Hp → Prop} (h : QJ acc H) : tJs [] acc σ H QJ := h
theorem r_joined {ts : List TE} (h : tJs ts Str.empty σ H fun out H1 => Q (.str out) H1) : tJoined ts σ H Q := h
theorem r_fmtS {y : Str} {A B : Prop} (hz : y.length ≤ 100000) (h : A) : (∃ z : Str, V.str y = .str z ∧ z.length ≤ sizeLine ∧ (z = y → A)) ∨ B := .inl ⟨y, rfl, Nat.le_trans hz (by decide), fun _ => h⟩
/-- try .. except x as n -/
def tTryAs (K : PySem.W.Frag) (c : Value) (i : Nat) (tb : WX → TS) (ts : Addr → Value → Option Addr → TS) : TS := fun D σ H => tb (wAs K c i ts (fun _ _ _ _ => False) D) D σ H
theorem r_tryAs {cv : Value} {i : Nat} {tb : WX → TS} {ts : Addr → Value → Option Addr → TS} {D : Ends} (h : tb (wAs K cv i ts (fun _ _ _ _ => False) D) D σ H) : tTryAs K cv i tb ts D σ H := h
theorem w_as {cls cv : Value} {dd : Option Addr} {i : Nat} {ts : Addr → Value → Option Addr → TS} (h : PySem.W.exmOne K cls cv = some true) (k : ∀ x, H x = none → ts x cls dd ⟨fun σ' H' => a (σ'.set i none) H', b, fun σ' H' => c (σ'.set i none) H', fun σ' H' => d (σ'.set i none) H'⟩ (σ.set i (some (.ref x))) H) :
    wAs K cv i ts (fun _ _ _ _ => False) ⟨a, b, c, d⟩ cls dd σ H := ⟨true, h, fun _ => k, fun z => nomatch z⟩
end
theorem ps_tryAs {X : Cx} {K : PySem.W.Frag} {x n : Str} {c : Value} {i : Nat} {body suite : List Stmt} {b₀ : Stmt} {np pos pos' : Pos} {tb : WX → TS} {ts : Addr → Value → Option Addr → TS} (hK : X.K = K) (hs : X.stack = X.env :: X.outer) (hf : X.env.frame = some X.env.locals) (hN : X.N.Nodup) (hi : X.N[i]? = some n) (hln : X.env.kindOf n = some .local) (hc : Names X x c)
    (hb : ∀ (W : WX) (pn : List (Addr × Obj)) (xe : Value → Shared → Prop), Takes (X.tr pn xe) W → PSs (X.tr pn xe) body (tb W))
    (hsu : ∀ (a : Addr) (oe : Obj) (cls : Value) (d : Option Addr) (pn : List (Addr × Obj)), Zc cls d oe → (∃ vs, oe.data = .fields vs) → PSs (X.suite a ((a, oe) :: pn)) (b₀ :: suite) (ts a cls d)) :
    PS X (.Try body [.ExceptHandler (some (.Name x np)) (some n) (b₀ :: suite) pos'] [] [] pos) (tTryAs K c i tb ts) := by
  subst hK
  exact ps_try_as hs hf hN hi hln hc takes0 (fun W pn xe tk _ => hb W pn xe tk) hsu
section
variable {X : Cx}
def rIsNo : R2 := fun x y H Q => y = .non ∧ Q (.bl (decide (x = .non))) H
def rNotNo : R2 := fun x y H Q => y = .non ∧ Q (.bl (!decide (x = .non))) H
theorem oIsN : OpR X (compareOp .Is) rIsNo := op_isN
theorem oNotN : OpR X (compareOp .IsNot) rNotNo := op_notN
theorem r_isN {x : V} {H : Hp} {Q : VK} (q : Q (.bl (decide (x = .non))) H) : rIsNo x .non H Q := ⟨rfl, q⟩
theorem r_notN {x : V} {H : Hp} {Q : VK} (q : Q (.bl (!decide (x = .non))) H) : rNotNo x .non H Q := ⟨rfl, q⟩
theorem r_msgV {σ : L2.St} {H : Hp} {Q : VK} {s z : Str} {i : Nat} (hv : σ[i]? = some (some (.str z))) (h1 : s.length ≤ 1000) (h2 : z.length ≤ 100000) (q : ∀ out, Q (.str out) H) : tJoined [tC (.str s), tFmt (tVar i)] σ H Q := by
  refine ⟨s, rfl, ?_, .str z, hv, .inl ⟨z, rfl, Nat.le_trans h2 (by decide), z, rfl, ?_, q _⟩⟩
  · rw [len_app]
    show 0 + s.length ≤ sizeLine
    have : 1000 ≤ sizeLine := by decide
    omega
  · rw [len_app, len_app]
    show 0 + s.length + z.length ≤ sizeLine
    have : 101000 ≤ sizeLine := by decide
    omega
end
section
variable {X : Cx} {to te : TE}
def tFind (to te : TE) : TE := tM1 (fun x xs H Q => ∃ a b, x = .str a ∧ xs = [.str b] ∧ Q (.int (Txt.find a b)) H) to te
theorem pe_find {o e : Expr} {apos pos : Pos} (ho : PE X o to) (he : PE X e te) (hs : starEach [e] X.env = [(false, eval e X.env)] := by rfl) (hbase : attributeBase o "find" X.env (eval o X.env) = eval o X.env := by rfl) (hline : (apos.endLine == pos.line) = true := by rfl) :
    PE X (.Call (.Attribute o "find" apos) [e] [] pos) (tFind to te) := pe_m1 PySem.F.slot_str_find PySem.F.type_str_find mt_find ho he hs hbase hline
theorem r_find {σ : L2.St} {H : Hp} {Q : VK} (h : to σ H fun x H1 => (∃ a, x = .str a) ∧ te σ H1 fun y H2 => ∃ a b, x = .str a ∧ [y] = [V.str b] ∧ Q (.int (Txt.find a b)) H2) : tFind to te σ H Q := h
end
end My

set_option Elab.async false
set_option linter.all false
set_option maxRecDepth 100000
set_option maxHeartbeats 4000000
namespace My
open PySem PySem.Spec PyProof.Rows L2 GenW
/-! ### for in a generator's body -/
section
variable {M : Model} {A : Around} {R : GenEnd} {Y : Protocol} {n : Nat} {s₀ : Shared} {c : Code} {fs : List PySem.Frame} {s : Shared} {env : PySem.Env}
  {K : Flow → Sem PySem.Fin} {J : Value → Sem PySem.Fin} {gd : Bool → Bool} {lv : List Value → List Value}
theorem seg_For {target iter : Expr} {body orelse : List Stmt} {pos : Pos}
    (h : wpAny M (A.over c fs) (eval iter env) (fun x s1 => wpAny M (A.over c fs) (pyIter x) (fun it s2 => ∀ p, Seg M A R Y n s₀ (.forLoop target it body orelse env) (M.den (.forLoop target it body orelse env))
      (.ret (fun r => ((match r with | .ok f => (.pure f : Sem Flow) | .error e => .raise e).onRaise (cameBack env)).wrap K J gd lv) none (gd false) (lv []) c p [] :: fs) s2)
      (fun x s' => Seg M A R Y n s₀ c (J x) fs s') s1) (fun x s' => Seg M A R Y n s₀ c (J x) fs s') s)
    (hs : ∀ x, foldedSetIterable iter env x = pure x) :
    Seg M A R Y n s₀ c ((exec (.For target iter body orelse pos) env).wrap K J gd lv) fs s := by
  rw [exec_For]
  refine seg_bind_wrap (wpAny_standAt (seg_bind_wrap (wpAny_mono h (fun x s1 h1 => ?_) fun _ _ e => e)))
  refine seg_bind_wrap (wpAny_of_eq (hs x) (seg_bind_wrap (wpAny_standAt (seg_bind_wrap (wpAny_holding (wpAny_mono h1 (fun it s2 h2 => ?_) fun _ _ e => e))))))
  exact seg_call h2
end
section
variable {prog : Program} {w : World} {A : Around} {R : GenEnd} {Y : Protocol} {n : Nat} {s₀ : Shared} {fs : List PySem.Frame} {s : Shared} {env : PySem.Env}
theorem seg_forLoop {target : Expr} {it : Value} {body orelse : List Stmt} {C : Code} (hC : C = .forLoop target it body orelse env)
    (h : wpAny (model prog w) (A.over C fs) (pyNext it) (fun r s' => match r with
      | none => Seg (model prog w) A R Y n s₀ C (.pure (.again (.block orelse env))) fs s'
      | some v => wpAny (model prog w) (A.over C fs) (letOwnedTupleGo target it v) (fun _ s1 => wpAny (model prog w) (A.over C fs) (assign target env v) (fun _ s2 =>
          Seg (model prog w) A R Y n s₀ C ((execs body env).wrap (fun f => match f with
            | .next | .cont => .pure (.again C)
            | .brk => .pure (.done .next)
            | .ret v => .pure (.done (.ret v))) (fun e => (do noteFrame e env; theTreesLotGoes e : Sem Unit).wrap (fun _ => .raise e) .raise id id) id id) fs s2)
          (fun x s' => Seg (model prog w) A R Y n s₀ C ((do noteFrame x env; theTreesLotGoes x : Sem Unit).wrap (fun _ => .raise x) .raise id id) fs s') s1)
          (fun x s' => Seg (model prog w) A R Y n s₀ C ((do noteFrame x env; theTreesLotGoes x : Sem Unit).wrap (fun _ => .raise x) .raise id id) fs s') s')
      (fun x s' => Seg (model prog w) A R Y n s₀ C ((do noteFrame x env; theTreesLotGoes x : Sem Unit).wrap (fun _ => .raise x) .raise id id) fs s') s) :
    Seg (model prog w) A R Y n s₀ C ((model prog w).den C) fs s := by
  subst hC
  show Seg _ A R Y n s₀ _ ((forTurn target it body orelse env).onRaise (fun x => do noteFrame x env; theTreesLotGoes x)) fs s
  have eJ : (fun e => ((do noteFrame e env; theTreesLotGoes e : Sem Unit).bind fun _ => (.raise e : Sem PySem.Fin))) = fun e => (do noteFrame e env; theTreesLotGoes e : Sem Unit).wrap (fun _ => .raise e) .raise id id := by
    funext e; rw [Sem.bind_eq_wrap]
  unfold forTurn
  rw [Sem.onRaise_eq_wrap, eJ]
  refine seg_bind_wrap (wpAny_standAt (seg_bind_wrap (wpAny_onRaise (wpAny_mono h (fun r s' h' => ?_) fun _ _ h' => wpAny_standAt h'))))
  cases r with
  | none => exact h'
  | some v =>
    refine seg_bind_wrap (wpAny_mono h' (fun _ s1 h1 => ?_) fun _ _ e => e)
    refine seg_bind_wrap (wpAny_mono h1 (fun _ s2 h2 => ?_) fun _ _ e => e)
    rw [Sem.bind_eq_wrap', Sem.wrap_wrap]
    have ew : ∀ t, t = ((execs body env).wrap (fun f => match f with
            | .next | .cont => .pure (.again (.forLoop target it body orelse env))
            | .brk => .pure (.done .next)
            | .ret v => .pure (.done (.ret v))) (fun e => (do noteFrame e env; theTreesLotGoes e : Sem Unit).wrap (fun _ => .raise e) .raise id id) id id) → Seg (model prog w) A R Y n s₀ (.forLoop target it body orelse env) t fs s2 := fun t e => by rw [e]; exact h2
    exact ew _ (Sem.wrap_congr _ _ _ (fun f => by cases f <;> rfl) (fun e => rfl))
theorem seg_block_nil (h : Seg (model prog w) A R Y n s₀ (.block [] env) (.pure (.done .next)) fs s) {C : Code} : Seg (model prog w) A R Y n s₀ C (.pure (.again (.block [] env))) fs s := seg_again rfl h
end
def tGFor (wi : TI) (g : TG) (tb : TGn) : TGn := fun D ys σ H => wi σ H fun J H1 => ∃ W : Nat → Nat → List V → L2.St → Hp → Prop, (∃ m, W 0 m ys σ H1) ∧ ∀ i m ys σ H, W i m ys σ H →
  (J.stop i H ∧ D.nx ys σ H) ∨ (J.go i H ∧ ∃ N : List V → L2.St → Hp → Prop, (∀ ys' σ' H', N ys' σ' H' → ∃ m', m' < m ∧ W (i + 1) m' ys' σ' H') ∧ ∀ x H', J.yld i H x H' → g x σ H' fun σ2 H2 => tb { D with nx := N, ct := N, bk := D.nx } ys σ2 H2)
theorem gs_for {X : Cx} {tg iter : Expr} {body : List Stmt} {wi : TI} {tt : TG} {tb : TGn} {pos : Pos} (hp : PassesOwn (model X.prog X.w) X.A X.env X.xe) (hc : X.calm = true) (hi : PI X tg iter wi) (hg : PG X tg tt) (hb : GSs X body tb)
    (hs : ∀ x, foldedSetIterable iter X.env x = pure x := by intro _; rfl) : GS X (.For tg iter body [] pos) (tGFor wi tt tb) := by
  refine ⟨fun A S ip R n ys s₀ c fs K J gd lv s σ H D g hn k hI ht => ?_⟩
  obtain ⟨acc0, cc0, r0, I⟩ := hI
  refine seg_For ?_ hs
  rw [g.over]
  refine wpAny_mono (hi.run _ s σ H _ I ht) (fun v s1 h1 => ?_) fun x s' hx => k.exc n s₀ x s' hx
  refine wpAny_mono h1 (fun itv s2 h2 p => ?_) fun x s' hx => k.exc n s₀ x s' hx
  obtain ⟨it, fp, tn, JJ, H2, e, I2, T, st2, f2, W, ⟨m0, w0⟩, turn⟩ := h2
  subst e
  have gl := fun (kk : Result → Sem PySem.Fin) => gc_loop (k := kk) (c' := .forLoop tg (.ref it) body [] X.env) (l := lv []) (kp := []) (p := p) g rfl rfl
  have bS : ∀ b ∈ fp, b ≠ S := fun b hb z => (f2 b hb).2.2.2.2.2 (S, lstObj acc0 cc0) (List.mem_append_right _ List.mem_cons_self) z.symm
  have stat : ∀ {acc : Array Value} {cc : Nat} {H' : Hp}, (∀ b ∈ fp, H' b = none) → ∀ b ∈ fp, FpOk X ((S, lstObj acc cc) :: ip) H' b := fun {acc cc H'} hn b hb => by
    obtain ⟨_, q1, q2, q3, q4, q5⟩ := f2 b hb
    refine ⟨hn b hb, q1, q2, q3, q4, fun p hp => ?_⟩
    rcases List.mem_append.mp hp with hp | hp
    · exact q5 p (List.mem_append_left _ hp)
    · rcases List.mem_cons.mp hp with hp | hp
      · rw [hp]; exact Ne.symm (bS b hb)
      · exact q5 p (List.mem_append_right _ (List.mem_cons_of_mem _ hp))
  have loop : ∀ (m i n : Nat) (ys : List V) (s₀ s : Shared) (σ : L2.St) (H : Hp), n + ys.length = sizeLine → W i m ys σ H → GI X S ip ys σ H s → tn i s.heap → (∀ b ∈ fp, H b = none) →
      Seg (model X.prog X.w) A R (GY X S) n s₀ (.forLoop tg (.ref it) body [] X.env) ((model X.prog X.w).den (.forLoop tg (.ref it) body [] X.env))
        (.ret (fun r => ((match r with | .ok f => (.pure f : Sem Flow) | .error e => .raise e).onRaise (cameBack X.env)).wrap K J gd lv) none (gd false) (lv []) c p [] :: fs) s := by
    intro m
    induction m using Nat.strongRecOn with
    | ind m ih =>
      intro i n ys s₀ s σ H hn w hI st3 fr3
      have ee : ∀ (n : Nat) (s₀ : Shared) (x : Value) (s' : Shared), X.xe x s' → Seg (model X.prog X.w) A R (GY X S) n s₀ (.forLoop tg (.ref it) body [] X.env)
          ((do noteFrame x X.env; theTreesLotGoes x : Sem Unit).wrap (fun _ => .raise x) .raise id id)
          (.ret (fun r => ((match r with | .ok f => (.pure f : Sem Flow) | .error e => .raise e).onRaise (cameBack X.env)).wrap K J gd lv) none (gd false) (lv []) c p [] :: fs) s' := fun n s₀ x s' hx => by
        refine seg_wrap ?_
        rw [(gl _).over]
        refine wpAny_bind (wpAny_mono (hp x s' hx) (fun _ s'' hcb => wpAny_theTreesLotGoes ?_) fun y s'' hcb => ?_)
        · exact seg_leaf (.error x) (seg_cameBack g k hcb)
        · exact seg_leaf (.error y) (seg_cameBack g k hcb)
      refine seg_forLoop rfl ?_
      rw [(gl _).over]
      obtain ⟨acc, cc, r, I3⟩ := hI
      rcases turn i m ys σ H w with ⟨stop, qn⟩ | ⟨go, N, hN, step⟩
      · refine wpAny_mono (T.done X rfl rfl rfl hc i _ s σ H X.xe I3 (stat fr3) st3 stop) (fun rr s4 h4 => ?_) fun x s' hx => ee n s₀ x s' hx
        obtain ⟨hr, I4⟩ := h4
        subst hr
        exact seg_block_nil (seg_leaf (.ok .next) (k.ok n ys s₀ s4 .next hn ⟨σ, H, ⟨acc, cc, r, I4⟩, qn⟩))
      · refine wpAny_mono (T.item X rfl rfl rfl hc i _ s σ H X.xe I3 (stat fr3) st3 go) (fun rr s4 h4 => ?_) fun x s' hx => ee n s₀ x s' hx
        obtain ⟨u, hr, h4⟩ := h4
        subst hr
        refine wpAny_mono h4 (fun _ s5 h5 => ?_) fun x s' hx => ee n s₀ x s' hx
        obtain ⟨x, H5, I5, r5, y5, st5, fr5⟩ := h5
        have I5' := I5.pinned (stat fr5) (T.obj _ _ st5)
        refine wpAny_mono (hg.run _ s5 σ H5 x u _ I5' r5 (step x H5 y5)) (fun _ s6 h6 => ?_) fun x s' hx => ee n s₀ x s' hx
        obtain ⟨σ6, H6, I6, q6⟩ := h6
        have ipS : ∀ q ∈ ip ++ pinsAt fp s5.heap, q.1 ≠ S := fun q hq => (List.mem_append.mp hq).elim (fun z => g.ip q z) fun z => bS _ (of_pinsAt z).1
        have G := fun (kk : Result → Sem PySem.Fin) => ({ gl kk with ip := ipS } : L2.GC X S (ip ++ pinsAt fp s5.heap) A _ _ id)
        have again : ∀ {n' : Nat} {ys' : List V} {s₀' s7 : Shared} {σ7 : L2.St} {H7 : Hp}, n' + ys'.length = sizeLine → GI X S (ip ++ pinsAt fp s5.heap) ys' σ7 H7 s7 → N ys' σ7 H7 →
            Seg (model X.prog X.w) A R (GY X S) n' s₀' (.forLoop tg (.ref it) body [] X.env) (.pure (.again (.forLoop tg (.ref it) body [] X.env)))
              (.ret (fun r => ((match r with | .ok f => (.pure f : Sem Flow) | .error e => .raise e).onRaise (cameBack X.env)).wrap K J gd lv) none (gd false) (lv []) c p [] :: fs) s7 := fun {n' ys' s₀' s7 σ7 H7} hn' I7 n7 => by
          obtain ⟨m', hm, w7⟩ := hN ys' σ7 H7 n7
          obtain ⟨acc7, cc7, r7, I7⟩ := I7
          have I7u : Inv X ((S, lstObj acc7 cc7) :: ip) σ7 H7 s7 := Inv.unpinned (pl := pinsAt fp s5.heap) I7
          refine seg_again rfl (ih m' hm (i + 1) n' ys' s₀' s7 σ7 H7 hn' w7 ⟨acc7, cc7, r7, I7u⟩ (T.keep _ _ _ st5 fun b hb o e => ?_) fun b hb => ?_)
          · exact (I7.pin (b, o) (List.mem_append_right _ (List.mem_cons_of_mem _ (List.mem_append_right _ (mem_pinsAt hb e))))).1
          · obtain ⟨o, e, d⟩ := T.obj _ _ st5 b hb
            exact (I7.pin (b, o) (List.mem_append_right _ (List.mem_cons_of_mem _ (List.mem_append_right _ (mem_pinsAt hb e))))).2.1
        have less : ∀ {ys' : List V} {σ7 : L2.St} {H7 : Hp} {s7 : Shared}, GI X S (ip ++ pinsAt fp s5.heap) ys' σ7 H7 s7 → GI X S ip ys' σ7 H7 s7 := fun {ys' σ7 H7 s7} h7 => by
          obtain ⟨acc7, cc7, r7, I7⟩ := h7
          exact ⟨acc7, cc7, r7, Inv.unpinned (pl := pinsAt fp s5.heap) I7⟩
        refine hb.run A S (ip ++ pinsAt fp s5.heap) R n ys s₀ _ _ _ _ id id s6 σ6 H6 { D with nx := N, ct := N, bk := D.nx } (G _) hn ⟨fun n' ys' s₀' s7 f hn' hs => ?_, fun n' s₀' x s7 hx => ee n' s₀' x s7 hx⟩ ⟨acc, cc, r, I6⟩ q6
        cases f with
        | next => obtain ⟨σ7, H7, I7, n7⟩ := hs; exact again hn' I7 n7
        | cont => obtain ⟨σ7, H7, I7, n7⟩ := hs; exact again hn' I7 n7
        | brk =>
          obtain ⟨σ7, H7, I7, n7⟩ := hs
          exact seg_leaf (.ok .next) (k.ok n' ys' s₀' s7 .next hn' ⟨σ7, H7, less I7, n7⟩)
        | ret v =>
          obtain ⟨v7, σ7, H7, I7, r7, n7⟩ := hs
          exact seg_leaf (.ok (.ret v)) (k.ok n' ys' s₀' s7 (.ret v) hn' ⟨v7, σ7, H7, less I7, r7, n7⟩)
  exact loop m0 0 n ys s₀ s2 σ H2 hn w0 ⟨acc0, cc0, r0, I2⟩ st2 fun b hb => (f2 b hb).1
/-! ### generator defs -/
def FnG (P : Program) (w : World) (K : PySem.W.Frag) (mg : Str → Option Value) (base : Heap) (k : Nat) (x : Str) (ps : List Str) (sp : SpG) : Prop :=
  ∃ f fd, mg x = some (.ref f) ∧ PySem.W.keepIn K (.ref f) = true ∧ Binds K fd ps [] ∧ GFn P w K mg base k f fd ps sp
section
variable {P : Program} {w : World} {K : PySem.W.Frag} {mg : Str → Option Value} {base : Heap}
theorem Def1.okG {x : Str} {ps N : List Str} {st : Stmt} {k : Nat} {sp : SpG} (d : Def1 K mg x ps st) (S : GScope N ps (defScope st)) (len : ∀ vs H Q E, sp vs H Q E → vs.length = ps.length)
    (hbody : ∀ (f : Addr) (cdv : Value) (A : Around) (outer : List PySem.Env) (s : Shared) (H : Hp) (vs : List V) (Q : List V → Hp → Prop) (E : XK) (pn : List (Addr × Obj)), Room k (A.deeper (envOfC x (defScope st) s.heap.objs.size f cdv)) → sp vs H Q E →
      ∃ t, GSs (gcxOf P w K mg base N x (defScope st) f cdv A outer s H E pn) (defBody st) t ∧ t { nx := fun ys _ H' => Q ys H', rt := fun ys v H' => v = .non ∧ Q ys H' } [] (start N vs) H) : FnG P w K mg base (k + 1) x ps sp := by
  obtain ⟨f, fd, hm, F, b⟩ := d
  refine ⟨f, fd, hm, F.kp, b, ?_⟩
  obtain ⟨oc, od, kV, doc, pm, an, cdv, ct, osl, e, lk, hcd⟩ := F.ex
  subst e
  exact gfn_of lk (by first | exact hcd | exact hcd.1) S len fun A outer s H vs Q E pn hr h => hbody f cdv A outer s H vs Q E pn hr h
theorem gcx_K {N : List Str} {q : Str} {sc : Scope} {f : Addr} {cdv : Value} {A : Around} {outer : List PySem.Env} {s : Shared} {H : Hp} {E : XK} {pn : List (Addr × Obj)} : (gcxOf P w K mg base N q sc f cdv A outer s H E pn).K = K := rfl
end
section
variable {X : Cx} {k : Nat} {x : Str} {ps : List Str} {sp : SpG}
/-- list(f(e, ..)) of a generator def that raises nothing -/
def tListGen (sp : SpG) (t : TA) : TE := fun σ H Q => t σ H fun vs H1 => sp vs H1 (fun out H2 => ∀ p, H2 p = none → Q (.ref p) (upd H2 p (.lst out))) E0
theorem noStop0 {K : PySem.W.Frag} : NoStop K E0 := fun _ _ _ h => h.elim
theorem pe_listGen {e : Expr} {es : List Expr} {t : TA} {p pos p' pos' : Pos} (G : FnG X.prog X.w X.K X.mg X.base k x ps sp) (hr : Room (k + 3) X.A) (hg : Gl X x) (hl : Gl X "list") (hml : X.mg "list" = none) (ha : PA X (e :: es) t) (hdb : (x == ("__debug__" : Str)) = false := by decide)
    (he : starEach (e :: es) X.env = (false, eval e X.env) :: starEach es X.env := by rfl) (hpl : (backTo pos' (starEach es X.env)).any (·.1) = false := by rfl)
    (he2 : starEach [Expr.Call (.Name x p') (e :: es) [] pos'] X.env = (false, eval (Expr.Call (.Name x p') (e :: es) [] pos') X.env) :: starEach [] X.env := by rfl) :
    PE X (.Call (.Name "list" p) [.Call (.Name x p') (e :: es) [] pos'] [] pos) (tListGen sp t) := by
  obtain ⟨f, fd, hm, hk, hb, F⟩ := G
  have hr0 : Room k X.A := hr.mono (by omega)
  have h := pgen_call (p := p') (E := E0) F hr0 hg hm hk hb .nil ha hdb he hpl
  have h2 := pe_listG (p := p) (pos := pos) (nm := "list") h passE0 noStop0 hr hl hml (by decide +kernel) (by decide) (by decide) he2
  refine ⟨fun pins s σ H Q I q => h2.run pins s σ H Q I ?_⟩
  unfold tListG tCallG
  simp only [List.append_nil]
  exact q
end
section
variable {σ : L2.St} {H : Hp} {Q : VK} {D : GEnds} {ys : List V} {te ta : TE} {t : TA} {g : TG} {tb : TGn}
theorem r_listGen {sp : SpG} {t : TA} (h : t σ H fun vs H1 => sp vs H1 (fun out H2 => ∀ p, H2 p = none → Q (.ref p) (upd H2 p (.lst out))) E0) : tListGen sp t σ H Q := h
def ForG (J : It) (g : TG) (tb : TGn) (D : GEnds) (ys : List V) (σ : L2.St) (H1 : Hp) : Prop := ∃ W : Nat → Nat → List V → L2.St → Hp → Prop, (∃ m, W 0 m ys σ H1) ∧ ∀ i m ys σ H, W i m ys σ H →
  (J.stop i H ∧ D.nx ys σ H) ∨ (J.go i H ∧ ∃ N : List V → L2.St → Hp → Prop, (∀ ys' σ' H', N ys' σ' H' → ∃ m', m' < m ∧ W (i + 1) m' ys' σ' H') ∧ ∀ x H', J.yld i H x H' → g x σ H' fun σ2 H2 => tb { D with nx := N, ct := N, bk := D.nx } ys σ2 H2)
theorem r_gFor {wi : TI} (h : wi σ H fun J H1 => ForG J g tb D ys σ H1) : tGFor wi g tb D ys σ H := h
theorem r_gYield (hy : ys.length < 100000) (h : te σ H fun x H1 => D.nx (ys ++ [x]) σ H1) : tGYield te D ys σ H := ⟨Nat.lt_of_lt_of_le hy (by decide), h⟩
theorem r_gNil (h : D.nx ys σ H) : tG0 D ys σ H := h
theorem r_gSeq {t u : TGn} (h : t { D with nx := fun ys' σ' H' => u D ys' σ' H' } ys σ H) : tGThen t u D ys σ H := h
theorem r_gPlain {t : TS} (h : t ⟨D.nx ys, D.rt ys, D.bk ys, D.ct ys⟩ σ H) : tPlain t D ys σ H := h
theorem loopG {lo : Int} {n : Nat} (Pv : Nat → List V → L2.St → Hp → Prop) (h0 : Pv 0 ys σ H)
    (hs : ∀ i ys' σ' H', i < n → Pv i ys' σ' H' → g (.int (lo + i)) σ' H' fun σ2 H2 => tb { D with nx := Pv (i + 1), ct := Pv (i + 1), bk := D.nx } ys' σ2 H2) (hd : ∀ ys' σ' H', Pv n ys' σ' H' → D.nx ys' σ' H') : ForG (Itr lo n) g tb D ys σ H := by
  refine ⟨fun i m ys σ H => m = n - i ∧ i ≤ n ∧ Pv i ys σ H, ⟨n, by simp, Nat.zero_le _, h0⟩, ?_⟩
  rintro i m ys σ H ⟨rfl, hi, p⟩
  by_cases hlt : i < n
  · refine .inr ⟨hlt, Pv (i + 1), fun ys' σ' H' p' => ⟨n - (i + 1), by omega, rfl, hlt, p'⟩, fun x H' y => ?_⟩
    obtain ⟨rfl, rfl⟩ := y
    exact hs i ys σ _ hlt p
  · have e : i = n := by omega
    subst e
    refine .inl ⟨?_, hd ys σ H p⟩
    first | exact Nat.le_refl _ | (show ¬ _; omega)
end
section
variable {σ : L2.St} {H : Hp} {K : PySem.W.Frag} {a c d : L2.St → Hp → Prop} {b : VK} {g : TG} {tb : TS}
/-- zip of two tuples -/
theorem r_iZip {ta : TA} {R : It → Hp → Prop} (h : ta σ H fun vs H1 => ∃ a b xs ys, vs = [.ref a, .ref b] ∧ ((SqL K H1 a xs ∧ SqL K H1 b ys ∧ R (Itz K a b) H1) ∨ (SqT K H1 a xs ∧ SqT K H1 b ys ∧ R (RZ.ItzT K a b) H1))) : RZ.iZipA K ta σ H R := h
theorem r_zipT {p q : Addr} {xs ys : List V} {D : Ends} (h1 : SqT K H p xs) (h2 : SqT K H q ys) (h : ForR (RZ.ItzT K p q) g tb D σ H) :
    ∃ a b xs ys, [V.ref p, V.ref q] = [.ref a, .ref b] ∧ ((SqL K H a xs ∧ SqL K H b ys ∧ ForR (Itz K a b) g tb D σ H) ∨ (SqT K H a xs ∧ SqT K H b ys ∧ ForR (RZ.ItzT K a b) g tb D σ H)) := ⟨p, q, xs, ys, rfl, .inr ⟨h1, h2, h⟩⟩
theorem loopZ {p q : Addr} {xs ys : List V} (Pv : Nat → L2.St → Hp → Prop) (h0 : Pv 0 σ H) (hq : ∀ i σ H, Pv i σ H → SqT K H p xs ∧ SqT K H q ys)
    (hs : ∀ (i : Nat) (x y : V) (T : Addr) (σ : L2.St) (H H2 : Hp), xs[i]? = some x → ys[i]? = some y → Pv i σ H → Same H H2 → SqT K H2 T [x, y] → g (.ref T) σ H2 fun σ2 H3 => tb ⟨Pv (i + 1), b, a, Pv (i + 1)⟩ σ2 H3)
    (hd : ∀ σ H, Pv (min xs.length ys.length) σ H → a σ H) : ForR (RZ.ItzT K p q) g tb ⟨a, b, c, d⟩ σ H := by
  refine ⟨fun i m σ H => m = xs.length - i ∧ i ≤ xs.length ∧ i ≤ ys.length ∧ Pv i σ H, ⟨xs.length, rfl, Nat.zero_le _, Nat.zero_le _, h0⟩, ?_⟩
  rintro i m σ H ⟨rfl, hi, hj, p⟩
  obtain ⟨qx, qy⟩ := hq i σ H p
  by_cases hlt : i < xs.length ∧ i < ys.length
  · have hx : xs[i]? = some xs[i] := List.getElem?_eq_getElem hlt.1
    have hy : ys[i]? = some ys[i] := List.getElem?_eq_getElem hlt.2
    refine .inr ⟨⟨xs, ys, _, _, qx, qy, hx, hy⟩, Pv (i + 1), fun σ' H' p' => ⟨xs.length - (i + 1), by omega, rfl, hlt.1, hlt.2, p'⟩, fun v H' y => ?_⟩
    obtain ⟨T, x', y', rfl, hT, rfl, f1, f2⟩ := y
    exact hs i x' y' T σ H _ (f1 xs qx) (f2 ys qy) p (ex_new hT) (SqT.of upd_same)
  · have e : i = min xs.length ys.length := by omega
    refine .inl ⟨⟨xs, ys, qx, qy, by omega⟩, hd σ H (e ▸ p)⟩
theorem r_gTup2 {T : Addr} {x y : V} {t : TGs} {Q : L2.St → Hp → Prop} (h : SqT K H T [x, y]) (q : t [x, y] σ H Q) : gTup K 2 t (.ref T) σ H Q := ⟨T, [x, y], rfl, h, rfl, q⟩
end
section
variable {σ : L2.St} {H : Hp} {Q : VK} {K : PySem.W.Frag} {a c d : L2.St → Hp → Prop} {b : VK}
theorem r_gCons {t : TG} {u : TGs} {v : V} {vs : List V} {Q : L2.St → Hp → Prop} (h : t v σ H fun σ' H' => u vs σ' H' Q) : gCons t u (v :: vs) σ H Q := ⟨v, vs, rfl, h⟩
theorem r_gNil2 {Q : L2.St → Hp → Prop} (h : Q σ H) : gNil [] σ H Q := ⟨rfl, h⟩
theorem r_aug {i : Nat} {te : TE} {ti : TIp} {x : V} (hx : σ[i]? = some (some x)) (h : te σ H fun y H1 => ti x y H1 fun z H2 => a (σ.set i (some z)) H2) : tAug i te ti ⟨a, b, c, d⟩ σ H := ⟨x, hx, h⟩
theorem r_ipI {g : Int → Int → Int} {i j : Int} (q : Q (.int (g i j)) H) : ipI g (.int i) (.int j) H Q := ⟨i, j, rfl, rfl, q⟩
theorem r_neTS {p q : Addr} {xs ys : List Str} (h1 : SqT K H p (xs.map V.str)) (h2 : SqT K H q (ys.map V.str)) (o1 : ∀ x ∈ xs, Asc x) (o2 : ∀ x ∈ ys, Asc x) (k : Q (.bl (!decide (xs = ys))) H) : rNeD K (.ref p) (.ref q) H Q := by
  refine ⟨_, _, dp_strs h1, dp_strs h2, shaped_strs o1, shaped_strs o2, ?_⟩
  rw [eqv_strs]
  exact k
theorem r_catA {p q : Addr} {xs ys : List V} (h1 : SqT K H p xs) (h2 : SqT K H q ys) (hz : xs.length + ys.length ≤ 100000) (k : ∀ r H2, Same H H2 → SqT K H2 r (xs ++ ys) → Q (.ref r) H2) : rCatA K (.ref p) (.ref q) H Q := by
  refine ⟨p, q, xs, ys, rfl, rfl, h1, h2, Nat.le_trans hz (by decide), fun e => k q H (Same.refl _) (by rw [e]; exact h2), fun _ e => k p H (Same.refl _) (by rw [e, List.append_nil]; exact h1), fun _ _ r hr => k r _ (ex_new hr) (SqT.of upd_same)⟩
theorem cutV_to {xs : List V} {n : Int} (h0 : 0 ≤ n) : cutV xs none (some n) = xs.take n.toNat := by
  unfold cutV
  have e0 : HT.sIx xs.length 0 none = 0 := rfl
  have e1 : HT.sIx xs.length xs.length (some n) = min n.toNat xs.length := by
    show (if n < 0 then (n + (xs.length : Int)).toNat else min n.toNat xs.length) = _
    rw [if_neg (by omega)]
  rw [e0, e1, List.drop_zero, Nat.sub_zero]
  by_cases h : n.toNat ≤ xs.length
  · rw [Nat.min_eq_left h]
  · rw [Nat.min_eq_right (by omega), List.take_length, List.take_of_length_le (by omega)]
theorem cutV_last {xs : List V} : cutV xs none (some (-1)) = xs.dropLast := by
  unfold cutV
  have e0 : HT.sIx xs.length 0 none = 0 := rfl
  have e1 : HT.sIx xs.length xs.length (some (-1)) = xs.length - 1 := by
    show (if (-1 : Int) < 0 then ((-1 : Int) + (xs.length : Int)).toNat else min (-1 : Int).toNat xs.length) = _
    rw [if_pos (by decide)]; omega
  rw [e0, e1, List.drop_zero, Nat.sub_zero, List.dropLast_eq_take]
end
section
variable {σ : L2.St} {H : Hp} {Q : VK}
def MsgF (s : Str) (σ : L2.St) (x : V) (H1 : Hp) (Q : VK) : Prop := (∃ y : Str, x = .str y ∧ y.length ≤ sizeLine ∧ (fun (x : V) (H1 : Hp) => ∃ y : Str, x = .str y ∧ (Str.empty ++ s ++ y).length ≤ sizeLine ∧ tJs [] (Str.empty ++ s ++ y) σ H1 fun out H2 => Q (.str out) H2) (.str y) H1) ∨
  ∃ i : Int, x = .int i ∧ i.natAbs.log2 < 1920 ∧ (fun (x : V) (H1 : Hp) => ∃ y : Str, x = .str y ∧ (Str.empty ++ s ++ y).length ≤ sizeLine ∧ tJs [] (Str.empty ++ s ++ y) σ H1 fun out H2 => Q (.str out) H2) (.str (toString i)) H1
theorem r_msgF {s : Str} {te : TE} (h1 : s.length ≤ 1000) (h : te σ H fun x H1 => MsgF s σ x H1 Q) : tJoined [tC (.str s), tFmt te] σ H Q := by
  refine ⟨s, rfl, ?_, h⟩
  rw [len_app]
  show 0 + s.length ≤ sizeLine
  have : 1000 ≤ sizeLine := by decide
  omega
theorem r_msgF1 {s z : Str} (h1 : s.length ≤ 1000) (h2 : z.length ≤ 100000) (q : ∀ out, Q (.str out) H) : MsgF s σ (.str z) H Q := by
  refine .inl ⟨z, rfl, Nat.le_trans h2 (by decide), z, rfl, ?_, q _⟩
  rw [len_app, len_app]
  show 0 + s.length + z.length ≤ sizeLine
  have : 101000 ≤ sizeLine := by decide
  omega
end
section
variable {X : Cx} {H : Hp} {Q : VK}
def rMin2 : List V → Hp → VK → Prop := fun xs H Q => ∃ i j, xs = [.int i, .int j] ∧ Q (.int (if j < i then j else i)) H
theorem cMin2 (hc : X.calm = true) : CallR X (.builtin "min") rMin2 := call_min2 hc
theorem r_min2 {i j : Int} (q : Q (.int (if j < i then j else i)) H) : rMin2 [.int i, .int j] H Q := ⟨i, j, rfl, q⟩
theorem atI_end {α : Type} {xs : List α} {v : α} (h : xs[xs.length - 1]? = some v) : atI xs (-1) = some v := by
  have hl : xs.length - 1 < xs.length := (List.getElem?_eq_some_iff.mp h).1
  have e : ixN xs.length (-1) = some (xs.length - 1) := by
    unfold ixN
    rw [if_neg (by decide), if_pos (by omega)]
    congr 1
    omega
  unfold atI
  rw [e]
  exact h
end
/-! ### names and their plain labels -/
theorem plain_name {zs : List Str} (hl : zs.length ≤ 12) (h : ∀ z ∈ zs, plainB z = true) : nameB zs = true := name_yes hl fun i y hy => .inl (h y (List.mem_of_getElem? hy))
theorem name_plain {zs : List Str} (h : nameB zs = true) (hw : wildB zs = false) : ∀ z ∈ zs, plainB z = true := by
  unfold nameB at h
  rw [hw, Bool.and_eq_true, if_neg (by decide)] at h
  exact List.all_eq_true.mp h.2
theorem name_plainW {zs : List Str} (h : nameB zs = true) (hw : wildB zs = true) : ∀ z ∈ zs.dropLast, plainB z = true := by
  unfold nameB at h
  rw [hw, Bool.and_eq_true, if_pos rfl] at h
  exact List.all_eq_true.mp h.2
theorem last_wild {zs : List Str} {y : Str} (h : zs[zs.length - 1]? = some y) : wildB zs = decide (y = "*") := by
  have h1 : 1 ≤ zs.length := by have := (List.getElem?_eq_some_iff.mp h).1; omega
  by_cases e : y = "*"
  · rw [decide_eq_true e, (wild_iff zs).mpr ⟨h1, by rw [h, e]; rfl⟩]
  · rw [decide_eq_false e]
    refine Bool.eq_false_iff.mpr fun w => e ?_
    have := ((wild_iff zs).mp w).2
    rw [h] at this
    exact Option.some.inj this
theorem sl_kA {X : Cx} {K : PySem.W.Frag} (hK : X.K = K) : SlR X (rSlA K) := hK ▸ sl_tupA
/-! ### tuples of names -/
def dT (zs : List Str) : PyData := .tuple (zs.map PyData.str)
/-- out: tuples of texts, as L says -/
def TupsAt (K : PySem.W.Frag) (H : Hp) (out : List V) (L : List (List Str)) : Prop := out.length = L.length ∧ ∀ (i : Nat) (zs : List Str), L[i]? = some zs → ∃ b, out[i]? = some (.ref b) ∧ SqT K H b (zs.map V.str)
theorem TupsAt.ex {K : PySem.W.Frag} {H H' : Hp} {out : List V} {L : List (List Str)} (h : TupsAt K H out L) (e : Same H H') : TupsAt K H' out L := ⟨h.1, fun i zs hi => by
  obtain ⟨b, hb, hs⟩ := h.2 i zs hi
  exact ⟨b, hb, ex_t e hs⟩⟩
theorem TupsAt.all {K : PySem.W.Frag} {H : Hp} : ∀ {out : List V} {L : List (List Str)}, TupsAt K H out L → DpAll K H out (L.map dT)
  | [], [], _ => .nil
  | [], _ :: _, h => by have := h.1; simp at this
  | _ :: _, [], h => by have := h.1; simp at this
  | v :: out, zs :: L, h => by
    obtain ⟨b, hb, hs⟩ := h.2 0 zs rfl
    have : v = .ref b := by simpa using hb
    subst this
    exact .cons (dp_tup hs) (TupsAt.all ⟨by simpa using h.1, fun i zs hi => by simpa using h.2 (i + 1) zs (by simpa using hi)⟩)
theorem dp_tups {K : PySem.W.Frag} {H : Hp} {t : Addr} {out : List V} {L : List (List Str)} (h : SqT K H t out) (hT : TupsAt K H out L) : Dp K H (.ref t) (.tuple (L.map dT)) := .tup h hT.all
theorem pure_tups {L : List (List Str)} (hl : L.length ≤ 10000) (h : ∀ zs ∈ L, zs.length ≤ 10000 ∧ ∀ z ∈ zs, Asc z) : pureD (.tuple (L.map dT)) = true := by
  simp only [pureD, List.length_map, decide_eq_true hl, Bool.true_and]
  refine (pureAll_iff _).mpr fun x hx => ?_
  obtain ⟨zs, hz, rfl⟩ := List.mem_map.mp hx
  exact pure_strs (h zs hz).1 (h zs hz).2
theorem depth_tupsAll : ∀ L : List (List Str), PyData.depthAll (L.map dT) ≤ 1
  | [] => by simp [PyData.depthAll]
  | zs :: L => by
    have h := depth_tupsAll L
    have h2 := depth_tup zs
    simp only [List.map_cons, PyData.depthAll]
    unfold dT at h ⊢
    omega
theorem eqv_tups (L : List (List Str)) : PyData.eqv (.tuple (L.map dT)) (.tuple (L.map dT)) = true := by
  simp only [PyData.eqv]
  refine eqvAll_yes rfl fun i d e h1 h2 => ?_
  rw [h1] at h2
  cases h2
  rw [List.getElem?_map] at h1
  cases hz : L[i]? with
  | none => rw [hz] at h1; cases h1
  | some zs =>
    rw [hz] at h1
    cases h1
    unfold dT
    rw [eqv_strs]
    simp
/-- _law_same of the same names -/
theorem r_same_tups {K : PySem.W.Frag} {H : Hp} {Q : VK} {a b : Addr} {xs ys : List V} {L : List (List Str)} {n : Nat} (h1 : SqT K H a xs) (h2 : SqT K H b ys) (t1 : TupsAt K H xs L) (t2 : TupsAt K H ys L) (hl : L.length ≤ 10000) (h : ∀ zs ∈ L, zs.length ≤ 10000 ∧ ∀ z ∈ zs, Asc z)
    (q : Q (.bl true) H) : spSame K (n + 3) [.ref a, .ref b] H Q E0 :=
  ⟨_, _, _, _, rfl, dp_tups h1 t1, dp_tups h2 t2, pure_tups hl h, pure_tups hl h, by
    have := depth_tupsAll L
    simp only [PyData.depth]
    omega, by rw [eqv_tups]; exact q⟩
end My

set_option Elab.async false
set_option linter.all false
set_option maxRecDepth 100000
set_option maxHeartbeats 4000000
namespace My
open PySem PySem.Spec PyProof.Rows L2 PySem.W
open C8 (tCut pss_cut)
/-! ### order of data of one form -/
section
variable {X : Cx}
def rLtD (K : PySem.W.Frag) : R2 := fun x y H Q => ∃ d e, Dp K H x d ∧ Dp K H y e ∧ alike d e = true ∧ d ≠ .none ∧ d.depth ≤ 64 ∧ Q (.bl (dataLt d e)) H
def rLeD (K : PySem.W.Frag) : R2 := fun x y H Q => ∃ d e, Dp K H x d ∧ Dp K H y e ∧ alike d e = true ∧ d ≠ .none ∧ d.depth ≤ 64 ∧ Q (.bl (!dataLt e d)) H
def rGtD (K : PySem.W.Frag) : R2 := fun x y H Q => ∃ d e, Dp K H x d ∧ Dp K H y e ∧ alike d e = true ∧ d ≠ .none ∧ d.depth ≤ 64 ∧ Q (.bl (dataLt e d)) H
def rGeD (K : PySem.W.Frag) : R2 := fun x y H Q => ∃ d e, Dp K H x d ∧ Dp K H y e ∧ alike d e = true ∧ d ≠ .none ∧ d.depth ≤ 64 ∧ Q (.bl (!dataLt d e)) H
theorem op_ltD (hu : X.A.units + 64 < cLine) : OpR X (compareOp .Lt) (rLtD X.K) := by
  intro pins s σ H x y v u Q I rx ry h
  obtain ⟨d, e, hd, he, ha, hn, hz, q⟩ := h
  obtain ⟨as, r1⟩ := Dp.reads I d x v hd rx
  obtain ⟨bs, r2⟩ := Dp.reads I e y u he ry
  exact lt_data r1 r2 ha hn (by omega) ⟨.bl _, H, I, rfl, q⟩
theorem op_leD (hu : X.A.units + 64 < cLine) : OpR X (compareOp .LtE) (rLeD X.K) := by
  intro pins s σ H x y v u Q I rx ry h
  obtain ⟨d, e, hd, he, ha, hn, hz, q⟩ := h
  obtain ⟨as, r1⟩ := Dp.reads I d x v hd rx
  obtain ⟨bs, r2⟩ := Dp.reads I e y u he ry
  exact le_data r1 r2 ha hn (by omega) ⟨.bl _, H, I, rfl, q⟩
theorem op_gtD (hu : X.A.units + 64 < cLine) : OpR X (compareOp .Gt) (rGtD X.K) := by
  intro pins s σ H x y v u Q I rx ry h
  obtain ⟨d, e, hd, he, ha, hn, hz, q⟩ := h
  obtain ⟨as, r1⟩ := Dp.reads I d x v hd rx
  obtain ⟨bs, r2⟩ := Dp.reads I e y u he ry
  exact gt_data r1 r2 ha hn (by omega) ⟨.bl _, H, I, rfl, q⟩
theorem op_geD (hu : X.A.units + 64 < cLine) : OpR X (compareOp .GtE) (rGeD X.K) := by
  intro pins s σ H x y v u Q I rx ry h
  obtain ⟨d, e, hd, he, ha, hn, hz, q⟩ := h
  obtain ⟨as, r1⟩ := Dp.reads I d x v hd rx
  obtain ⟨bs, r2⟩ := Dp.reads I e y u he ry
  exact ge_data r1 r2 ha hn (by omega) ⟨.bl _, H, I, rfl, q⟩
end
/-! ### sorted(xs) of tuples, the empty one among them -/
section
open PySem.SeqAt
variable {prog : Program} {w : World} {A : Around} {E : Value → Shared → Prop} {s : Shared}
theorem call_tup_lt {Q : Value → Shared → Prop} {l b : Addr} {items items2 : Array Value} {e r : Nat → Bool} (hl : s.heap.IsTuple l items) (hb : s.heap.IsTuple b items2)
    (he : ∀ j (h1 : j < items.size) (h2 : j < items2.size), EqAt A.in1 s items[j] items2[j] (e j)) (hr : ∀ j (h1 : j < items.size) (h2 : j < items2.size), e j = false → RcLt A.in1 s items[j] items2[j] (r j))
    (h : Q (.bool (firstLt e r (decide (items.size < items2.size)) (List.range (min items.size items2.size)))) s) : wpAny (model prog w) A (call (.builtin "tuple.__lt__") [.ref l, .ref b]) Q E s := by
  obtain ⟨⟨cls, dd, data, sl⟩, ho, hc, n, hd⟩ := id hl
  obtain ⟨⟨cls2, dd2, data2, sl2⟩, ho2, hc2, n2, hd2⟩ := id hb
  simp only at hc hd hc2 hd2
  subst hc hd hc2 hd2
  exact call_meets F.slot_tuple_lt ⟨_, ho, rfl⟩ F.entry_tuple_lt (F.args_tuple_lt_2 _ _) (tuple_ltAt l b items items2 n n2 dd dd2 sl sl2 e r) ⟨ho, ho2, he, hr, h⟩
theorem oneLt_tups {f : Bool} {xs ys : List PyData} {a b : Value} {as bs : List Addr} {Q : Bool → Shared → Prop} (ra : Reads s.heap a (.tuple xs) as) (rb : Reads s.heap b (.tuple ys) bs) (h : alike (.tuple xs) (.tuple ys) = true)
    (hu : A.units + min (PyData.tuple xs).depth (PyData.tuple ys).depth < cLine) (hq : Q (dataLt (.tuple xs) (.tuple ys)) s) : wpAny (model prog w) A (oneLt' f a b) Q E s := by
  cases f with
  | false =>
    rw [oneLt'_eq]
    simp only [Bool.false_eq_true, if_false]
    exact wpAny_bind (rcLt_alike _ _ A s a b as bs ra rb h (by intro z; cases z) hu prog w E _ (wpAny_truthy_bool hq))
  | true =>
    have hal : alikeAll xs ys = true := by simpa [alike] using h
    cases ra with
    | @tuple l o vs n _ as₁ h1 h2 h3 h4 =>
      cases rb with
      | @tuple l' o' vs' n' _ bs₁ k1 k2 k3 k4 =>
        have n1 : vs.size = xs.length := by simpa using SeqAt.ReadsAll.length _ _ _ h4
        have n2 : vs'.size = ys.length := by simpa using SeqAt.ReadsAll.length _ _ _ k4
        rw [dataLt_tuple, ← firstLt_toks xs ys hal, ← n1, ← n2] at hq
        rw [oneLt'_eq]
        simp only [if_true]
        refine wpAny_bind (wpAny_cRoomFor (room_here hu) ?_)
        refine wpAny_bind (wpAny_callSpecialIfBound?_slot (T := "tuple") ⟨_, h1, h2⟩ F.slot_tuple_lt (call_tup_lt (e := pairEq xs ys) (r := fun j => dataLt (xs.getD j .none) (ys.getD j .none)) ⟨_, h1, h2, _, h3⟩ ⟨_, k1, k2, _, k3⟩ (fun j j1 j2 => ?_) (fun j j1 j2 hj => ?_) ?_))
        · have := eqAt_alikeAll xs ys A.in1 s vs.toList vs'.toList _ _ h4 k4 hal (room_in hu) j (by simpa using j1) (by simpa using j2)
          simpa using this
        · have := rcLt_alikeAll xs ys A.in1 s vs.toList vs'.toList _ _ h4 k4 hal (room_in hu) j (by simpa using j1) (by simpa using j2) hj
          simpa using this
        · exact wpAny_truthy_bool hq
theorem keyLt_general (x y : Value) : keyLt' general' x y = oneLt' false x y := rfl
/-- the first items of the keys -/
def firstD : PyData → Bool
  | .tuple (_ :: _) => true
  | _ => false
theorem firsts_reads : ∀ (vs : List Value) (ds : List PyData) {Q : List (Option Value) → Shared → Prop}, EachIs (fun v d => ∃ as, Reads s.heap v d as) vs ds → (∀ d ∈ ds, ∃ xs, d = .tuple xs) →
    (∀ fs : List (Option Value), fs.map (·.isSome) = ds.map firstD → Q fs s) → wpAny (model prog w) A (vs.mapM firstOfTuple') Q E s
  | [], ds, Q, e, ht, h => by
    cases e
    rw [List.mapM_nil]
    exact wpAny_pure (h [] rfl)
  | v :: vs, ds, Q, e, ht, h => by
    cases e with
    | @cons _ d _ ds h1 t =>
      obtain ⟨as, r⟩ := h1
      obtain ⟨xs, rfl⟩ := ht d List.mem_cons_self
      cases r with
      | @tuple a o xs' n _ _ ho hc hd hr =>
        rw [List.mapM_cons]
        refine wpAny_bind ?_
        rw [kas_first_eq]
        refine wpAny_bind (Looks.here (show Looks (model prog w) s.heap (typeOf (.ref a)) o.cls from (Looks.ld ho).andThen .now) ?_)
        rw [hc, if_neg (by first | decide | simp)]
        refine wpAny_bind (listItems_at ho hd (wpAny_pure ?_))
        have hz : xs'.size = xs.length := by simpa using SeqAt.ReadsAll.length _ _ _ hr
        refine wpAny_bind (firsts_reads vs ds (Q := fun bs s' => wpAny (model prog w) A (pure (xs'[0]? :: bs)) Q E s') t (fun d hd => ht d (List.mem_cons_of_mem _ hd)) fun fs hf => wpAny_pure (h _ ?_))
        rw [List.map_cons, List.map_cons, hf]
        congr 1
        cases xs with
        | nil =>
          have : xs'[0]? = none := Array.getElem?_eq_none (by rw [hz]; simp)
          rw [this]; rfl
        | cons x xs =>
          have h0 : 0 < xs'.size := by rw [hz]; simp
          rw [Array.getElem?_eq_getElem h0]; rfl
theorem allAlike_tail {d : PyData} {ds : List PyData} (h : AllAlike (d :: ds)) : AllAlike ds := fun x hx y hy => h x (List.mem_cons_of_mem _ hx) y (List.mem_cons_of_mem _ hy)
/-- tuples that are alike can be sorted, whatever their lengths -/
theorem sortsAt_tups {vs : List Value} {ds : List PyData} (e : EachIs (fun v d => ∃ as, Reads s.heap v d as) vs ds) (hal : AllAlike ds) (ht : ∀ d ∈ ds, ∃ xs, d = .tuple xs) (hu : ∀ d, d ∈ ds → A.units + d.depth < cLine) : SortsAt prog w A s (dataKind s.heap ds) vs := by
  by_cases hall : ∀ d ∈ ds, firstD d = true
  · refine SortsAt.data e hal (.inl fun d hd => ?_) hu
    obtain ⟨xs, rfl⟩ := ht d hd
    cases xs with
    | nil => have := hall _ hd; cases this
    | cons x r => exact ⟨x, r, rfl⟩
  have room : ∀ {d d' : PyData}, d ∈ ds → A.units + min d.depth d'.depth < cLine := fun {d d'} hd => Nat.lt_of_le_of_lt (Nat.add_le_add_left (Nat.min_le_left _ _) _) (hu d hd)
  have hlt : ∀ f : Bool, ∀ E : Value → Shared → Prop, ∀ (x y : Value) (a b : (dataKind s.heap ds).α) {Q : Bool → Shared → Prop}, (dataKind s.heap ds).keyOf x = some a → (dataKind s.heap ds).keyOf y = some b → Q ((dataKind s.heap ds).blt a b) s → wpAny (model prog w) A (oneLt' f x y) Q E s := by
    intro f E x y a b Q ha hb hq
    obtain ⟨d, as, hd, ra, rfl⟩ := dataKind_inv ha
    obtain ⟨d', as', hd', rb, rfl⟩ := dataKind_inv hb
    obtain ⟨x1, rfl⟩ := ht d hd
    obtain ⟨x2, rfl⟩ := ht d' hd'
    exact oneLt_tups ra rb (hal _ hd _ hd') (room hd) hq
  refine ⟨fun v hv => ?_, ?_⟩
  · obtain ⟨d, hd, as, r⟩ := e.left v hv
    exact ⟨_, dataKind_some hal hd r⟩
  have hno : ∀ fs : List (Option Value), fs.map (·.isSome) = ds.map firstD → (fs.toArray.all fun x => x.isSome) = false := fun fs hf => by
    rw [Bool.eq_false_iff]
    intro h
    refine hall fun d hd => ?_
    rw [List.all_toArray, List.all_eq_true] at h
    have hm : firstD d ∈ fs.map (·.isSome) := by rw [hf]; exact List.mem_map_of_mem hd
    obtain ⟨x, hx, e1⟩ := List.mem_map.mp hm
    rw [← e1]
    exact h x hx
  cases ds with
  | nil => exact absurd (fun d hd => by cases hd) hall
  | cons d₀ ds₀ =>
    cases hf0 : firstD d₀ with
    | true =>
      refine ⟨general', fun E x y a b Q ha hb hq => ?_, fun h2 E Q hq => ?_⟩
      · rw [keyLt_general]
        exact hlt false E x y a b ha hb hq
      · rw [keyKind'_eq, List.mapM_toArray, map_eq_pure_bind]
        refine wpAny_bind (wpAny_bind (firsts_reads vs _ e ht fun fs hf => wpAny_pure ?_))
        rw [if_neg (by rw [hno fs hf]; decide)]
        cases fs with
        | nil => simp at hf
        | cons f fs =>
          have e1 : f.isSome = true := by rw [List.map_cons, List.map_cons] at hf; rw [(List.cons.inj hf).1, hf0]
          rw [if_pos (by simpa using e1)]
          exact wpAny_pure hq
    | false =>
      refine ⟨oneType', fun E x y a b Q ha hb hq => ?_, fun h2 E Q hq => ?_⟩
      · rw [keyLt'_oneType]
        exact hlt true E x y a b ha hb hq
      · obtain ⟨v₁, v₂, rest, rfl⟩ : ∃ v₁ v₂ rest, vs = v₁ :: v₂ :: rest := by
          match vs, h2 with
          | [], h2 => simp at h2
          | [_], h2 => simp at h2
          | v₁ :: v₂ :: rest, _ => exact ⟨v₁, v₂, rest, rfl⟩
        rw [keyKind'_eq, List.mapM_toArray, map_eq_pure_bind]
        refine wpAny_bind (wpAny_bind (firsts_reads _ _ e ht fun fs hf => wpAny_pure ?_))
        rw [if_neg (by rw [hno fs hf]; decide)]
        cases fs with
        | nil => simp at hf
        | cons f fs =>
          have e1 : f.isSome = false := by rw [List.map_cons, List.map_cons] at hf; rw [(List.cons.inj hf).1, hf0]
          rw [if_neg (by simpa using e1)]
          rw [oneTypeOnly'_eq, List.mapM_toArray, map_eq_pure_bind]
          refine wpAny_bind (wpAny_bind (wpAny_bind (kas_mapM (r := Value.type "tuple") _ (fun v hv Q' hq => ?_) (wpAny_pure ?_))))
          · obtain ⟨d, hd, as, r⟩ := e.left v hv
            obtain ⟨xs, rfl⟩ := ht d hd
            exact (show Looks (model prog w) s.heap (typeOf v) (.type "tuple") from looks_reads r).here hq
          · have hall : ((List.map (fun _ => Value.type "tuple") (v₁ :: v₂ :: rest)).toArray.all fun x => x == Value.type "tuple") = true := by
              simp only [List.all_toArray, List.all_map, List.all_eq_true]
              intro _ _
              exact beq_self_eq_true _
            have h0 : (List.map (fun _ => Value.type "tuple") (v₁ :: v₂ :: rest)).toArray[0]? = some (Value.type "tuple") := by simp
            rw [h0]
            simp only [hall, if_true]
            exact wpAny_pure (wpAny_pure hq)
/-- all are tuples, or none is a tuple or None -/
def SortableT (ds : List PyData) : Prop := (∀ d ∈ ds, ∃ xs, d = .tuple xs) ∨ ∀ d ∈ ds, d ≠ .none ∧ ∀ xs, d ≠ .tuple xs
theorem sortsAt_data {vs : List Value} {ds : List PyData} (e : EachIs (fun v d => ∃ as, Reads s.heap v d as) vs ds) (hal : AllAlike ds) (hk : SortableT ds) (hu : ∀ d, d ∈ ds → A.units + d.depth < cLine) : SortsAt prog w A s (dataKind s.heap ds) vs := by
  rcases hk with h | h
  · exact sortsAt_tups e hal h hu
  · exact SortsAt.data e hal (.inr h) hu
theorem sorted_dataT {R : Value → PyData → Prop} {ds : List PyData} {vs : List Value} {l : Addr} {Q : Value → Shared → Prop} (hl : s.heap.IsList l vs.toArray) (e : EachIs R vs ds) (er : EachIs (fun v d => ∃ as, Reads s.heap v d as) vs ds) (hal : AllAlike ds) (hk : SortableT ds) (hL : ds.length ≤ sizeLine)
    (hu : ∀ d, d ∈ ds → A.units + 2 + d.depth < cLine) (h : ∀ out, out.length = ds.length → EachIs R out (ds.mergeSort (dataLe false id)) → Q (.ref (s.heap.objs.size + 1)) { s with heap := sortedAll s.heap vs (List.toArray out) }) :
    wpAny (model prog w) A (call (.builtin "sorted") [.ref l]) Q E s := by
  have er' : EachIs (fun v b => ∃ as, Reads (sortingHeap (copyHeap s.heap vs) (s.heap.objs.size + 1) vs) v b as) vs ds := er.mono fun _ _ ⟨as, r⟩ => ⟨as, PyProof.Rows.Reads.keeps (fun _ _ => sorting_copy_old) r⟩
  have em : ds.map id = ds := List.map_id ds
  have hal' : AllAlike (ds.map id) := by rw [em]; exact hal
  refine sorted_vals hl (sortsAt_data (s := { s with heap := sortingHeap (copyHeap s.heap vs) (s.heap.objs.size + 1) vs }) er' hal hk fun d hd => ?_) (by rw [e.length]; exact hL) (h _ (by rw [sortVals_length false rfl]; exact e.length) ?_)
  · have := hu d hd
    first | exact this | (show A.in1.in1.units + _ < _; exact this)
  · have := sortVals_data (h' := sortingHeap (copyHeap s.heap vs) (s.heap.objs.size + 1) vs) (enc := id) false e er' hal'
    rw [em] at this
    exact this
end
section
variable {X : Cx}
theorem vals_of_each {K : PySem.W.Frag} {H : Hp} : ∀ {out : List Value} {ds : List PyData}, EachIs (fun v d => ∃ y, RelV y v ∧ Dp K H y d) out ds → ∃ ys, Vals ys out ∧ DpAll K H ys ds
  | _, _, .nil => ⟨[], .nil, .nil⟩
  | _, _, .cons ⟨y, r, h⟩ t => by
    obtain ⟨ys, r2, h2⟩ := vals_of_each t
    exact ⟨y :: ys, .cons r r2, .cons h h2⟩
theorem each_of_vals {K : PySem.W.Frag} {H : Hp} : ∀ {xs : List V} {vs : List Value} {ds : List PyData}, Vals xs vs → DpAll K H xs ds → EachIs (fun v d => ∃ y, RelV y v ∧ Dp K H y d) vs ds
  | _, _, _, .nil, .nil => .nil
  | _, _, _, .cons r t, .cons h u => .cons ⟨_, r, h⟩ (each_of_vals t u)
/-- sorted(xs), xs a list of data that are alike -/
def rSortD (K : PySem.W.Frag) : List V → Hp → VK → Prop := fun vs H Q => ∃ (a : Addr) (xs : List V) (ds : List PyData), vs = [V.ref a] ∧ SqL K H a xs ∧ DpAll K H xs ds ∧ AllAlike ds ∧ SortableT ds ∧ (∀ d ∈ ds, d.depth ≤ 60) ∧
  ∀ (ys : List V) (p : Addr), DpAll K H ys (ds.mergeSort (dataLe false id)) → H p = none → Q (.ref p) (upd H p (.lst ys))
theorem cr_sortedD (hu : X.A.units + 64 < cLine) : CallR X (.builtin "sorted") (rSortD X.K) := by
  intro pins s σ H vs us Q I r h
  obtain ⟨a, xs, ds, rfl, hs, hx, hal, hk, hz, q⟩ := h
  obtain ⟨its, rv, hl, hsz⟩ := I.list hs
  obtain ⟨u, rfl, ru⟩ := vals1 r
  obtain rfl : u = Value.ref a := ru
  have el : xs.length = ds.length := dpAll_len hx
  have e1 := each_of_vals rv hx
  refine sorted_dataT (R := fun v d => ∃ y, RelV y v ∧ Dp X.K H y d) hl.isList e1 (e1.mono fun v d ⟨y, r, h⟩ => Dp.reads I d y v h r) hal hk (by rw [← el]; exact hsz) (fun d hd => by have := hz d hd; omega) fun out ho h2 => ?_
  obtain ⟨ys, r2, h3⟩ := vals_of_each h2
  obtain ⟨n, hn⟩ := sortedAll_at s.heap its (List.toArray out)
  refine ⟨.ref (s.heap.objs.size + 1), upd H (s.heap.objs.size + 1) (.lst ys), I.laid (t' := s.toks) (fun b o e => sortedAll_old e) (Nat.le_succ _) ⟨?_, out, n, r2, hn⟩, rfl, q ys _ h3 (I.hok.fresh (Nat.le_succ _))⟩
  rw [r2.length, ho, ← el]
  exact hsz
end
section
variable {K : PySem.W.Frag} {H : Hp} {Q : VK}
theorem r_sortD {a : Addr} {xs : List V} {ds : List PyData} (hs : SqL K H a xs) (hx : DpAll K H xs ds) (hal : AllAlike ds) (hk : SortableT ds) (hz : ∀ d ∈ ds, d.depth ≤ 60)
    (q : ∀ (ys : List V) (p : Addr) H2, DpAll K H ys (ds.mergeSort (dataLe false id)) → H p = none → Same H H2 → H2 p = some (.lst ys) → Q (.ref p) H2) : rSortD K [.ref a] H Q :=
  ⟨a, xs, ds, rfl, hs, hx, hal, hk, hz, fun ys p h hp => q ys p _ h hp (ex_new hp) upd_same⟩
/-! ### names in order -/
/-- tuples of texts, the lesser -/
def ltN (xs ys : List Str) : Bool := dataLt (dT xs) (dT ys)
theorem alike_strs : ∀ xs ys : List Str, alikeAll (xs.map PyData.str) (ys.map PyData.str) = true
  | [], _ => by simp [alikeAll]
  | _ :: _, [] => by simp [alikeAll]
  | x :: xs, y :: ys => by
    simp only [List.map_cons, alikeAll, alike_strs xs ys, alike, Bool.and_self]
theorem alike_dT (xs ys : List Str) : alike (dT xs) (dT ys) = true := by
  unfold dT
  simp only [alike]
  exact alike_strs xs ys
theorem r_ltTS {a b : Addr} {xs ys : List Str} (h1 : SqT K H a (xs.map V.str)) (h2 : SqT K H b (ys.map V.str)) (q : Q (.bl (ltN xs ys)) H) : rLtD K (.ref a) (.ref b) H Q :=
  ⟨_, _, dp_tup h1, dp_tup h2, alike_dT _ _, (by intro z; cases z), by have := depth_tup xs; omega, q⟩
theorem r_leTS {a b : Addr} {xs ys : List Str} (h1 : SqT K H a (xs.map V.str)) (h2 : SqT K H b (ys.map V.str)) (q : Q (.bl (!ltN ys xs)) H) : rLeD K (.ref a) (.ref b) H Q :=
  ⟨_, _, dp_tup h1, dp_tup h2, alike_dT _ _, (by intro z; cases z), by have := depth_tup xs; omega, q⟩
theorem r_gtTS {a b : Addr} {xs ys : List Str} (h1 : SqT K H a (xs.map V.str)) (h2 : SqT K H b (ys.map V.str)) (q : Q (.bl (ltN ys xs)) H) : rGtD K (.ref a) (.ref b) H Q :=
  ⟨_, _, dp_tup h1, dp_tup h2, alike_dT _ _, (by intro z; cases z), by have := depth_tup xs; omega, q⟩
theorem r_geTS {a b : Addr} {xs ys : List Str} (h1 : SqT K H a (xs.map V.str)) (h2 : SqT K H b (ys.map V.str)) (q : Q (.bl (!ltN xs ys)) H) : rGeD K (.ref a) (.ref b) H Q :=
  ⟨_, _, dp_tup h1, dp_tup h2, alike_dT _ _, (by intro z; cases z), by have := depth_tup xs; omega, q⟩
/-- texts, the lesser -/
def ltS (x y : Str) : Bool := decide (x.cps.toList < y.cps.toList)
theorem ltN_cons (x y : Str) (xs ys : List Str) : ltN (x :: xs) (y :: ys) = if x = y then ltN xs ys else ltS x y := by
  unfold ltN dT ltS
  rw [dataLt_tuple, dataLt_tuple, List.map_cons, List.map_cons, dataLt_cons (by simp [alike])]
  rw [dataLt_str]
  by_cases h : x = y
  · rw [if_pos h, if_pos (by simp [PyData.eqv, h])]
  · rw [if_neg h, if_neg (by simp [PyData.eqv, h])]
theorem ltN_nil_cons (y : Str) (ys : List Str) : ltN [] (y :: ys) = true := by
  unfold ltN dT
  rw [dataLt_tuple, List.map_cons, toks_all_cons]
  simp only [List.map_nil, keyToksAll]
  rw [lex_diff (O := itemOrd) (by simp)]
  first | rfl | decide | simp [itemOrd, itemLt]
theorem ltN_nil (xs : List Str) : ltN xs [] = false := by
  cases xs with
  | nil =>
    unfold ltN
    exact lex_irrefl _
  | cons x xs =>
    unfold ltN dT
    rw [dataLt_tuple, List.map_cons, toks_all_cons]
    simp only [List.map_nil, keyToksAll]
    rw [lex_diff (O := itemOrd) (by simp)]
    first | rfl | decide | simp [itemOrd, itemLt]
theorem ltS_irrefl (x : Str) : ltS x x = false := by
  unfold ltS
  exact decide_eq_false (List.lt_irrefl _)
theorem ltS_trans {x y z : Str} (h1 : ltS x y = true) (h2 : ltS y z = true) : ltS x z = true := by
  unfold ltS at *
  rw [decide_eq_true_iff] at *
  exact List.lt_trans h1 h2
theorem ltS_total {x y : Str} (h : x ≠ y) : ltS x y = true ∨ ltS y x = true := by
  unfold ltS
  simp only [decide_eq_true_iff]
  have hne : x.cps.toList ≠ y.cps.toList := fun e => h (TL.ext_tl e)
  by_cases h1 : x.cps.toList < y.cps.toList
  · exact .inl h1
  · by_cases h2 : y.cps.toList < x.cps.toList
    · exact .inr h2
    · exact absurd (List.le_antisymm (List.not_lt.mp h2) (List.not_lt.mp h1)) hne
theorem ltS_asymm {x y : Str} (h : ltS x y = true) : ltS y x = false := by
  cases e : ltS y x with
  | false => rfl
  | true =>
    have := ltS_trans h e
    rw [ltS_irrefl] at this
    cases this
theorem ltN_irrefl : ∀ xs : List Str, ltN xs xs = false
  | [] => ltN_nil []
  | x :: xs => by rw [ltN_cons, if_pos rfl, ltN_irrefl xs]
theorem ltN_trans : ∀ {xs ys zs : List Str}, ltN xs ys = true → ltN ys zs = true → ltN xs zs = true
  | [], [], _, h, _ => by rw [ltN_nil] at h; cases h
  | _ :: _, [], _, h, _ => by rw [ltN_nil] at h; cases h
  | _, _ :: _, [], _, h => by rw [ltN_nil] at h; cases h
  | [], _ :: _, z :: zs, _, _ => ltN_nil_cons z zs
  | x :: xs, y :: ys, z :: zs, h1, h2 => by
    rw [ltN_cons] at h1 h2 ⊢
    by_cases e1 : x = y
    · rw [if_pos e1] at h1
      subst e1
      by_cases e2 : x = z
      · rw [if_pos e2] at h2 ⊢
        exact ltN_trans h1 h2
      · rw [if_neg e2] at h2 ⊢
        exact h2
    · rw [if_neg e1] at h1
      by_cases e2 : y = z
      · subst e2
        rw [if_neg e1]
        exact h1
      · rw [if_neg e2] at h2
        have h3 := ltS_trans h1 h2
        by_cases e3 : x = z
        · subst e3
          rw [ltS_irrefl] at h3
          cases h3
        · rw [if_neg e3]
          exact h3
theorem ltN_total : ∀ {xs ys : List Str}, xs ≠ ys → ltN xs ys = true ∨ ltN ys xs = true
  | [], [], h => absurd rfl h
  | [], y :: ys, _ => .inl (ltN_nil_cons y ys)
  | x :: xs, [], _ => .inr (ltN_nil_cons x xs)
  | x :: xs, y :: ys, h => by
    rw [ltN_cons, ltN_cons]
    by_cases e : x = y
    · rw [if_pos e, if_pos e.symm]
      exact ltN_total fun z => h (by rw [e, z])
    · rw [if_neg e, if_neg fun z => e z.symm]
      exact ltS_total e
theorem ltN_asymm {xs ys : List Str} (h : ltN xs ys = true) : ltN ys xs = false := by
  cases e : ltN ys xs with
  | false => rfl
  | true =>
    have := ltN_trans h e
    rw [ltN_irrefl] at this
    cases this
/-- x ≤ y -/
theorem leN_iff {xs ys : List Str} : ltN ys xs = false ↔ xs = ys ∨ ltN xs ys = true := by
  constructor
  · intro h
    by_cases e : xs = ys
    · exact .inl e
    · rcases ltN_total e with h1 | h1
      · exact .inr h1
      · rw [h] at h1; cases h1
  · rintro (rfl | h)
    · exact ltN_irrefl _
    · exact ltN_asymm h
theorem ltN_app : ∀ p xs ys : List Str, ltN (p ++ xs) (p ++ ys) = ltN xs ys
  | [], _, _ => rfl
  | x :: p, xs, ys => by rw [List.cons_append, List.cons_append, ltN_cons, if_pos rfl, ltN_app p]
end
/-! ### sorted lists of names, membership -/
section
variable {X : Cx}
def rMax2 : List V → Hp → VK → Prop := fun xs H Q => ∃ i j, xs = [.int i, .int j] ∧ Q (.int (if j > i then j else i)) H
theorem cMax2 (hc : X.calm = true) : CallR X (.builtin "max") rMax2 := call_max2 hc
end
theorem units65 {k : Nat} {A : Around} (r : Room k A) : A.units + 65 < cLine := by have := r.un; omega
section
variable {K : PySem.W.Frag} {H : Hp} {Q : VK}
theorem r_max2 {i j : Int} (q : Q (.int (if j > i then j else i)) H) : rMax2 [.int i, .int j] H Q := ⟨i, j, rfl, q⟩
theorem all_dT {L : List (List Str)} {d : PyData} (h : d ∈ L.map dT) : ∃ zs ∈ L, d = dT zs := by
  obtain ⟨zs, hz, rfl⟩ := List.mem_map.mp h
  exact ⟨zs, hz, rfl⟩
theorem dp_inv {v : V} {zs : List Str} (h : Dp K H v (dT zs)) : ∃ b, v = .ref b ∧ SqT K H b (zs.map V.str) := by
  unfold dT at h
  have key : ∀ (xs : List V) (zs : List Str), DpAll K H xs (zs.map PyData.str) → xs = zs.map V.str := by
    intro xs zs
    induction zs generalizing xs with
    | nil => intro h; cases h; rfl
    | cons z zs ih =>
      intro h
      cases h with
      | cons h1 h2 =>
        cases h1
        rw [ih _ h2]; rfl
  cases h with
  | tup hs ha => exact ⟨_, rfl, by rw [← key _ _ ha]; exact hs⟩
theorem TupsAt.of {out : List V} {L : List (List Str)} (h : DpAll K H out (L.map dT)) : TupsAt K H out L := by
  refine ⟨by have := dpAll_len h; simpa using this, fun i zs hi => ?_⟩
  obtain ⟨v, hv, hd⟩ := dpAll_get h (i := i) (d := dT zs) (by rw [List.getElem?_map, hi]; rfl)
  obtain ⟨b, rfl, hb⟩ := dp_inv hd
  exact ⟨b, hv, hb⟩
def leN (xs ys : List Str) : Bool := !ltN ys xs
theorem leN_trans {a b c : List Str} (h1 : leN a b = true) (h2 : leN b c = true) : leN a c = true := by
  unfold leN at *
  simp only [Bool.not_eq_true'] at *
  rcases leN_iff.mp h1 with rfl | h1
  · exact h2
  · rcases leN_iff.mp h2 with rfl | h2
    · exact ltN_asymm h1
    · exact ltN_asymm (ltN_trans h1 h2)
theorem leN_total (a b : List Str) : (leN a b || leN b a) = true := by
  unfold leN
  cases h : ltN b a with
  | false => rfl
  | true => rw [ltN_asymm h]; rfl
def sortN (L : List (List Str)) : List (List Str) := L.mergeSort leN
theorem sortN_perm (L : List (List Str)) : (sortN L).Perm L := List.mergeSort_perm L leN
theorem sortN_sorted (L : List (List Str)) : (sortN L).Pairwise fun a b => leN a b = true := List.pairwise_mergeSort (le := leN) (fun _ _ _ h1 h2 => leN_trans h1 h2) (fun a b => leN_total a b) L
/-- sorted(names) -/
theorem r_sortN {a : Addr} {xs : List V} {L : List (List Str)} (hs : SqL K H a xs) (hx : TupsAt K H xs L)
    (q : ∀ (ys : List V) (p : Addr) H2, TupsAt K H2 ys (sortN L) → H p = none → Same H H2 → H2 p = some (.lst ys) → Q (.ref p) H2) : rSortD K [.ref a] H Q := by
  refine r_sortD hs hx.all (fun d hd d' hd' => ?_) (.inl fun d hd => ?_) (fun d hd => ?_) fun ys p H2 h1 hp e h2 => q ys p H2 ?_ hp e h2
  · obtain ⟨x, _, rfl⟩ := all_dT hd
    obtain ⟨y, _, rfl⟩ := all_dT hd'
    exact alike_dT x y
  · obtain ⟨x, _, rfl⟩ := all_dT hd
    exact ⟨_, rfl⟩
  · obtain ⟨x, _, rfl⟩ := all_dT hd
    have := depth_tup x
    unfold dT
    omega
  · refine TupsAt.ex (TupsAt.of ?_) e
    unfold sortN
    have e : (L.mergeSort leN).map dT = (L.map dT).mergeSort (dataLe false id) := sort_maps dT fun a _ b _ => rfl
    rw [e]
    exact h1
theorem any_dT (L : List (List Str)) (zs : List Str) : ((L.map dT).any fun z => PyData.eqv z (dT zs)) = decide (zs ∈ L) := by
  induction L with
  | nil => simp
  | cons y L ih =>
    rw [List.map_cons, List.any_cons, ih]
    unfold dT
    rw [eqv_strs]
    by_cases h : y = zs
    · subst h; simp
    · simp [h]
      intro e
      exact absurd e.symm h
theorem shaped_dT {zs : List Str} (h : ∀ z ∈ zs, Asc z) : SeqAt.shaped (dT zs) = true := shaped_strs h
theorem shaped_dTs {L : List (List Str)} (h : ∀ zs ∈ L, ∀ z ∈ zs, Asc z) : SeqAt.shaped (.list (L.map dT)) = true := by
  unfold SeqAt.shaped
  rw [Bool.and_eq_true]
  refine ⟨?_, decide_eq_true ?_⟩
  · simp only [PyData.canLay0]
    induction L with
    | nil => simp [PyData.canLayAll0]
    | cons y L ih =>
      have h1 : (dT y).canLay0 = true := by
        have := shaped_dT (h y List.mem_cons_self)
        unfold SeqAt.shaped at this
        rw [Bool.and_eq_true] at this
        exact this.1
      rw [List.map_cons]
      simp only [PyData.canLayAll0, h1, ih fun zs hz => h zs (List.mem_cons_of_mem _ hz), Bool.and_self]
  · have := depth_tupsAll L
    simp only [PyData.depth]
    omega
theorem r_notInTS {a b : Addr} {out : List V} {L : List (List Str)} {zs : List Str} (hx : SqT K H b (zs.map V.str)) (hs : SqL K H a out) (hL : TupsAt K H out L) (o1 : ∀ z ∈ zs, Asc z) (o2 : ∀ zs ∈ L, ∀ z ∈ zs, Asc z) (q : Q (.bl (!decide (zs ∈ L))) H) : rNotInD K (.ref b) (.ref a) H Q :=
  ⟨dT zs, L.map dT, dp_tup hx, .lst hs hL.all, shaped_dT o1, shaped_dTs o2, by rw [any_dT]; exact q⟩
theorem r_inTS {a b : Addr} {out : List V} {L : List (List Str)} {zs : List Str} (hx : SqT K H b (zs.map V.str)) (hs : SqL K H a out) (hL : TupsAt K H out L) (o1 : ∀ z ∈ zs, Asc z) (o2 : ∀ zs ∈ L, ∀ z ∈ zs, Asc z) (q : Q (.bl (decide (zs ∈ L))) H) : rInD K (.ref b) (.ref a) H Q :=
  ⟨dT zs, L.map dT, dp_tup hx, .lst hs hL.all, shaped_dT o1, shaped_dTs o2, by rw [any_dT]; exact q⟩
end
end My

set_option Elab.async false
set_option linter.all false
set_option maxRecDepth 100000
set_option maxHeartbeats 4000000
namespace My
open PySem PySem.Spec PyProof.Rows L2
open C8 (tCut pss_cut)
/-! ### methods by their classes -/
def DefM (K : PySem.W.Frag) (C : Addr) (m q : Str) (ps : List Str) (st : Stmt) : Prop := ∃ f fd, Meth K C m f ∧ Fun K m q st f fd ∧ Binds K fd ps []
def DefI (K : PySem.W.Frag) (C : Addr) (q : Str) (ps : List Str) (st : Stmt) : Prop := ∃ f fd, Mk K C f ∧ Fun K "__init__" q st f fd ∧ Binds K fd ps []
def DefP (K : PySem.W.Frag) (C : Addr) (m q : Str) (st : Stmt) : Prop := ∃ p f fd, PropOf K C m p f ∧ Fun K m q st f fd ∧ Binds K fd ["self"] []
def FnM (P : Program) (w : World) (K : PySem.W.Frag) (mg : Str → Option Value) (base : Heap) (CX : CXT) (k : Nat) (C : Addr) (m : Str) (ps : List Str) (sp : Sp) : Prop :=
  ∃ f fd, Meth K C m f ∧ Binds K fd ps [] ∧ FnOk P w K mg base CX k f fd ps sp
def FnI (P : Program) (w : World) (K : PySem.W.Frag) (mg : Str → Option Value) (base : Heap) (CX : CXT) (k : Nat) (C : Addr) (ps : List Str) (sp : Sp) : Prop :=
  ∃ f fd, Mk K C f ∧ Binds K fd ps [] ∧ FnOk P w K mg base CX k f fd ps sp
def FnP (P : Program) (w : World) (K : PySem.W.Frag) (mg : Str → Option Value) (base : Heap) (k : Nat) (C : Addr) (m : Str) (sp : Sp) : Prop :=
  ∃ p f fd, PropOf K C m p f ∧ Binds K fd ["self"] [] ∧ FnOk P w K mg base CX0 k f fd ["self"] sp
section
variable {P : Program} {w : World} {K : PySem.W.Frag} {mg : Str → Option Value} {base : Heap}
theorem defm_mk {C : Addr} {m q : Str} {ps : List Str} {st : Stmt} {f : Addr} {oc : Value} {od an : Option Addr} {osl : Array (Option Value)} {kV doc pm cdv ct : Value}
    (hb : ∀ (kV doc pm : Value) (an : Option Addr) (cdv ct : Value) (us : List Value), us.length = ps.length → bindArgs (PySem.W.fnOf m q (defArgs st) (defBody st) (defScope st) .none kV doc pm an cdv ct) ⟨us, []⟩ = pure (ps.zip us))
    (a : PySem.W.findIn K (.ref C) m = some (some (.ref f))) (i : PySem.W.isFn K (.ref f) = true) (l : K.lookup f = some ⟨oc, od, .func (PySem.W.fnOf m q (defArgs st) (defBody st) (defScope st) .none kV doc pm an cdv ct), osl⟩)
    (c : PySem.W.codeIn K cdv q = true) (k : PySem.W.keepIn K (.ref f) = true) : DefM K C m q ps st :=
  have F := fun_mk (st := st) l c k
  ⟨f, _, ⟨a, i, k⟩, F, F.binds hb⟩
theorem defi_mk {C : Addr} {q : Str} {ps : List Str} {st : Stmt} {f : Addr} {oc : Value} {od an : Option Addr} {osl : Array (Option Value)} {kV doc pm cdv ct : Value}
    (hb : ∀ (kV doc pm : Value) (an : Option Addr) (cdv ct : Value) (us : List Value), us.length = ps.length → bindArgs (PySem.W.fnOf "__init__" q (defArgs st) (defBody st) (defScope st) .none kV doc pm an cdv ct) ⟨us, []⟩ = pure (ps.zip us))
    (a : PySem.W.findIn K (.ref C) "__init__" = some (some (.ref f))) (i : PySem.W.isFn K (.ref f) = true) (l : K.lookup f = some ⟨oc, od, .func (PySem.W.fnOf "__init__" q (defArgs st) (defBody st) (defScope st) .none kV doc pm an cdv ct), osl⟩)
    (c : PySem.W.codeIn K cdv q = true) (k : PySem.W.keepIn K (.ref f) = true) (mk : PySem.W.makesIn K C = true) (kc : PySem.W.keepIn K (.ref C) = true) : DefI K C q ps st :=
  have F := fun_mk (st := st) l c k
  ⟨f, _, ⟨mk, a, i, kc⟩, F, F.binds hb⟩
theorem defp_mk {C p : Addr} {m q : Str} {st : Stmt} {f : Addr} {rest : List Value} {oc : Value} {od an : Option Addr} {osl : Array (Option Value)} {kV doc pm cdv ct : Value}
    (hb : ∀ (kV doc pm : Value) (an : Option Addr) (cdv ct : Value) (us : List Value), us.length = 1 → bindArgs (PySem.W.fnOf m q (defArgs st) (defBody st) (defScope st) .none kV doc pm an cdv ct) ⟨us, []⟩ = pure ((["self"] : List Str).zip us))
    (a : PySem.W.findIn K (.ref C) m = some (some (.ref p))) (g : PySem.W.specialIn K (.ref p) "__get__" = some (some (.builtin "property.__get__"))) (t : PySem.W.takesIn K (.ref p) = some true) (r : PySem.W.recIn K p "property" = some (.ref f :: rest))
    (l : K.lookup f = some ⟨oc, od, .func (PySem.W.fnOf m q (defArgs st) (defBody st) (defScope st) .none kV doc pm an cdv ct), osl⟩)
    (c : PySem.W.codeIn K cdv q = true) (k : PySem.W.keepIn K (.ref f) = true) : DefP K C m q st :=
  have F := fun_mk (st := st) l c k
  ⟨p, f, _, ⟨a, g, t, rest, r⟩, F, F.binds hb⟩
theorem DefM.ok {C : Addr} {m q : Str} {ps N : List Str} {st : Stmt} {k : Nat} {sp : Sp} (d : DefM K C m q ps st) (S : FnScope N ps (defScope st)) (len : ∀ vs H Q E, sp vs H Q E → vs.length = ps.length)
    (hbody : ∀ (f : Addr) (cdv : Value) (A : Around) (outer : List Env) (s : Shared) (H : Hp) (vs : List V) (Q : VK) (E : XK), Room k (A.deeper (envOfC q (defScope st) s.heap.objs.size f cdv)) → sp vs H Q E →
      ∃ t, PSs (cxOf CX0 P w K mg base N q (defScope st) f cdv A outer s H E).nox (defBody st) t ∧ t { nx := fun _ H' => Q .non H', rt := Q } (start N vs) H) : FnM P w K mg base CX0 (k + 1) C m ps sp := by
  obtain ⟨f, fd, M, F, b⟩ := d
  exact ⟨f, fd, M, b, F.ok S len (hbody f)⟩
theorem DefM.okX {C : Addr} {m q : Str} {ps N : List Str} {st : Stmt} {k : Nat} {sp : Sp} (d : DefM K C m q ps st) (S : FnScope N ps (defScope st)) (len : ∀ vs H Q E, sp vs H Q E → vs.length = ps.length)
    (hbody : ∀ (f : Addr) (cdv : Value) (A : Around) (outer : List Env) (s : Shared) (H : Hp) (vs : List V) (Q : VK) (E : XK), Room k (A.deeper (envOfC q (defScope st) s.heap.objs.size f cdv)) → sp vs H Q E →
      ∃ t, PSs (cxOf (L2.CX P w) P w K mg base N q (defScope st) f cdv A outer s H E) (defBody st) t ∧ t { nx := fun _ H' => Q .non H', rt := Q } (start N vs) H) : FnM P w K mg base (L2.CX P w) (k + 1) C m ps sp := by
  obtain ⟨f, fd, M, F, b⟩ := d
  exact ⟨f, fd, M, b, F.okX S len (hbody f)⟩
theorem DefI.ok {C : Addr} {q : Str} {ps N : List Str} {st : Stmt} {k : Nat} {sp : Sp} (d : DefI K C q ps st) (S : FnScope N ps (defScope st)) (len : ∀ vs H Q E, sp vs H Q E → vs.length = ps.length)
    (hbody : ∀ (f : Addr) (cdv : Value) (A : Around) (outer : List Env) (s : Shared) (H : Hp) (vs : List V) (Q : VK) (E : XK), Room k (A.deeper (envOfC q (defScope st) s.heap.objs.size f cdv)) → sp vs H Q E →
      ∃ t, PSs (cxOf CX0 P w K mg base N q (defScope st) f cdv A outer s H E).nox (defBody st) t ∧ t { nx := fun _ H' => Q .non H', rt := Q } (start N vs) H) : FnI P w K mg base CX0 (k + 1) C ps sp := by
  obtain ⟨f, fd, M, F, b⟩ := d
  exact ⟨f, fd, M, b, F.ok S len (hbody f)⟩
theorem DefP.ok {C : Addr} {m q : Str} {N : List Str} {st : Stmt} {k : Nat} {sp : Sp} (d : DefP K C m q st) (S : FnScope N ["self"] (defScope st)) (len : ∀ vs H Q E, sp vs H Q E → vs.length = 1)
    (hbody : ∀ (f : Addr) (cdv : Value) (A : Around) (outer : List Env) (s : Shared) (H : Hp) (vs : List V) (Q : VK) (E : XK), Room k (A.deeper (envOfC q (defScope st) s.heap.objs.size f cdv)) → sp vs H Q E →
      ∃ t, PSs (cxOf CX0 P w K mg base N q (defScope st) f cdv A outer s H E).nox (defBody st) t ∧ t { nx := fun _ H' => Q .non H', rt := Q } (start N vs) H) : FnP P w K mg base (k + 1) C m sp := by
  obtain ⟨p, f, fd, M, F, b⟩ := d
  exact ⟨p, f, fd, M, b, F.ok S len (hbody f)⟩
end
/-! ### the rules -/
section
variable {X : Cx} {CX : CXT} {k : Nat} {C : Addr} {x m : Str} {ps : List Str} {sp : Sp} {e o : Expr} {es : List Expr} {to : TE} {t : TA} {p pos apos : Pos}
/-- o.m(e, ..) -/
def tMthd (C : Addr) (m : Str) (sp : Sp) (to : TE) (t : TA) : TE := fun σ H Q => to σ H fun x H1 => ∃ a dx fs, x = .ref a ∧ H1 a = some (.ins C dx fs) ∧ fs.lookup m = none ∧ t σ H1 fun vs H2 => sp (x :: vs) H2 Q E0
theorem pe_mth {pl : Sem Bool} (G : FnM X.prog X.w X.K X.mg X.base CX0 k C m ps sp) (c : Cls X.K C) (hr : Room k X.A) (ho : PE X o to) (ha : PA X (e :: es) t)
    (hst : starEach (e :: es) X.env = (false, eval e X.env) :: starEach es X.env := by rfl) (hpl : (backTo pos (starEach es X.env)).any (·.1) = false := by rfl)
    (ht : eval (.Call (.Attribute o m apos) (e :: es) [] pos) X.env = (do
      let ov ← eval o X.env
      standAt apos.atName
      let (f, first) ← holding [ov] (getMethod ov m pl)
      callWith pos f first (backTo pos (starEach (e :: es) X.env)) (backToKw pos (keywordEach [] X.env))) := by rfl) : PE X (.Call (.Attribute o m apos) (e :: es) [] pos) (tMthd C m sp to t) := by
  obtain ⟨f, fd, hm, hb, F⟩ := G
  have h := pe_meth ho c hm F hr hb .nil (E := E0) pass0 ha hst hpl ht
  refine ⟨fun pins s σ H Q I q => h.run pins s σ H Q I ?_⟩
  unfold tMeth
  simp only [List.append_nil]
  exact q
theorem pe_mth0 {pl : Sem Bool} (G : FnM X.prog X.w X.K X.mg X.base CX0 k C m ps sp) (c : Cls X.K C) (hr : Room k X.A) (ho : PE X o to)
    (ht : eval (.Call (.Attribute o m apos) [] [] pos) X.env = (do
      let ov ← eval o X.env
      standAt apos.atName
      let (f, first) ← holding [ov] (getMethod ov m pl)
      callWith pos f first (backTo pos (starEach [] X.env)) (backToKw pos (keywordEach [] X.env))) := by rfl) : PE X (.Call (.Attribute o m apos) [] [] pos) (tMthd C m sp to tNil) := by
  obtain ⟨f, fd, hm, hb, F⟩ := G
  have h := pe_meth0 ho c hm F hr hb .nil (E := E0) pass0 ht
  refine ⟨fun pins s σ H Q I q => h.run pins s σ H Q I ?_⟩
  unfold tMeth
  simp only [List.append_nil]
  exact q
/-- C(e, ..) -/
def MadeR (C : Addr) (sp : Sp) (vs : List V) (H1 : Hp) (Q : VK) : Prop := ∀ x dx, H1 x = none → H1 dx = none → dx ≠ x → sp (.ref x :: vs) (upd (upd H1 dx (.own x)) x (.ins C dx [])) (fun v H2 => v = .non ∧ Q (.ref x) H2) E0
def tMkC (C : Addr) (sp : Sp) (t : TA) : TE := fun σ H Q => t σ H fun vs H1 => MadeR C sp vs H1 Q
theorem pe_mk (G : FnI X.prog X.w X.K X.mg X.base CX0 k C ps sp) (hr : Room (k + 1) X.A) (hg : Gl X x) (hm : X.mg x = some (.ref C)) (ha : PA X (e :: es) t) (hdb : (x == ("__debug__" : Str)) = false := by decide)
    (he : starEach (e :: es) X.env = (false, eval e X.env) :: starEach es X.env := by rfl) (hpl : (backTo pos (starEach es X.env)).any (·.1) = false := by rfl) : PE X (.Call (.Name x p) (e :: es) [] pos) (tMkC C sp t) := by
  obtain ⟨f, fd, M, hb, F⟩ := G
  have h := pe_make (p := p) M F hr hg hm hb .nil (E := E0) pass0 ha hdb he hpl
  refine ⟨fun pins s σ H Q I q => h.run pins s σ H Q I ?_⟩
  unfold tMake
  simp only [List.append_nil]
  exact q
theorem pe_mk0 (G : FnI X.prog X.w X.K X.mg X.base CX0 k C ps sp) (hr : Room (k + 1) X.A) (hg : Gl X x) (hm : X.mg x = some (.ref C)) (hdb : (x == ("__debug__" : Str)) = false := by decide) : PE X (.Call (.Name x p) [] [] pos) (tMkC C sp tNil) := by
  obtain ⟨f, fd, M, hb, F⟩ := G
  have h := pe_make0 (p := p) (pos := pos) M F hr hg hm hb .nil (E := E0) pass0 hdb
  refine ⟨fun pins s σ H Q I q => h.run pins s σ H Q I ?_⟩
  unfold tMake
  simp only [List.append_nil]
  exact q
/-- o.m, a property -/
def tPrp (C : Addr) (sp : Sp) (to : TE) : TE := fun σ H Q => to σ H fun x H1 => ∃ a dx fs, x = .ref a ∧ H1 a = some (.ins C dx fs) ∧ sp [.ref a] H1 Q E0
theorem pe_prp (G : FnP X.prog X.w X.K X.mg X.base k C m sp) (c : Cls X.K C) (hr : Room (k + 1) X.A) (ho : PE X o to) (hab : attributeBase o m X.env (eval o X.env) = eval o X.env := by rfl) : PE X (.Attribute o m pos) (tPrp C sp to) := by
  obtain ⟨p, f, fd, hm, hb, F⟩ := G
  have h := pe_prop (pos := pos) ho c hm F hr hb .nil (E := E0) pass0 hab
  refine ⟨fun pins s σ H Q I q => h.run pins s σ H Q I ?_⟩
  unfold tProp
  exact q
/-- len(o), o with its own __len__ -/
def rLenO (C : Addr) (sp : Sp) : List V → Hp → VK → Prop := fun xs H Q => ∃ (a dx : Addr) (fs : List (Str × V)), xs = [.ref a] ∧ H a = some (.ins C dx fs) ∧ sp [.ref a] H (fun v H2 => ∃ n : Nat, v = .int (n : Int) ∧ n ≤ 100000 ∧ Q (.int (n : Int)) H2) E0
theorem call_lenO (G : FnM X.prog X.w X.K X.mg X.base CX0 k C "__len__" ["self"] sp) (hr : Room (k + 1) X.A) : CallR X (.builtin "len") (rLenO C sp) := by
  intro pins s σ H xs us Q I r h
  obtain ⟨f, fd, hm, hb, F⟩ := G
  obtain ⟨a, dx, fs, rfl, ha, q⟩ := h
  obtain ⟨u, rfl, ru⟩ := vals1 r
  obtain rfl : u = Value.ref a := ru
  obtain ⟨mA, J, _⟩ := ins_get I.hok ha
  obtain ⟨od, J, _⟩ := J.look
  refine Calls.call_function_entry kind_len plain_len entry_len (args_len1 _) ?_
  unfold Builtin.«len»
  refine wpAny_bind (m := oneArg "len" _) (wpAny_pure ?_)
  refine wpAny_bind (m := callSpecial? (.ref a) (Str.ofString "__len__")) (PySem.W.special_fn (name := "__len__") (args := []) I.kIn J hm.at_ (beq_iff_eq.mp hm.fn) (wpAny_call (codeAny_mono (F.run X.A.in1 X.stack s H ⟨[.ref a], []⟩ [.ref a] [.ref a] _ E0 hr.in1 I.env0.in1 (by
    have := hb s [.ref a] I.kIn rfl
    simpa using this) (.cons rfl .nil) q) fun r s' hq => ?_)))
  cases r with
  | error er => exact hq.elim
  | ok fl =>
    cases fl with
    | ret u =>
      obtain ⟨v, H', I3, rv, n, rfl, hn, q3⟩ := I.after hq
      obtain ⟨t, rfl⟩ := rv
      refine wpAny_bind (wpAny_holding (wpAny_pure ?_))
      refine wpAny_bind (wpAny_letGo ?_)
      show wpAny _ _ (if ((n : Nat) : Int) < 0 then _ else _) _ _ _
      rw [if_neg (by omega)]
      show wpAny _ _ (if ((n : Nat) : Int) ≥ 2 ^ 63 then _ else _) _ _ _
      rw [if_neg (by omega)]
      exact wpAny_bind (wpAny_mkInt (wpAny_pure ⟨_, rfl, .int (n : Int), H', I3.tok _, ⟨_, rfl⟩, q3⟩))
    | next => exact False.elim hq
    | brk => exact False.elim hq
    | cont => exact False.elim hq
end
/-! ### their readings -/
section
variable {σ : L2.St} {H : Hp} {Q : VK} {K : PySem.W.Frag} {C a dx : Addr} {f m : Str} {fs : List (Str × V)} {v y : V} {to tv : TE} {t : TA} {sp : Sp}
def FldR (K : PySem.W.Frag) (f : Str) (x : V) (H1 : Hp) (Q : VK) : Prop := ∃ a C dx fs v, x = .ref a ∧ H1 a = some (.ins C dx fs) ∧ Cls K C ∧ NoAttr K C f ∧ fs.lookup f = some v ∧ Q v H1
theorem r_fld (h : to σ H fun x H1 => FldR K f x H1 Q) : tFld K to f σ H Q := h
theorem r_fld1 (ha : H a = some (.ins C dx fs)) (c : Cls K C) (n : NoAttr K C f) (l : fs.lookup f = some v) (q : Q v H) : FldR K f (.ref a) H Q := ⟨a, C, dx, fs, v, rfl, ha, c, n, l, q⟩
def SetF (K : PySem.W.Frag) (f : Str) (y x : V) (H2 : Hp) (N : Hp → Prop) : Prop := ∃ a C dx fs, x = .ref a ∧ H2 a = some (.ins C dx fs) ∧ Cls K C ∧ NoAttr K C f ∧ fs.length < 1000 ∧ N (upd H2 a (.ins C dx (putF f y fs)))
theorem r_sFld {D : Ends} (h : tv σ H fun y H1 => to σ H1 fun x H2 => SetF K f y x H2 (D.nx σ)) : sFld K to tv f D σ H := h
theorem r_sFld1 {N : Hp → Prop} (ha : H a = some (.ins C dx fs)) (c : Cls K C) (n : NoAttr K C f) (hl : fs.length < 1000) (q : ∀ H2, But a H H2 → H2 a = some (.ins C dx (putF f y fs)) → N H2) : SetF K f y (.ref a) H N :=
  ⟨a, C, dx, fs, rfl, ha, c, n, hl, q _ But.upd upd_same⟩
def AugF (K : PySem.W.Frag) (f : Str) (tv : TE) (rd : V → V → Hp → VK → Prop) (σ : L2.St) (x : V) (H1 : Hp) (N : Hp → Prop) : Prop := ∃ a C dx fs v, x = .ref a ∧ H1 a = some (.ins C dx fs) ∧ Cls K C ∧ NoAttr K C f ∧ fs.lookup f = some v ∧
  tv σ H1 fun y H2 => rd v y H2 fun z H3 => ∃ dx' fs', H3 a = some (.ins C dx' fs') ∧ fs'.length < 1000 ∧ N (upd H3 a (.ins C dx' (putF f z fs')))
theorem r_aFld {D : Ends} {rd : V → V → Hp → VK → Prop} (h : to σ H fun x H1 => AugF K f tv rd σ x H1 (D.nx σ)) : sFldAug K to tv rd f D σ H := h
/-- o.f += n -/
theorem r_aFld1 {N : Hp → Prop} {i j : Int} (ha : H a = some (.ins C dx fs)) (c : Cls K C) (n : NoAttr K C f) (l : fs.lookup f = some (.int i)) (hl : fs.length < 1000) (q : ∀ H2, But a H H2 → H2 a = some (.ins C dx (putF f (.int (i + j)) fs)) → N H2) : AugF K f (tC (.int j)) rAdd σ (.ref a) H N :=
  ⟨a, C, dx, fs, .int i, rfl, ha, c, n, l, i, j, rfl, rfl, dx, fs, ha, hl, q _ But.upd upd_same⟩
def MthR (C : Addr) (m : Str) (x : V) (H1 : Hp) (R : Prop) : Prop := ∃ a dx fs, x = .ref a ∧ H1 a = some (.ins C dx fs) ∧ fs.lookup m = none ∧ R
theorem r_mth (h : to σ H fun x H1 => MthR C m x H1 (t σ H1 fun vs H2 => sp (x :: vs) H2 Q E0)) : tMthd C m sp to t σ H Q := h
theorem r_mth1 {R : Prop} (ha : H a = some (.ins C dx fs)) (l : fs.lookup m = none) (h : R) : MthR C m (.ref a) H R := ⟨a, dx, fs, rfl, ha, l, h⟩
theorem r_mkC (h : t σ H fun vs H1 => MadeR C sp vs H1 Q) : tMkC C sp t σ H Q := h
theorem r_made {vs : List V} (h : ∀ x dx H2, H x = none → Same H H2 → H2 x = some (.ins C dx []) → sp (.ref x :: vs) H2 (fun v H3 => v = .non ∧ Q (.ref x) H3) E0) : MadeR C sp vs H Q := fun x dx nx ndx nex =>
  h x dx _ nx (fun b o e => by rw [upd_ne (ne_of_none e nx), upd_ne (ne_of_none e ndx)]; exact e) upd_same
def PrpR (C : Addr) (sp : Sp) (x : V) (H1 : Hp) (Q : VK) : Prop := ∃ a dx fs, x = .ref a ∧ H1 a = some (.ins C dx fs) ∧ sp [.ref a] H1 Q E0
theorem r_prp (h : to σ H fun x H1 => PrpR C sp x H1 Q) : tPrp C sp to σ H Q := h
theorem r_prp1 (ha : H a = some (.ins C dx fs)) (q : sp [.ref a] H Q E0) : PrpR C sp (.ref a) H Q := ⟨a, dx, fs, rfl, ha, q⟩
theorem r_lenO (ha : H a = some (.ins C dx fs)) (q : sp [.ref a] H (fun v H2 => ∃ n : Nat, v = .int (n : Int) ∧ n ≤ 100000 ∧ Q (.int (n : Int)) H2) E0) : rLenO C sp [.ref a] H Q := ⟨a, dx, fs, rfl, ha, q⟩
theorem putF_nil (f : Str) (v : V) : putF f v [] = [(f, v)] := rfl
theorem putF_same (f : Str) (v u : V) (r : List (Str × V)) : putF f v ((f, u) :: r) = (f, v) :: r := by
  show (if f = f then _ else _) = _
  rw [if_pos rfl]
theorem putF_other {f g : Str} (h : ¬ g = f) (v u : V) (r : List (Str × V)) : putF f v ((g, u) :: r) = (g, u) :: putF f v r := by
  show (if g = f then _ else _) = _
  rw [if_neg h]
theorem look_same (f : Str) (v : V) (r : List (Str × V)) : List.lookup f ((f, v) :: r) = some v := by
  simp [List.lookup]
theorem look_other {f g : Str} (h : ¬ f = g) (v : V) (r : List (Str × V)) : List.lookup f ((g, v) :: r) = List.lookup f r := by
  have hb : (f == g) = false := beq_eq_false_iff_ne.mpr h
  simp only [List.lookup, hb]
end
/-! ### data behind a store -/
section
variable {K : PySem.W.Frag} {H H' : Hp} {l : Addr}
def NoTup (H : Hp) (l : Addr) : Prop := ∀ u, ¬ Rd H l (.tup u)
theorem noTup_l {ys : List V} (h : H l = some (.lst ys)) : NoTup H l := by
  rintro u (h2 | ⟨o, h2⟩)
  · rw [h] at h2; cases h2
  · rw [h] at h2; cases h2
theorem noTup_i {C dx : Addr} {fs : List (Str × V)} (h : H l = some (.ins C dx fs)) : NoTup H l := by
  rintro u (h2 | ⟨o, h2⟩)
  · rw [h] at h2; cases h2
  · rw [h] at h2; cases h2
theorem but_tN {a : Addr} {xs : List V} (e : But l H H') (n : NoTup H l) (h : SqT K H a xs) : SqT K H' a xs := by
  rcases h with h | h
  · refine .inl (but_rd e ?_ h)
    rintro rfl
    exact n _ h
  · exact .inr h
mutual
theorem dp_but (e : But l H H') (n : NoTup H l) : ∀ (d : PyData) (v : V), pureD d = true → Dp K H v d → Dp K H' v d
  | .int _, _, _, h => by cases h; exact .int _
  | .str _, _, _, h => by cases h; exact .str _
  | .tuple ds, _, p, h => by
    cases h with
    | tup hs ha => exact .tup (but_tN e n hs) (dpAll_but e n ds _ (by simp [pureD] at p; exact p.2) ha)
  | .none, _, p, _ => by simp [pureD] at p
  | .bool _, _, p, _ => by simp [pureD] at p
  | .list _, _, p, _ => by simp [pureD] at p
  | .dict _, _, p, _ => by simp [pureD] at p
theorem dpAll_but (e : But l H H') (n : NoTup H l) : ∀ (ds : List PyData) (vs : List V), pureAll ds = true → DpAll K H vs ds → DpAll K H' vs ds
  | [], _, _, h => by cases h; exact .nil
  | d :: ds, _, p, h => by
    have p' : pureD d = true ∧ pureAll ds = true := by simpa [pureAll] using p
    cases h with
    | cons h1 h2 => exact .cons (dp_but e n d _ p'.1 h1) (dpAll_but e n ds _ p'.2 h2)
end
mutual
theorem dp_ex (e : Same H H') : ∀ (d : PyData) (v : V), Dp K H v d → Dp K H' v d
  | .int _, _, h => by cases h; exact .int _
  | .str _, _, h => by cases h; exact .str _
  | .tuple ds, _, h => by
    cases h with
    | tup hs ha => exact .tup (ex_t e hs) (dpAll_ex e ds _ ha)
  | .none, _, h => by cases h; exact .non
  | .bool _, _, h => by cases h; exact .bl _
  | .list ds, _, h => by
    cases h with
    | lst hs ha => exact .lst (ex_l e hs) (dpAll_ex e ds _ ha)
  | .dict _, _, h => by cases h
theorem dpAll_ex (e : Same H H') : ∀ (ds : List PyData) (vs : List V), DpAll K H vs ds → DpAll K H' vs ds
  | [], _, h => by cases h; exact .nil
  | d :: ds, _, h => by
    cases h with
    | cons h1 h2 => exact .cons (dp_ex e d _ h1) (dpAll_ex e ds _ h2)
end
end
/-! ### a test's outcome, told by a word -/
section
variable {X : Cx}
def tCutT (t : TT) : TT := fun σ H Q => ∃ Mid : Bool → Hp → Prop, t σ H Mid ∧ ∀ c H', Mid c H' → Q c H'
theorem pt_cut {e : Expr} {t : TT} (h : PT X e t) : PT X e (tCutT t) := by
  refine ⟨fun pins s σ H Q I q => ?_⟩
  obtain ⟨Mid, hm, hk⟩ := q
  refine thn (h.run pins s σ H Mid I hm) fun c s1 q1 => ?_
  obtain ⟨H', I', m⟩ := q1
  exact ⟨H', I', hk _ _ m⟩
theorem r_cutT {t : TT} {σ : L2.St} {H : Hp} {Q : Bool → Hp → Prop} (Mid : Bool → Hp → Prop) (h : t σ H Mid) (k : ∀ c H', Mid c H' → Q c H') : tCutT t σ H Q := ⟨Mid, h, k⟩
end
end My

set_option Elab.async false
set_option linter.all false
set_option maxRecDepth 100000
set_option maxHeartbeats 4000000
namespace My
open PySem PySem.Spec PyProof.Rows L2 PySem.W
open C8 (tCut pss_cut)
/-! ### defs with parameters by keyword alone -/
def DefK (K : PySem.W.Frag) (mg : Str → Option Value) (x : Str) (n : Nat) (ks ps : List Str) (st : Stmt) : Prop := ∃ f fd, mg x = some (.ref f) ∧ Fun K x x st f fd ∧ KBn K fd ps n ks (fun a b => a ++ b) (fun a b => a ++ b)
def FnK (P : Program) (w : World) (K : PySem.W.Frag) (mg : Str → Option Value) (base : Heap) (k : Nat) (x : Str) (n : Nat) (ks ps : List Str) (sp : Sp) : Prop :=
  ∃ f fd, mg x = some (.ref f) ∧ PySem.W.keepIn K (.ref f) = true ∧ KBn K fd ps n ks (fun a b => a ++ b) (fun a b => a ++ b) ∧ FnOk P w K mg base CX0 k f fd ps sp
section
variable {P : Program} {w : World} {K : PySem.W.Frag} {mg : Str → Option Value} {base : Heap}
theorem vals_app {vs : List V} {us : List Value} {zs : List V} {ws : List Value} (h : Vals vs us) (g : Vals zs ws) : Vals (vs ++ zs) (us ++ ws) := by
  induction vs generalizing us with
  | nil => cases h; exact g
  | cons v vs ih =>
    cases h with
    | cons h1 h2 => exact .cons h1 (ih h2)
theorem defk_mk {h : Heap} {x : Str} {n : Nat} {ks ps : List Str} {st : Stmt} {f : Addr} {oc : Value} {od an : Option Addr} {osl : Array (Option Value)} {kV doc pm cdv ct : Value} (X : K.In h) (G : h.Ns mainGlobals mg)
    (hb : ∀ (kV doc pm : Value) (an : Option Addr) (cdv ct : Value) (us ws : List Value), us.length = n → ws.length = ks.length → bindArgs (PySem.W.fnOf x x (defArgs st) (defBody st) (defScope st) .none kV doc pm an cdv ct) ⟨us, ks.zip ws⟩ = pure (ps.zip (us ++ ws)))
    (a : PySem.W.nsIn K mainGlobals x = some (some (.ref f))) (l : K.lookup f = some ⟨oc, od, .func (PySem.W.fnOf x x (defArgs st) (defBody st) (defScope st) .none kV doc pm an cdv ct), osl⟩)
    (c : PySem.W.codeIn K cdv x = true) (k : PySem.W.keepIn K (.ref f) = true) : DefK K mg x n ks ps st :=
  ⟨f, _, PySem.W.mg_of X G a, fun_mk (st := st) l c k, ⟨fun s us ws _ h1 h2 => .of_eq (hb _ _ _ _ _ _ us ws h1 h2), fun h g => vals_app h g⟩⟩
theorem DefK.ok {x : Str} {n : Nat} {ks ps N : List Str} {st : Stmt} {k : Nat} {sp : Sp} (d : DefK K mg x n ks ps st) (S : FnScope N ps (defScope st)) (len : ∀ vs H Q E, sp vs H Q E → vs.length = ps.length)
    (hbody : ∀ (f : Addr) (cdv : Value) (A : Around) (outer : List Env) (s : Shared) (H : Hp) (vs : List V) (Q : VK) (E : XK), Room k (A.deeper (envOfC x (defScope st) s.heap.objs.size f cdv)) → sp vs H Q E →
      ∃ t, PSs (cxOf CX0 P w K mg base N x (defScope st) f cdv A outer s H E).nox (defBody st) t ∧ t { nx := fun _ H' => Q .non H', rt := Q } (start N vs) H) : FnK P w K mg base (k + 1) x n ks ps sp := by
  obtain ⟨f, fd, hm, F, b⟩ := d
  exact ⟨f, fd, hm, F.kp, b, F.ok S len (hbody f)⟩
end
section
variable {X : Cx} {k n : Nat} {x : Str} {ks ps : List Str} {sp : Sp} {e : Expr} {es : List Expr} {kws : List Keyword} {t tk : TA} {p pos : Pos}
def KwR (n m : Nat) (sp : Sp) (vs zs : List V) (H2 : Hp) (Q : VK) : Prop := vs.length = n ∧ zs.length = m ∧ sp (vs ++ zs) H2 Q E0
def tFnK (n m : Nat) (sp : Sp) (t tk : TA) : TE := fun σ H Q => t σ H fun vs H1 => tk σ H1 fun zs H2 => KwR n m sp vs zs H2 Q
theorem pe_fnK (G : FnK X.prog X.w X.K X.mg X.base k x n ks ps sp) (hr : Room k X.A) (hg : Gl X x) (ha : PA X (e :: es) t) (hkw : PK X kws tk) (hall : (backToKw pos (keywordEach kws X.env)).all (·.1.isSome) = true := by rfl) (hks : (backToKw pos (keywordEach kws X.env)).filterMap (·.1) = ks := by rfl)
    (hdb : (x == ("__debug__" : Str)) = false := by decide) (he : starEach (e :: es) X.env = (false, eval e X.env) :: starEach es X.env := by rfl)
    (hpl : ((backTo pos (starEach (e :: es) X.env)).any (·.1) || (backToKw pos (keywordEach kws X.env)).any (·.1.isNone)) = false := by rfl) : PE X (.Call (.Name x p) (e :: es) kws pos) (tFnK n ks.length sp t tk) := by
  obtain ⟨f, fd, hm, hk, hb, F⟩ := G
  exact pe_callN (p := p) (E := E0) F hr hg hm hk hb pass0 ha hkw hall hks hdb he hpl
theorem r_fnK {m : Nat} {σ : L2.St} {H : Hp} {Q : VK} (h : t σ H fun vs H1 => tk σ H1 fun zs H2 => KwR n m sp vs zs H2 Q) : tFnK n m sp t tk σ H Q := h
theorem r_kw {m : Nat} {vs zs : List V} {H : Hp} {Q : VK} (l1 : vs.length = n) (l2 : zs.length = m) (h : sp (vs ++ zs) H Q E0) : KwR n m sp vs zs H Q := ⟨l1, l2, h⟩
end
/-! ### x in [..], flat items; insert -/
section
variable {K : PySem.W.Frag} {H : Hp} {Q : VK} {X : Cx}
theorem r_inF {p : Addr} {xs : List V} {x : V} (h : SqL K H p xs ∨ SqT K H p xs) (fx : flatV x = true) (fs : xs.all flatV = true) (q : Q (.bl (inV x xs)) H) : L2.rIn K false x (.ref p) H Q := ⟨p, xs, rfl, h, fx, fs, q⟩
theorem r_notInF {p : Addr} {xs : List V} {x : V} (h : SqL K H p xs ∨ SqT K H p xs) (fx : flatV x = true) (fs : xs.all flatV = true) (q : Q (.bl (!inV x xs)) H) : L2.rIn K true x (.ref p) H Q := ⟨p, xs, rfl, h, fx, fs, q⟩
def rIns : V → List V → Hp → VK → Prop := fun x vs H Q => ∃ (l : Addr) (xs : List V) (i : Int) (y : V), x = .ref l ∧ vs = [.int i, y] ∧ H l = some (.lst xs) ∧ xs.length < sizeLine ∧ 0 ≤ i ∧ i < 2 ^ 63 ∧ Q .non (upd H l (.lst (xs.take i.toNat ++ [y] ++ xs.drop i.toNat)))
theorem mt_ins : MtR X "list.insert" rIns := mt_insert
theorem r_isL {l : Addr} {xs : List V} {R : Prop} (h : H l = some (.lst xs)) (h2 : R) : tyV K "list" (.ref l) H ∧ R := ⟨.inl ⟨rfl, _, SqL.of h⟩, h2⟩
theorem r_ins1 {l : Addr} {xs : List V} {i : Int} {y : V} (h : H l = some (.lst xs)) (hz : xs.length < 100000) (h0 : 0 ≤ i) (h1 : i ≤ 1000000) (q : ∀ H2, But l H H2 → H2 l = some (.lst (xs.take i.toNat ++ [y] ++ xs.drop i.toNat)) → Q .non H2) : rIns (.ref l) [.int i, y] H Q :=
  ⟨l, xs, i, y, rfl, rfl, h, Nat.lt_of_lt_of_le hz (by decide), h0, by omega, q _ But.upd upd_same⟩
end
/-! ### values of a kind -/
def nameD (d : PyData) : Prop := ∃ zs, d = dT zs ∧ (∀ z ∈ zs, Asc z) ∧ zs.length ≤ 12
def valK (κ : Str) (d : PyData) : Prop :=
  if κ = "text" then ∃ z, d = .str z ∧ Asc z
  else if κ = "mail" then ∃ (i : Int) (n : PyData), d = .tuple [.int i, n] ∧ nameD n
  else if κ = "alias" ∨ κ = "server" then nameD d
  else if κ = "start" then ∃ i j : Int, d = .tuple [.int i, .int j]
  else if κ = "gap" then ∃ n k : PyData, d = .tuple [n, k] ∧ nameD n ∧ nameD k
  else ∃ i : Int, d = .int i
theorem nameD.pure {d : PyData} (h : nameD d) : pureD d = true ∧ d.depth ≤ 1 := by
  obtain ⟨zs, rfl, h1, h2⟩ := h
  exact ⟨pure_strs (by omega) h1, by have := depth_tup zs; unfold dT; omega⟩
theorem nameD.alike {d e : PyData} (h : nameD d) (g : nameD e) : alike d e = true := by
  obtain ⟨zs, rfl, _, _⟩ := h
  obtain ⟨ys, rfl, _, _⟩ := g
  exact alike_dT zs ys
theorem pure_two {d e : PyData} (h1 : pureD d = true) (h2 : pureD e = true) : pureD (.tuple [d, e]) = true := by
  simp [pureD, pureAll, h1, h2]
theorem depth_two {d e : PyData} {n : Nat} (h1 : d.depth ≤ n) (h2 : e.depth ≤ n) : (PyData.tuple [d, e]).depth ≤ n + 1 := by
  simp only [PyData.depth, PyData.depthAll]
  omega
theorem valK.pure {κ : Str} {d : PyData} (h : valK κ d) : pureD d = true ∧ d.depth ≤ 2 := by
  unfold valK at h
  split at h
  · obtain ⟨z, rfl, hz⟩ := h
    exact ⟨pure_str hz, by simp [PyData.depth]⟩
  split at h
  · obtain ⟨i, n, rfl, hn⟩ := h
    exact ⟨pure_two rfl hn.pure.1, depth_two (by simp [PyData.depth]) hn.pure.2⟩
  split at h
  · exact ⟨h.pure.1, by have := h.pure.2; omega⟩
  split at h
  · obtain ⟨i, j, rfl⟩ := h
    exact ⟨pure_two rfl rfl, depth_two (n := 1) (by simp [PyData.depth]) (by simp [PyData.depth])⟩
  split at h
  · obtain ⟨n, k, rfl, hn, hk⟩ := h
    exact ⟨pure_two hn.pure.1 hk.pure.1, depth_two hn.pure.2 hk.pure.2⟩
  · obtain ⟨i, rfl⟩ := h
    exact ⟨rfl, by simp [PyData.depth]⟩
theorem alike_two {a b c d : PyData} (h1 : alike a c = true) (h2 : alike b d = true) : alike (.tuple [a, b]) (.tuple [c, d]) = true := by
  simp [alike, alikeAll, h1, h2]
theorem alike_int (i j : Int) : alike (.int i) (.int j) = true := by simp [alike]
theorem valK.alike {κ : Str} {d e : PyData} (h : valK κ d) (g : valK κ e) : alike d e = true := by
  unfold valK at h g
  split at h
  · rename_i c
    rw [if_pos c] at g
    obtain ⟨z, rfl, hz⟩ := h
    obtain ⟨y, rfl, hy⟩ := g
    simp [PySem.W.alike]
  rename_i c1
  rw [if_neg c1] at g
  split at h
  · rename_i c
    rw [if_pos c] at g
    obtain ⟨i, n, rfl, hn⟩ := h
    obtain ⟨j, m, rfl, hm⟩ := g
    exact alike_two (alike_int i j) (hn.alike hm)
  rename_i c2
  rw [if_neg c2] at g
  split at h
  · rename_i c
    rw [if_pos c] at g
    exact nameD.alike h g
  rename_i c3
  rw [if_neg c3] at g
  split at h
  · rename_i c
    rw [if_pos c] at g
    obtain ⟨i, j, rfl⟩ := h
    obtain ⟨i', j', rfl⟩ := g
    exact alike_two (alike_int i i') (alike_int j j')
  rename_i c4
  rw [if_neg c4] at g
  split at h
  · rename_i c
    rw [if_pos c] at g
    obtain ⟨n, k, rfl, hn, hk⟩ := h
    obtain ⟨n', k', rfl, hn', hk'⟩ := g
    exact alike_two (hn.alike hn') (hk.alike hk')
  · rename_i c
    rw [if_neg c] at g
    obtain ⟨i, rfl⟩ := h
    obtain ⟨j, rfl⟩ := g
    exact alike_int i j
theorem pure_ne {d : PyData} (h : pureD d = true) : d ≠ .none := by rintro rfl; simp [pureD] at h
section
variable {K : PySem.W.Frag}
/-! ### pure tuples -/
theorem dpAll_app {H : Hp} : ∀ {xs ys : List V} {ds es : List PyData}, DpAll K H xs ds → DpAll K H ys es → DpAll K H (xs ++ ys) (ds ++ es)
  | _, _, _, _, .nil, h => h
  | _, _, _, _, .cons h t, u => .cons h (dpAll_app t u)
theorem dpAll_drop {H : Hp} : ∀ (n : Nat) {xs : List V} {ds : List PyData}, DpAll K H xs ds → DpAll K H (xs.drop n) (ds.drop n)
  | 0, _, _, h => h
  | _ + 1, _, _, .nil => .nil
  | n + 1, _, _, .cons _ t => dpAll_drop n t
theorem dpAll_take {H : Hp} : ∀ (n : Nat) {xs : List V} {ds : List PyData}, DpAll K H xs ds → DpAll K H (xs.take n) (ds.take n)
  | 0, _, _, _ => .nil
  | _ + 1, _, _, .nil => .nil
  | n + 1, _, _, .cons h t => .cons h (dpAll_take n t)
theorem depthAll_iff (n : Nat) : ∀ ds : List PyData, PyData.depthAll ds ≤ n ↔ ∀ d ∈ ds, d.depth ≤ n
  | [] => by simp [PyData.depthAll]
  | d :: ds => by
    have := depthAll_iff n ds
    simp only [PyData.depthAll, List.mem_cons, forall_eq_or_imp, ← this]
    omega
/-- a tuple of pure data -/
def PT (K : PySem.W.Frag) (H : Hp) (a : Addr) (ds : List PyData) : Prop := ∃ vs, SqT K H a vs ∧ DpAll K H vs ds
def GoodT (D L : Nat) (ds : List PyData) : Prop := (∀ d ∈ ds, pureD d = true ∧ d.depth ≤ D) ∧ ds.length ≤ L
theorem PT.dp {H : Hp} {a : Addr} {ds : List PyData} (h : PT K H a ds) : Dp K H (.ref a) (.tuple ds) := by
  obtain ⟨vs, h1, h2⟩ := h
  exact .tup h1 h2
theorem GoodT.pure {D L : Nat} {ds : List PyData} (h : GoodT D L ds) (hL : L ≤ 10000) : pureD (.tuple ds) = true := by
  simp only [pureD, Bool.and_eq_true, decide_eq_true_eq]
  exact ⟨by have := h.2; omega, (pureAll_iff ds).mpr fun d hd => (h.1 d hd).1⟩
theorem GoodT.depth {D L : Nat} {ds : List PyData} (h : GoodT D L ds) : (PyData.tuple ds).depth ≤ D + 1 := by
  have := (depthAll_iff D ds).mpr fun d hd => (h.1 d hd).2
  simp only [PyData.depth]
  omega
theorem GoodT.mono {D L D' L' : Nat} {ds : List PyData} (h : GoodT D L ds) (h1 : D ≤ D') (h2 : L ≤ L') : GoodT D' L' ds := ⟨fun d hd => ⟨(h.1 d hd).1, Nat.le_trans (h.1 d hd).2 h1⟩, Nat.le_trans h.2 h2⟩
theorem GoodT.nil (D L : Nat) : GoodT D L [] := ⟨fun _ h => (by cases h), Nat.zero_le _⟩
theorem GoodT.one {D : Nat} {d : PyData} (h : pureD d = true) (hd : d.depth ≤ D) : GoodT D 1 [d] := ⟨fun x hx => by rw [List.mem_singleton.mp hx]; exact ⟨h, hd⟩, Nat.le_refl _⟩
theorem GoodT.app {D L M : Nat} {ds es : List PyData} (h : GoodT D L ds) (g : GoodT D M es) : GoodT D (L + M) (ds ++ es) := ⟨fun d hd => (List.mem_append.mp hd).elim (h.1 d) (g.1 d), by rw [List.length_append]; have := h.2; have := g.2; omega⟩
theorem GoodT.sub {D L : Nat} {ds es : List PyData} (h : GoodT D L ds) (hs : ∀ e ∈ es, e ∈ ds) (hl : es.length ≤ ds.length) : GoodT D L es := ⟨fun e he => h.1 e (hs e he), Nat.le_trans hl h.2⟩
theorem PT.ex {H H' : Hp} {a : Addr} {ds : List PyData} (h : PT K H a ds) (e : Same H H') : PT K H' a ds := by
  obtain ⟨vs, h1, h2⟩ := h
  exact ⟨vs, ex_t e h1, dpAll_ex e _ _ h2⟩
theorem PT.but {H H' : Hp} {a l : Addr} {ds : List PyData} (h : PT K H a ds) (e : But l H H') (n : NoTup H l) (p : pureAll ds = true) : PT K H' a ds := by
  obtain ⟨vs, h1, h2⟩ := h
  exact ⟨vs, but_tN e n h1, dpAll_but e n _ _ p h2⟩
theorem GoodT.all {D L : Nat} {ds : List PyData} (h : GoodT D L ds) : pureAll ds = true := (pureAll_iff ds).mpr fun d hd => (h.1 d hd).1
def cutD (ds : List PyData) (lo hi : Option Int) : List PyData := (ds.drop (HT.sIx ds.length 0 lo)).take (HT.sIx ds.length ds.length hi - HT.sIx ds.length 0 lo)
theorem cutD_mem {ds : List PyData} {lo hi : Option Int} : (∀ e ∈ cutD ds lo hi, e ∈ ds) ∧ (cutD ds lo hi).length ≤ ds.length := by
  unfold cutD
  refine ⟨fun e he => List.mem_of_mem_drop (List.mem_of_mem_take he), ?_⟩
  rw [List.length_take, List.length_drop]
  omega
theorem GoodT.cut {D L : Nat} {ds : List PyData} (h : GoodT D L ds) (lo hi : Option Int) : GoodT D L (cutD ds lo hi) := h.sub cutD_mem.1 cutD_mem.2
theorem r_slPT {H : Hp} {Q : VK} {a : Addr} {ds : List PyData} {lo hi : Option Int} (h : PT K H a ds) (q : ∀ p H2, Same H H2 → PT K H2 p (cutD ds lo hi) → Q (.ref p) H2) : rSlA K (.ref a) lo hi H Q := by
  obtain ⟨vs, h1, h2⟩ := h
  refine r_slA h1 fun p H2 e hp => q p H2 e ⟨_, hp, ?_⟩
  have e1 := dpAll_len h2
  unfold cutV cutD
  rw [← e1]
  exact dpAll_take _ (dpAll_drop _ (dpAll_ex e _ _ h2))
theorem r_catPT {H : Hp} {Q : VK} {a b : Addr} {ds es : List PyData} (h : PT K H a ds) (g : PT K H b es) (hz : ds.length + es.length ≤ 100000) (q : ∀ p H2, Same H H2 → PT K H2 p (ds ++ es) → Q (.ref p) H2) : rCatA K (.ref a) (.ref b) H Q := by
  obtain ⟨vs, h1, h2⟩ := h
  obtain ⟨us, g1, g2⟩ := g
  have e1 := dpAll_len h2
  have e2 := dpAll_len g2
  exact r_catA h1 g1 (by omega) fun r H2 e hr => q r H2 e ⟨_, hr, dpAll_app (dpAll_ex e _ _ h2) (dpAll_ex e _ _ g2)⟩
def SgsAt (K : PySem.W.Frag) (H : Hp) (l : Addr) (G : List PyData) : Prop := ∃ es, SqL K H l es ∧ DpAll K H es G
theorem SgsAt.ex {H H' : Hp} {l : Addr} {G : List PyData} (h : SgsAt K H l G) (e : Same H H') : SgsAt K H' l G := by
  obtain ⟨es, h1, h2⟩ := h
  exact ⟨es, ex_l e h1, dpAll_ex e _ _ h2⟩
theorem ints_mem {xs : List Int} {i : Nat} {v : V} (h : (xs.map V.int)[i]? = some v) : ∃ z : Int, v = .int z := by
  obtain ⟨z, _, rfl⟩ := List.mem_map.mp (List.mem_of_getElem? h)
  exact ⟨z, rfl⟩
theorem dpAll_mem {H : Hp} {xs : List V} {ds : List PyData} {i : Nat} {v : V} (h : DpAll K H xs ds) (hi : xs[i]? = some v) : ∃ d, ds[i]? = some d ∧ Dp K H v d := by
  have hl := dpAll_len h
  have hlt : i < ds.length := by rw [← hl]; exact (List.getElem?_eq_some_iff.mp hi).1
  have hz := List.getElem?_eq_getElem hlt
  obtain ⟨u, hu, hd⟩ := dpAll_get h hz
  rw [hi] at hu
  cases hu
  exact ⟨_, hz, hd⟩
theorem dp_pt {H : Hp} {v : V} {ds : List PyData} (h : Dp K H v (.tuple ds)) : ∃ a, v = .ref a ∧ PT K H a ds := by
  cases h with
  | tup hs ha => exact ⟨_, rfl, _, hs, ha⟩
theorem shaped_listP {ES : List PyData} (h : ∀ e ∈ ES, pureD e = true ∧ e.depth ≤ 30) : SeqAt.shaped (.list ES) = true := by
  unfold SeqAt.shaped
  rw [Bool.and_eq_true]
  refine ⟨?_, decide_eq_true ?_⟩
  · simp only [PyData.canLay0]
    exact canLay_pureAll ES ((pureAll_iff ES).mpr fun e he => (h e he).1)
  · have := (depthAll_iff 30 ES).mpr fun e he => (h e he).2
    simp only [PyData.depth]
    omega
def C94 : Str := (" !\"#$&'()*+,-./0123456789:;<=>?@ABCDEFGHIJKLMNOPQRSTUVWXYZ[\\]^_`" : Str) ++ ("abcdefghijklmnopqrstuvwxyz{|}~" : Str)
theorem C94_len : C94.cps.toList.length = 94 := by decide +kernel
theorem C94_len2 : C94.length ≤ 100000 := by decide +kernel
theorem C94_asc : Asc C94 := by decide +kernel

theorem r_notInP {H : Hp} {Q : VK} {p : Addr} {v : V} {d : PyData} {es : List V} {ES : List PyData} (hv : Dp K H v d) (hl : SqL K H p es) (hd : DpAll K H es ES) (pd : pureD d = true) (dd : d.depth ≤ 30) (pe : ∀ e ∈ ES, pureD e = true ∧ e.depth ≤ 30)
    (q : Q (.bl (!ES.any fun z => PyData.eqv z d)) H) : rNotInD K v (.ref p) H Q := ⟨d, ES, hv, .lst hl hd, shaped_pure pd (by omega), shaped_listP pe, q⟩
theorem r_ltP {H : Hp} {Q : VK} {v u : V} {d e : PyData} (hv : Dp K H v d) (hu : Dp K H u e) (a : alike d e = true) (pd : pureD d = true) (dd : d.depth ≤ 30) (q : Q (.bl (dataLt d e)) H) : rLtD K v u H Q := ⟨d, e, hv, hu, a, pure_ne pd, by omega, q⟩
theorem r_leP {H : Hp} {Q : VK} {v u : V} {d e : PyData} (hv : Dp K H v d) (hu : Dp K H u e) (a : alike d e = true) (pd : pureD d = true) (dd : d.depth ≤ 30) (q : Q (.bl (!dataLt e d)) H) : rLeD K v u H Q := ⟨d, e, hv, hu, a, pure_ne pd, by omega, q⟩
theorem r_eqP {H : Hp} {Q : VK} {v u : V} {d e : PyData} (hv : Dp K H v d) (hu : Dp K H u e) (pd : pureD d = true) (pe : pureD e = true) (dd : d.depth ≤ 30) (de : e.depth ≤ 30) (q : Q (.bl (PyData.eqv d e)) H) : rEqD K v u H Q := r_eqD hv hu (shaped_pure pd (by omega)) (shaped_pure pe (by omega)) q
theorem nat_of {d : Int} {n : Int} (h0 : 0 ≤ d) (h1 : d < n) : ∃ b : Nat, d = (b : Int) ∧ (b : Int) < n := ⟨d.toNat, by omega, by omega⟩
end
end My

set_option Elab.async false
set_option linter.all false
set_option maxRecDepth 100000
set_option maxHeartbeats 4000000
namespace My
open PySem PySem.Spec PyProof.Rows L2
open C8 (tCut pss_cut)
/-! ### constant tuples of the module -/
def KT (K : PySem.W.Frag) (a : Addr) (xs : List V) : Prop := ∃ (o : Obj) (its : Array Value) (n : Nat), K.lookup a = some o ∧ o.cls = .type "tuple" ∧ o.data = .seq its n ∧ its.size ≤ sizeLine ∧ Vals xs its.toList
theorem KT.sq {K : PySem.W.Frag} {a : Addr} {xs : List V} (h : KT K a xs) (H : Hp) : SqT K H a xs := .inr h
def KTy (K : PySem.W.Frag) (a : Addr) : Prop := ∃ o, K.lookup a = some o ∧ o.cls = .type "tuple" ∧ o.dict = none
def GK (K : PySem.W.Frag) (mg : Str → Option Value) (x : Str) (xs : List V) : Prop := ∃ a, mg x = some (.ref a) ∧ KT K a xs ∧ KTy K a
theorem gk_mk {K : PySem.W.Frag} {mg : Str → Option Value} {x : Str} {xs : List V} {a : Addr} {o : Obj} {its : Array Value} {n : Nat} {h : Heap} (X : K.In h) (G : h.Ns mainGlobals mg) (z : PySem.W.nsIn K mainGlobals x = some (some (.ref a)))
    (l : K.lookup a = some o) (hc : o.cls = .type "tuple") (hd : o.data = .seq its n) (hz : its.size ≤ sizeLine) (hv : Vals xs its.toList) (hn : o.dict = none) : GK K mg x xs := ⟨a, PySem.W.mg_of X G z, ⟨o, its, n, l, hc, hd, hz, hv⟩, o, l, hc, hn⟩
def tKt (K : PySem.W.Frag) (xs : List V) : TE := fun σ H Q => ∀ a, KT K a xs → KTy K a → Q (.ref a) H
section
variable {X : Cx}
theorem pe_gk {x : Str} {xs : List V} {pos : Pos} (h : GK X.K X.mg x xs) (hg : Gl X x) (hd : (x == ("__debug__" : Str)) = false := by decide) : PE X (.Name x pos) (tKt X.K xs) := by
  obtain ⟨a, hm, k, ky⟩ := h
  have p : PE X (.Name x pos) (tC (.ref a)) := pe_glob hg hm rfl hd
  exact ⟨fun pins s σ H Q I q => p.run pins s σ H Q I (q a k ky)⟩
theorem r_kt {K : PySem.W.Frag} {xs : List V} {σ : L2.St} {H : Hp} {Q : VK} (q : ∀ a, SqT K H a xs → KTy K a → Q (.ref a) H) : tKt K xs σ H Q := fun a h hy => q a (h.sq H) hy
theorem r_isTy {K : PySem.W.Frag} {a : Addr} {H : Hp} {R : Prop} (h : KTy K a) (h2 : R) : tyV K "tuple" (.ref a) H ∧ R := ⟨.inr (.inl ⟨rfl, h⟩), h2⟩
/-! ### bits, powers, abs, sum -/
def rShr : R2 := fun x y H Q => ∃ (i : Int) (k : Nat), x = .int i ∧ y = .int (k : Int) ∧ Q (.int (i / 2 ^ k)) H
theorem oShr : OpR X (binaryOp .RShift) rShr := op_shrN
theorem r_shr {i : Int} {k : Nat} {H : Hp} {Q : VK} (q : Q (.int (i / 2 ^ k)) H) : rShr (.int i) (.int (k : Int)) H Q := ⟨i, k, rfl, rfl, q⟩
def rAndB : R2 := fun x y H Q => ∃ i : Int, x = .int i ∧ y = .int 255 ∧ Q (.int (i % 256)) H
theorem oAndB : OpR X (binaryOp .BitAnd) rAndB := by
  intro pins s σ H x y v u Q I rx ry h
  obtain ⟨i, rfl, rfl, q⟩ := h
  exact op_andM pins s σ H _ _ v u Q I rx ry ⟨i, 8, rfl, rfl, q⟩
theorem r_andB {i : Int} {H : Hp} {Q : VK} (q : Q (.int (i % 256)) H) : rAndB (.int i) (.int 255) H Q := ⟨i, rfl, rfl, q⟩
def rShl1 : R2 := fun x y H Q => ∃ k : Nat, x = .int 1 ∧ y = .int (k : Int) ∧ k ≤ 134217727 ∧ Q (.int (2 ^ k)) H
theorem oShl1 : OpR X (binaryOp .LShift) rShl1 := op_oneShl
theorem r_shl1 {k : Nat} {H : Hp} {Q : VK} (hk : k ≤ 1000) (q : Q (.int (2 ^ k)) H) : rShl1 (.int 1) (.int (k : Int)) H Q := ⟨k, rfl, rfl, by omega, q⟩
def rPow (i : Int) (k : Nat) : R2 := fun x y H Q => x = .int i ∧ y = .int (k : Int) ∧ Q (.int (i ^ k)) H
theorem oPow18 : OpR X (binaryOp .Pow) (rPow 10 18) := by
  intro pins s σ H x y v u Q I rx ry h
  obtain ⟨rfl, rfl, q⟩ := h
  exact op_pow pins s σ H _ _ v u Q I rx ry ⟨10, 18, rfl, rfl, ⟨by decide, by decide, by decide⟩, q⟩
theorem r_pow {i : Int} {k : Nat} {H : Hp} {Q : VK} (q : Q (.int (i ^ k)) H) : rPow i k (.int i) (.int (k : Int)) H Q := ⟨rfl, rfl, q⟩
theorem r_pow18 {H : Hp} {Q : VK} (q : Q (.int 1000000000000000000) H) : rPow 10 18 (.int 10) (.int 18) H Q := ⟨rfl, rfl, q⟩
def rAbs : List V → Hp → VK → Prop := fun xs H Q => ∃ i, xs = [.int i] ∧ Q (.int (if i < 0 then -i else i)) H
theorem cr_abs : CallR X (.builtin "abs") rAbs := call_abs
theorem r_abs {i : Int} {H : Hp} {Q : VK} (q : Q (.int (i.natAbs : Int)) H) : rAbs [.int i] H Q := by
  refine ⟨i, rfl, ?_⟩
  have e : (if i < 0 then -i else i) = (i.natAbs : Int) := by split <;> omega
  rw [e]
  exact q
theorem r_sum {K : PySem.W.Frag} {a : Addr} {ns : List Int} {H : Hp} {Q : VK} (h : SqL K H a (ns.map V.int)) (q : Q (.int ns.sum) H) : rSum K [.ref a] H Q := ⟨a, ns, rfl, h, q⟩
/-! ### t.index(x), xs.extend(ys) -/
def rTupIdx (K : PySem.W.Frag) : V → List V → Hp → VK → Prop := fun x xs H Q => ∃ p, ∃ ys : List Str, ∃ z j, x = .ref p ∧ xs = [.str z] ∧ SqT K H p (ys.map V.str) ∧ ys[j]? = some z ∧ (∀ m, m < j → ys[m]? ≠ some z) ∧ Q (.int (j : Nat)) H
theorem mtTupIdx : MtR X "tuple.index" (rTupIdx X.K) := mt_tup_index
theorem r_extend {l b : Addr} {xs zs : List V} {H : Hp} {Q : VK} (h : H l = some (.lst xs)) (g : H b = some (.lst zs)) (hz : xs.length + zs.length ≤ 16000000) (q : ∀ H2, But l H H2 → H2 l = some (.lst (xs ++ zs)) → Q .non H2) : rExtend (.ref l) [.ref b] H Q :=
  ⟨l, b, xs, zs, rfl, rfl, h, g, Nat.le_trans hz (by decide), q _ But.upd upd_same⟩
/-! ### reversed(range(n)) in a comprehension -/
def RvB (n : Int) (R : It → Prop) : Prop := -(2 ^ 62) ≤ (0 : Int) ∧ (0 : Int) < 2 ^ 62 ∧ -(2 ^ 62) ≤ n ∧ n < 2 ^ 62 ∧ R (Itc (0 + (((n - 0).toNat : Nat) : Int) - 1) (-1) (n - 0).toNat)
theorem r_revR {ta : TE} {σ : L2.St} {H : Hp} {R : It → Hp → Prop} (h : ta σ H fun x H1 => ∃ n, x = .int n ∧ RvB n fun J => R J H1) : iRevR (tRg1 ta) σ H R := h
theorem r_revR1 {n : Nat} {QS : It → Prop} (hn : n ≤ 1000000) (q : QS (Itc ((n : Int) - 1) (-1) n)) : ∃ m, V.int (n : Int) = .int m ∧ RvB m QS := by
  refine ⟨_, rfl, by omega, by omega, by omega, by omega, ?_⟩
  have e : ((n : Int) - 0).toNat = n := by omega
  rw [e]
  have e2 : 0 + (n : Int) - 1 = (n : Int) - 1 := by omega
  rw [e2]
  exact q
variable {σ : L2.St} {H : Hp} {Q : VK} {K : PySem.W.Frag} {g : TG} {tt : TT} {te : TE} {vs : List Nat}
theorem lcRv {lo c : Int} {n : Nat} (Pv : Addr → Nat → Hp → Prop) (h0 : ∀ D H2, H D = none → Same H H2 → H2 D = some (.lst []) → Pv D 0 H2)
    (hs : ∀ D i H', i < n → Pv D i H' → g (.int (lo + (i : Nat) * c)) (wipe σ vs) H' fun σ2 H2 => wipe σ2 vs = wipe σ vs ∧ tt σ2 H2 fun b H3 => if b = true then te σ2 H3 fun y H4 => Yield D (Pv D (i + 1)) y H4 else Pv D (i + 1) H3)
    (hd : ∀ D H', Pv D n H' → Q (.ref D) H') : LcR (Itc lo c n) g tt te vs Q σ H := fun D hD =>
  lc_it walk_rangeC (Pv D) (h0 D _ hD (ex_new hD) upd_same) (fun _ _ _ _ => trivial) (fun i x H H' hi p y => by obtain ⟨rfl, rfl⟩ := y; exact hs D i _ hi p) (hd D)
end
end My

set_option Elab.async false
set_option linter.all false
set_option maxRecDepth 100000
set_option maxHeartbeats 4000000
namespace My
open PySem PySem.Spec PyProof.Rows L2
open C8 (tCut pss_cut)
open PySem.W (alike dataLt)
/-! ### whole numbers of two factors, a wide divisor -/
section
variable {X : Cx}
def CDivB (_ j : Int) : Prop := 0 < j ∧ j ≤ 1000000000000000000000000000000000000000000000000000000000000
theorem CDivB.w {i j : Int} (h : CDivB i j) : CDivW i j := by
  refine ⟨h.1, ?_⟩
  have h3 : j ≤ 1000000000000000000000000000000000000000000000000000000000000 := h.2
  have h1 : 0 < j := h.1
  have h4 : j.natAbs ≤ 1000000000000000000000000000000000000000000000000000000000000 := by omega
  have h2 : j.natAbs < 2 ^ 9000 := Nat.lt_of_le_of_lt h4 (by decide +kernel)
  by_cases h0 : j.natAbs = 0
  · rw [h0]; decide +kernel
  · exact (Nat.log2_lt h0).mpr h2
theorem oDivB : OpR X (binaryOp .FloorDiv) (rI CDivB fun i j => .int (i / j)) := by
  intro pins s σ H x y v u Q I rx ry h
  obtain ⟨i, j, rfl, rfl, hc, q⟩ := h
  exact op_fdivW pins s σ H _ _ v u Q I rx ry ⟨i, j, rfl, rfl, hc.w, q⟩
theorem r_rep {l : Addr} {n : Int} {H : Hp} {Q : VK} {xs : List V} (h : H l = some (.lst xs)) (h0 : 0 ≤ n ∧ n ≤ 1000) (hl : xs.length ≤ 1000) (q : ∀ p H2, H p = none → Same H H2 → H2 p = some (.lst (List.replicate n.toNat xs).flatten) → Q (.ref p) H2) : rRep (.ref l) (.int n) H Q := by
  refine ⟨l, n, xs, rfl, rfl, h, by omega, by omega, ?_, fun p hp => q p _ hp (ex_new hp) upd_same⟩
  have : xs.length * n.toNat ≤ 1000 * 1000 := Nat.mul_le_mul hl (by omega)
  exact Nat.le_trans this (by decide)
theorem flat_rep (n : Nat) (v : V) : (List.replicate n [v]).flatten = List.replicate n v := by
  induction n with
  | zero => rfl
  | succ n ih => simp [List.replicate_succ, ih]
end
/-! ### octets: what is written -/
def wNum (n : Int) (c : Nat) : List Int := (List.range c).map fun k => n / 256 ^ (c - 1 - k) % 256
theorem wNum_len (n : Int) (c : Nat) : (wNum n c).length = c := by simp [wNum]
theorem wNum_succ (n : Int) (c : Nat) : wNum n (c + 1) = (n / 256 ^ c % 256) :: wNum n c := by
  unfold wNum
  rw [List.range_succ_eq_map, List.map_cons, List.map_map]
  congr 1
  refine List.map_congr_left fun k hk => ?_
  show n / 256 ^ (c + 1 - 1 - (k + 1)) % 256 = _
  have e : c + 1 - 1 - (k + 1) = c - 1 - k := by omega
  rw [e]
theorem wNum_get (n : Int) (c i : Nat) (h : i < c) : (wNum n c)[i]? = some (n / 256 ^ (c - 1 - i) % 256) := by
  unfold wNum
  rw [List.getElem?_map, List.getElem?_range h]
  rfl
def wTxt (z : Str) : List Int := (z.length : Int) :: z.cps.toList.map Int.ofNat
theorem wTxt_len (z : Str) : (wTxt z).length = z.length + 1 := by simp [wTxt, Str.length]
def wTxtD : PyData → List Int
  | .str z => wTxt z
  | _ => []
def wNmD : PyData → List Int
  | .tuple ds => (ds.length : Int) :: (ds.map wTxtD).flatten
  | _ => []
def wWdD : PyData → List Int
  | .int i => wNum i 4
  | _ => []
def KN : List Str := ["address", "text", "mail", "alias", "server", "start", "key", "link", "gap"]
def kIdx (z : Str) : Nat := KN.idxOf z
theorem kIdx_fact : ∀ κ ∈ KN, KN[kIdx κ]? = some κ ∧ (∀ m, m < kIdx κ → KN[m]? ≠ some κ) ∧ kIdx κ < 9 := by decide +kernel
theorem KN_asc : ∀ z ∈ KN, Asc z ∧ z.length ≤ 7 := by decide +kernel
def CD : List Str := ["data", "alias", "nodata", "noname", "referral", "refused"]
def cIdx (z : Str) : Nat := CD.idxOf z
theorem cIdx_fact : ∀ κ ∈ CD, CD[cIdx κ]? = some κ ∧ (∀ m, m < cIdx κ → CD[m]? ≠ some κ) ∧ cIdx κ < 6 := by decide +kernel
theorem CD_asc : ∀ z ∈ CD, Asc z ∧ z.length ≤ 8 := by decide +kernel
def kBit : PyData → Int
  | .str z => 2 ^ kIdx z
  | _ => 0
def kBits (ks : List PyData) : Int := (ks.map kBit).sum
/-- the kinds that the bits of b name -/
def pick (b : Nat) : List Str := (List.range 9).filterMap fun i => if b / 2 ^ i % 2 = 1 then KN[i]? else none
theorem fm_cong {α β : Type} {f g : α → Option β} : ∀ {l : List α}, (∀ x ∈ l, f x = g x) → l.filterMap f = l.filterMap g
  | [], _ => rfl
  | x :: l, h => by
    rw [List.filterMap_cons, List.filterMap_cons, h x List.mem_cons_self, fm_cong fun y hy => h y (List.mem_cons_of_mem _ hy)]
theorem pick_mod (b : Nat) : pick b = pick (b % 512) := by
  unfold pick
  refine fm_cong fun i hi => ?_
  have hi := List.mem_range.mp hi
  have e : b / 2 ^ i % 2 = b % 512 / 2 ^ i % 2 := by
    rcases (by omega : i = 0 ∨ i = 1 ∨ i = 2 ∨ i = 3 ∨ i = 4 ∨ i = 5 ∨ i = 6 ∨ i = 7 ∨ i = 8) with rfl | rfl | rfl | rfl | rfl | rfl | rfl | rfl | rfl <;> omega
  rw [e]
def lawBit (ks : List Str) (j : Nat) : Int := match KN[j]? with
  | some z => if inV (.str z) (ks.map V.str) = true then 2 ^ j else 0
  | none => 0
def lawBits (ks : List Str) (i : Nat) : Int := ((List.range i).map (lawBit ks)).sum
theorem lawBits_succ (ks : List Str) (i : Nat) : lawBits ks (i + 1) = lawBits ks i + lawBit ks i := by
  unfold lawBits
  rw [List.range_succ, List.map_append, List.sum_append]
  simp
theorem lawBits_pick : ∀ b : Nat, b < 512 → lawBits (pick b) 9 = kBits ((pick b).map PyData.str) := by decide +kernel
theorem pick_fact : ∀ b : Nat, (∀ z ∈ pick b, z ∈ KN) ∧ (pick b).length ≤ 9 := fun b => by
  refine ⟨fun z hz => ?_, ?_⟩
  · unfold pick at hz
    obtain ⟨i, _, hi⟩ := List.mem_filterMap.mp hz
    split at hi
    · exact List.mem_of_getElem? hi
    · cases hi
  · have := List.length_filterMap_le (fun i => if b / 2 ^ i % 2 = 1 then KN[i]? else none) (List.range 9)
    simpa [pick] using this
/-- the octets of a value of a kind -/
def wVal (κ : Str) (d : PyData) : List Int :=
  if κ = "text" then wTxtD d
  else if κ = "mail" then (match d with
    | .tuple [.int i, n] => wNum i 2 ++ wNmD n
    | _ => [])
  else if κ = "alias" ∨ κ = "server" then wNmD d
  else if κ = "start" then (match d with
    | .tuple [.int i, .int j] => wNum i 4 ++ wNum j 4
    | _ => [])
  else if κ = "gap" then (match d with
    | .tuple [n, .tuple ks] => wNmD n ++ wNum (kBits ks) 2
    | _ => [])
  else wWdD d
def wRec : PyData → List Int
  | .tuple [o, .str κ, .int t, .tuple vs] => wNmD o ++ [(kIdx κ : Int)] ++ wNum t 4 ++ [(vs.length : Int)] ++ (vs.map (wVal κ)).flatten
  | _ => []
def wSig : PyData → List Int
  | .tuple (n :: ws) => wNmD n ++ (ws.map wWdD).flatten
  | _ => []
def wSet : PyData → List Int
  | .tuple [r, .tuple sgs] => wRec r ++ [(sgs.length : Int)] ++ (sgs.map wSig).flatten
  | _ => []
def wRpl : PyData → List Int
  | .tuple [.str c, .tuple sets] => [(cIdx c : Int)] ++ wNum (sets.length : Int) 2 ++ (sets.map wSet).flatten
  | _ => []
/-! ### what is good to write -/
def nmW (d : PyData) : Prop := ∃ zs : List Str, d = dT zs ∧ (∀ z ∈ zs, Asc z ∧ z.length ≤ 20) ∧ zs.length ≤ 12
def txW (d : PyData) : Prop := ∃ z : Str, d = .str z ∧ Asc z ∧ z.length ≤ 60
def vlW (κ : Str) (d : PyData) : Prop :=
  if κ = "text" then txW d
  else if κ = "mail" then ∃ (i : Int) (n : PyData), d = .tuple [.int i, n] ∧ nmW n
  else if κ = "alias" ∨ κ = "server" then nmW d
  else if κ = "start" then ∃ i j : Int, d = .tuple [.int i, .int j]
  else if κ = "gap" then ∃ (n : PyData) (b : Nat), d = .tuple [n, dT (pick b)] ∧ nmW n ∧ b < 512
  else ∃ i : Int, d = .int i
def rcW (d : PyData) : Prop := ∃ (o : PyData) (κ : Str) (t : Int) (vs : List PyData), d = .tuple [o, .str κ, .int t, .tuple vs] ∧ nmW o ∧ κ ∈ KN ∧ (∀ v ∈ vs, vlW κ v) ∧ vs.length ≤ 100
def sgW (d : PyData) : Prop := ∃ (n : PyData) (ws : List Int), d = .tuple (n :: ws.map PyData.int) ∧ nmW n ∧ ws.length = 5
def stW (d : PyData) : Prop := ∃ (r : PyData) (sgs : List PyData), d = .tuple [r, .tuple sgs] ∧ rcW r ∧ (∀ s ∈ sgs, sgW s) ∧ sgs.length ≤ 20
def rpW (d : PyData) : Prop := ∃ (c : Str) (sets : List PyData), d = .tuple [.str c, .tuple sets] ∧ c ∈ CD ∧ (∀ s ∈ sets, stW s) ∧ sets.length ≤ 200
theorem nmW.nameD {d : PyData} (h : nmW d) : nameD d := by
  obtain ⟨zs, rfl, h1, h2⟩ := h
  exact ⟨zs, rfl, fun z hz => (h1 z hz).1, h2⟩
theorem vlW.valK {κ : Str} {d : PyData} (h : vlW κ d) : valK κ d := by
  unfold vlW at h
  unfold My.valK
  split
  · rename_i c; rw [if_pos c] at h; obtain ⟨z, rfl, h1, _⟩ := h; exact ⟨z, rfl, h1⟩
  rename_i c; rw [if_neg c] at h
  split
  · rename_i c; rw [if_pos c] at h; obtain ⟨i, n, rfl, h1⟩ := h; exact ⟨i, n, rfl, h1.nameD⟩
  rename_i c; rw [if_neg c] at h
  split
  · rename_i c; rw [if_pos c] at h; exact h.nameD
  rename_i c; rw [if_neg c] at h
  split
  · rename_i c; rw [if_pos c] at h; exact h
  rename_i c; rw [if_neg c] at h
  split
  · rename_i c; rw [if_pos c] at h
    obtain ⟨n, b, rfl, h1, _⟩ := h
    refine ⟨n, _, rfl, h1.nameD, pick b, rfl, fun z hz => (KN_asc z ((pick_fact b).1 z hz)).1, ?_⟩
    have := (pick_fact b).2
    omega
  rename_i c; rw [if_neg c] at h
  exact h
/-! ### how long the octets are -/
theorem flat_len {ds : List PyData} {f : PyData → List Int} {n : Nat} (h : ∀ d ∈ ds, (f d).length ≤ n) : ((ds.map f).flatten).length ≤ ds.length * n := by
  induction ds with
  | nil => simp
  | cons d ds ih =>
    have h1 := h d List.mem_cons_self
    have h2 := ih fun x hx => h x (List.mem_cons_of_mem _ hx)
    have e : (ds.length + 1) * n = ds.length * n + n := Nat.succ_mul _ _
    rw [List.map_cons, List.flatten_cons, List.length_append, List.length_cons, e]
    omega
theorem flat_len' {ds : List PyData} {f : PyData → List Int} {n m : Nat} (h : ∀ d ∈ ds, (f d).length ≤ n) (hm : ds.length ≤ m) : ((ds.map f).flatten).length ≤ m * n :=
  Nat.le_trans (flat_len h) (Nat.mul_le_mul_right _ hm)
theorem flat_take {ds : List PyData} {f : PyData → List Int} {n m i : Nat} (h : ∀ d ∈ ds, (f d).length ≤ n) (hm : ds.length ≤ m) : (((ds.take i).map f).flatten).length ≤ m * n :=
  flat_len' (fun d hd => h d (List.mem_of_mem_take hd)) (by rw [List.length_take]; omega)
theorem flat_step {ds : List PyData} {f : PyData → List Int} {i : Nat} {d : PyData} (h : ds[i]? = some d) : (((ds.take (i + 1)).map f).flatten) = ((ds.take i).map f).flatten ++ f d := by
  rw [List.take_add_one, h, List.map_append, List.flatten_append]
  simp
theorem flat_all {ds : List PyData} {f : PyData → List Int} {i : Nat} (h : ds.length ≤ i) : (((ds.take i).map f).flatten) = (ds.map f).flatten := by rw [List.take_of_length_le h]
theorem wNmD_len {d : PyData} (h : nmW d) : (wNmD d).length ≤ 253 := by
  obtain ⟨zs, rfl, h1, h2⟩ := h
  show (((zs.map PyData.str).map wTxtD).flatten).length + 1 ≤ 253
  have := flat_len' (ds := zs.map PyData.str) (f := wTxtD) (n := 21) (m := 12) (fun d hd => by
    obtain ⟨z, hz, rfl⟩ := List.mem_map.mp hd
    have := (h1 z hz).2
    show (wTxt z).length ≤ 21
    rw [wTxt_len]; omega) (by rw [List.length_map]; exact h2)
  omega
theorem wWdD_len (d : PyData) : (wWdD d).length ≤ 4 := by
  unfold wWdD
  split
  · rw [wNum_len]; omega
  · simp
theorem wVal_len {κ : Str} {d : PyData} (h : vlW κ d) : (wVal κ d).length ≤ 300 := by
  unfold vlW at h
  unfold wVal
  split
  · rename_i c; rw [if_pos c] at h
    obtain ⟨z, rfl, _, hz⟩ := h
    show (wTxt z).length ≤ 300
    rw [wTxt_len]; omega
  rename_i c; rw [if_neg c] at h
  split
  · rename_i c; rw [if_pos c] at h; obtain ⟨i, n, rfl, h1⟩ := h
    show (wNum i 2 ++ wNmD n).length ≤ 300
    have := wNmD_len h1
    rw [List.length_append, wNum_len]; omega
  rename_i c; rw [if_neg c] at h
  split
  · rename_i c; rw [if_pos c] at h
    have := wNmD_len h
    omega
  rename_i c; rw [if_neg c] at h
  split
  · rename_i c; rw [if_pos c] at h; obtain ⟨i, j, rfl⟩ := h
    show (wNum i 4 ++ wNum j 4).length ≤ 300
    rw [List.length_append, wNum_len, wNum_len]; omega
  rename_i c; rw [if_neg c] at h
  split
  · rename_i c; rw [if_pos c] at h
    obtain ⟨n, b, rfl, h1, _⟩ := h
    show (wNmD n ++ wNum (kBits ((pick b).map PyData.str)) 2).length ≤ 300
    have := wNmD_len h1
    rw [List.length_append, wNum_len]; omega
  exact Nat.le_trans (wWdD_len d) (by decide)
theorem wRec_len {d : PyData} (h : rcW d) : (wRec d).length ≤ 30300 := by
  obtain ⟨o, κ, t, vs, rfl, h1, h2, h3, h4⟩ := h
  show (wNmD o ++ [(kIdx κ : Int)] ++ wNum t 4 ++ [(vs.length : Int)] ++ (vs.map (wVal κ)).flatten).length ≤ 30300
  have a1 := wNmD_len h1
  have a2 := flat_len' (f := wVal κ) (n := 300) (fun v hv => wVal_len (h3 v hv)) h4
  simp only [List.length_append, wNum_len, List.length_singleton]
  omega
theorem wSig_len {d : PyData} (h : sgW d) : (wSig d).length ≤ 273 := by
  obtain ⟨n, ws, rfl, h1, h2⟩ := h
  show (wNmD n ++ ((ws.map PyData.int).map wWdD).flatten).length ≤ 273
  have a1 := wNmD_len h1
  have a2 := flat_len' (ds := ws.map PyData.int) (f := wWdD) (n := 4) (m := 5) (fun v _ => wWdD_len v) (by rw [List.length_map]; omega)
  rw [List.length_append]
  omega
theorem wSet_len {d : PyData} (h : stW d) : (wSet d).length ≤ 36000 := by
  obtain ⟨r, sgs, rfl, h1, h2, h3⟩ := h
  show (wRec r ++ [(sgs.length : Int)] ++ (sgs.map wSig).flatten).length ≤ 36000
  have a1 := wRec_len h1
  have a2 := flat_len' (f := wSig) (n := 273) (fun v hv => wSig_len (h2 v hv)) h3
  simp only [List.length_append, List.length_singleton]
  omega
theorem wRpl_len {d : PyData} (h : rpW d) : (wRpl d).length ≤ 7300000 := by
  obtain ⟨c, sets, rfl, h1, h2, h3⟩ := h
  show ([(cIdx c : Int)] ++ wNum (sets.length : Int) 2 ++ (sets.map wSet).flatten).length ≤ 7300000
  have a2 := flat_len' (f := wSet) (n := 36000) (fun v hv => wSet_len (h2 v hv)) h3
  simp only [List.length_append, List.length_singleton, wNum_len]
  omega
/-! ### pure -/
theorem nmW.pure {d : PyData} (h : nmW d) : pureD d = true ∧ d.depth ≤ 1 := h.nameD.pure
theorem pure_list {ds : List PyData} {n : Nat} (h : ∀ d ∈ ds, pureD d = true ∧ d.depth ≤ n) (hl : ds.length ≤ 10000) : pureD (.tuple ds) = true ∧ (PyData.tuple ds).depth ≤ n + 1 := by
  have g : GoodT n 10000 ds := ⟨h, hl⟩
  exact ⟨g.pure (by decide), g.depth⟩
theorem rcW.pure {d : PyData} (h : rcW d) : pureD d = true ∧ d.depth ≤ 4 := by
  obtain ⟨o, κ, t, vs, rfl, h1, h2, h3, h4⟩ := h
  refine pure_list (n := 3) (fun d hd => ?_) (by show 4 ≤ 10000; decide)
  simp only [List.mem_cons, List.not_mem_nil, or_false] at hd
  rcases hd with rfl | rfl | rfl | rfl
  · exact ⟨h1.pure.1, by have := h1.pure.2; omega⟩
  · exact ⟨pure_str (KN_asc κ h2).1, by simp [PyData.depth]⟩
  · exact ⟨rfl, by simp [PyData.depth]⟩
  · exact pure_list (fun v hv => (h3 v hv).valK.pure) (by omega)
theorem sgW.pure {d : PyData} (h : sgW d) : pureD d = true ∧ d.depth ≤ 2 := by
  obtain ⟨n, ws, rfl, h1, h2⟩ := h
  refine pure_list (n := 1) (fun d hd => ?_) (by rw [List.length_cons, List.length_map]; omega)
  rcases List.mem_cons.mp hd with rfl | hd
  · exact h1.pure
  · obtain ⟨i, _, rfl⟩ := List.mem_map.mp hd
    exact ⟨rfl, by simp [PyData.depth]⟩
theorem stW.pure {d : PyData} (h : stW d) : pureD d = true ∧ d.depth ≤ 5 := by
  obtain ⟨r, sgs, rfl, h1, h2, h3⟩ := h
  refine pure_list (n := 4) (fun d hd => ?_) (by show 2 ≤ 10000; decide)
  simp only [List.mem_cons, List.not_mem_nil, or_false] at hd
  rcases hd with rfl | rfl
  · exact h1.pure
  · have := pure_list (n := 2) (fun v hv => (h2 v hv).pure) (by omega : sgs.length ≤ 10000)
    exact ⟨this.1, by omega⟩
theorem rpW.pure {d : PyData} (h : rpW d) : pureD d = true ∧ d.depth ≤ 7 := by
  obtain ⟨c, sets, rfl, h1, h2, h3⟩ := h
  refine pure_list (n := 6) (fun d hd => ?_) (by show 2 ≤ 10000; decide)
  simp only [List.mem_cons, List.not_mem_nil, or_false] at hd
  rcases hd with rfl | rfl
  · exact ⟨pure_str (CD_asc c h1).1, by simp [PyData.depth]⟩
  · exact pure_list (n := 5) (fun v hv => (h2 v hv).pure) (by omega)
section
variable {X : Cx}
def rOrd : List V → Hp → VK → Prop := fun xs H Q => ∃ x, xs = [.str x] ∧ x.length = 1 ∧ Q (.int (x.cps.getD 0 0 : Nat)) H
theorem cOrd : CallR X (.builtin "ord") rOrd := call_ord
theorem r_ord {c : Nat} {H : Hp} {Q : VK} (q : Q (.int (c : Nat)) H) : rOrd [.str ⟨#[c]⟩] H Q := ⟨_, rfl, rfl, q⟩
def rIdxS (K : PySem.W.Frag) : V → List V → Hp → VK → Prop := fun x xs H Q => ∃ p, ∃ ys : List Str, ∃ z j, x = .ref p ∧ xs = [.str z] ∧ SqL K H p (ys.map V.str) ∧ ys[j]? = some z ∧ (∀ m, m < j → ys[m]? ≠ some z) ∧ Q (.int (j : Nat)) H
theorem flat_strs (ys : List Str) : (ys.map V.str).all flatV = true := by
  rw [List.all_map]
  exact List.all_eq_true.mpr fun _ _ => rfl
theorem mtIdxS : MtR X "list.index" (rIdxS X.K) := by
  intro pins s σ H x xs v us Q I rx rxs h
  obtain ⟨p, ys, z, j, rfl, rfl, hq, hy, hno, q⟩ := h
  refine mt_index pins s σ H _ _ v us Q I rx rxs ⟨p, ys.map V.str, .str z, j, .str z, rfl, rfl, hq, rfl, flat_strs ys, by rw [List.getElem?_map, hy]; rfl, beq_self_eq_true z, fun m z' hm hz => ?_, q⟩
  obtain ⟨y, hy', rfl⟩ := map_get hz
  show (y == z) = false
  rw [beq_eq_false_iff_ne]
  rintro rfl
  exact hno m hm hy'
theorem r_idxS {K : PySem.W.Frag} {p : Addr} {ys : List Str} {z : Str} {j : Nat} {H : Hp} {Q : VK} (h : SqL K H p (ys.map V.str)) (hy : ys[j]? = some z) (hno : ∀ m, m < j → ys[m]? ≠ some z) (q : Q (.int (j : Nat)) H) : rIdxS K (.ref p) [.str z] H Q := ⟨p, ys, z, j, rfl, rfl, h, hy, hno, q⟩
theorem r_tupIdx {K : PySem.W.Frag} {p : Addr} {ys : List Str} {z : Str} {j : Nat} {H : Hp} {Q : VK} (h : SqT K H p (ys.map V.str)) (hy : ys[j]? = some z) (hno : ∀ m, m < j → ys[m]? ≠ some z) (q : Q (.int (j : Nat)) H) : rTupIdx K (.ref p) [.str z] H Q := ⟨p, ys, z, j, rfl, rfl, h, hy, hno, q⟩
/-- a new list of whole numbers -/
def Oct (os : List Int) (H : Hp) (Q : VK) : Prop := ∀ p H', H p = none → Same H H' → H' p = some (.lst (os.map V.int)) → Q (.ref p) H'
theorem r_catO {l b : Addr} {xs ys : List Int} {H : Hp} {Q : VK} (h1 : H l = some (.lst (xs.map V.int))) (h2 : H b = some (.lst (ys.map V.int))) (hz : xs.length + ys.length ≤ 100000) (q : Oct (xs ++ ys) H Q) : rCat (.ref l) (.ref b) H Q :=
  r_cat h1 h2 (by simpa using hz) fun p H2 n e h => q p H2 n e (by rw [h, List.map_append])
theorem r_extO {l b : Addr} {xs zs : List Int} {H : Hp} {Q : VK} (h : H l = some (.lst (xs.map V.int))) (g : H b = some (.lst (zs.map V.int))) (hz : xs.length + zs.length ≤ 16000000) (q : ∀ H2, But l H H2 → H2 l = some (.lst ((xs ++ zs).map V.int)) → Q .non H2) : rExtend (.ref l) [.ref b] H Q :=
  r_extend h g (by simpa using hz) fun H2 b h => q H2 b (by rw [h, List.map_append])
def spW (K : PySem.W.Frag) (val : PyData → Prop) (wf : PyData → List Int) : Sp := fun vs H Q _ => ∃ v d, vs = [v] ∧ Dp K H v d ∧ val d ∧ Oct (wf d) H Q
theorem r_W {K : PySem.W.Frag} {val : PyData → Prop} {wf : PyData → List Int} {v : V} {d : PyData} {H : Hp} {Q : VK} (hv : Dp K H v d) (g : val d) (q : Oct (wf d) H Q) : spW K val wf [v] H Q E0 := ⟨v, d, rfl, hv, g, q⟩
def spN : Sp := fun vs H Q _ => ∃ (n : Int) (c : Nat), vs = [.int n, .int (c : Nat)] ∧ c ≤ 8 ∧ Oct (wNum n c) H Q
def spV (K : PySem.W.Frag) : Sp := fun vs H Q _ => ∃ κ v d, vs = [.str κ, v] ∧ Dp K H v d ∧ vlW κ d ∧ Oct (wVal κ d) H Q
end
section
variable {σ : L2.St} {H : Hp} {Q : VK} {g : TG} {tt : TT} {te : TE} {vs : List Nat}
theorem lcS {z : Str} (Pv : Addr → Nat → Hp → Prop) (h0 : ∀ D H2, H D = none → Same H H2 → H2 D = some (.lst []) → Pv D 0 H2)
    (hs : ∀ D i c H', z.cps.toList[i]? = some c → Pv D i H' → g (.str ⟨#[c]⟩) (wipe σ vs) H' fun σ2 H2 => wipe σ2 vs = wipe σ vs ∧ tt σ2 H2 fun b H3 => if b = true then te σ2 H3 fun y H4 => Yield D (Pv D (i + 1)) y H4 else Pv D (i + 1) H3)
    (hd : ∀ D H', Pv D z.length H' → Q (.ref D) H') : LcR (Its z) g tt te vs Q σ H := fun D hD =>
  lc_it walk_str (Pv D) (h0 D _ hD (ex_new hD) upd_same) (fun _ _ _ _ => trivial) (fun i x H H' hi p y => by obtain ⟨rfl, c, hc, rfl⟩ := y; exact hs D i c _ (by simpa using hc) p) (hd D)
end
section
variable {X : Cx}
/-- C.index(e), C a constant tuple of texts -/
def tKIdx (xs : List V) (te : TE) : TE := fun σ H Q => ∀ (K : PySem.W.Frag) (a : Addr), KT K a xs → KTy K a → tyV K "tuple" (.ref a) H ∧ te σ H fun y H1 => rTupIdx K (.ref a) [y] H1 Q
theorem pe_kidx {x : Str} {xs : List V} {p apos pos : Pos} {e : Expr} {te : TE} (h : GK X.K X.mg x xs) (hg : Gl X x) (he : PE X e te) (hd : (x == ("__debug__" : Str)) = false := by decide)
    (hbase : attributeBase (.Name x p) "index" X.env (eval (.Name x p) X.env) = eval (.Name x p) X.env := by rfl)
    (hfew : ((backTo pos (starEach [e] X.env)).all (fun x => !x.1) && (backToKw pos (keywordEach [] X.env)).all (fun x => x.1.isSome)
      && decide (([e] : List Expr).length + ([] : List Keyword).length + (if ([] : List Keyword).isEmpty then 0 else 1) < 30)) = true := by rfl)
    (hline : (apos.endLine == pos.line) = true := by rfl) (hs : starEach [e] X.env = (false, eval e X.env) :: starEach [] X.env := by rfl) (hplain : (backTo pos (starEach [] X.env)).any (·.1) = false := by rfl) : PE X (.Call (.Attribute (.Name x p) "index" apos) [e] [] pos) (tKIdx xs te) := by
  have q := pe_bm (apos := apos) (cpos := pos) PySem.F.plainAttrs_tuple PySem.F.slot_tuple_index PySem.F.type_tuple_index mtTupIdx (pe_gk (pos := p) h hg hd) (pa_cons he pa_nil hs) hbase hfew hline hs hplain
  exact ⟨fun pins s σ H Q I r => q.run pins s σ H Q I fun a k ky => r X.K a k ky⟩
theorem r_kidx {xs : List V} {te : TE} {σ : L2.St} {H : Hp} {Q : VK} (h : ∀ (K : PySem.W.Frag) (a : Addr), (∀ H, SqT K H a xs) → te σ H fun y H1 => rTupIdx K (.ref a) [y] H1 Q) : tKIdx xs te σ H Q := fun K a k ky => r_isTy ky (h K a fun H => k.sq H)
end
theorem r_rvB {n : Nat} {QS : It → Prop} (hn : n ≤ 1000000) (q : QS (Itc ((n : Int) - 1) (-1) n)) : RvB (n : Int) QS := by
  obtain ⟨m, e, h⟩ := r_revR1 hn q
  cases e
  exact h
theorem wNmD_dT (zs : List Str) : wNmD (dT zs) = [(zs.length : Int)] ++ ((zs.map PyData.str).map wTxtD).flatten := by
  show ((((zs.map PyData.str).length : Nat) : Int) :: ((zs.map PyData.str).map wTxtD).flatten) = _
  rw [List.length_map]
  rfl
end My

set_option Elab.async false
set_option linter.all false
set_option maxRecDepth 100000
set_option maxHeartbeats 4000000
namespace My
open PySem PySem.Spec PyProof.Rows L2
open C8 (tCut pss_cut)
/-! ### comprehensions whose element may raise -/
section
variable {X : Cx} {pins : List (Addr × Obj)} {σ : L2.St} {H : Hp} {s : Shared}
/-- the same state under another wish for errors -/
theorem inv_xe {X Y : Cx} {q : Value → Shared → Prop} (e : Y = { X with xe := q }) (I : Inv X pins σ H s) : Inv Y pins σ H s := by
  subst e
  obtain ⟨o, i1, i2, i3, i4, i5, i6, i7, i8, i9, i10⟩ := I
  obtain ⟨a1, a2, a3, a4, a5, a6, a7, a8, a9, a10, a11, a12, a13, a14, a15, a16, a17, a18⟩ := o
  exact ⟨⟨a1, a2, a3, a4, a5, a6, a7, a8, a9, a10, a11, a12, a13, a14, a15, a16, a17, a18⟩, i1, i2, i3, i4, i5, i6, i7, i8, i9, i10⟩
/-- a call's error passes a comprehension's block and is in the def's air -/
theorem raise_blk {E : XK} {use : Option (Value → Sem Unit)} {Qf : Value → Shared → Prop} {D C : Addr} {H3 : Hp} {s3 : Shared} {scope : Scope} {cl : List (Str × Addr)} {fp : List Addr}
    (I3 : Inv X pins σ H3 s3) (hs : X.stack = X.env :: X.outer) (hf : X.env.frame = some X.env.locals) (tk : Takes X fun c d _ H => E c d H) (hfp : ∀ b ∈ fp, FpOk X pins H3 b) (hC : s3.heap.objs.size ≤ C)
    (q1 : List (Addr × Obj)) (σ1 : L2.St) (H1 : Hp) (s1 : Shared) (u : Value) (s2 : Shared) (J : Inv (X.blk s3 H3 scope (compEnvC scope cl C X.env) fp) q1 σ1 H1 s1) (c : L2.CX X.prog X.w X.stack H1 s1 E u s2) :
    notedBy (model X.prog X.w) X.A (compEnvC scope cl C X.env) (fun e t => compEnds (model X.prog X.w) X.A X.xe use Qf (.ref D) (compEnvC scope cl C X.env) (.error e) t) u s2 := by
  obtain ⟨a, B, sI, q2, σ2, Hx, cls, d, eu, Jx, nb, up, sky, na, os, ag, w⟩ := XE.of_call (W := fun c d _ H => E c d H) J (fun _ _ _ h => h) c
  obtain ⟨a', B', _, cls', d', eu', fl', _⟩ := c
  subst eu
  cases eu'
  have sky : Sky B X.stack a (Zc cls d) C s2.heap := sky
  have fl : HandSPX.FlyingZ B X.stack a (Zc cls d) s2.heap := by
    obtain ⟨_, _, _, oe1, vs1, T1, oT1, ts1, g1, _, g2, g3, _, _, g6, g7, g8⟩ := fl'
    rcases sky with ⟨_, _, _, oe, vs, k1, _, k2, k3⟩ | fl | hh
    · rw [g1] at k1; cases k1
      rw [g2] at k2; cases k2
      rw [g3] at k3; cases k3
    · exact fl
    · obtain ⟨_, _, _, oe2, vs2, T2, oT2, ts2, k1, _, k2, k3, _, _, k6, k7, k8⟩ := hh
      rw [g1] at k1; cases k1
      rw [g2] at k2; cases k2
      rw [g3] at k3; cases k3
      rw [g6] at k6; cases k6
      rw [g7] at k7; cases k7
      rw [g8] at k8; cases k8
  have fr : X.A.frames = some (X.env :: X.outer) := by rw [← hs]; exact I3.ok.frames
  rw [hs] at fl
  have hxC : Hx C = none := Jx.free
  have fC := I3.fpOk hC hxC
  have ncs : C ∉ frs X.stack := fun hm => by
    obtain ⟨ev, he, hv⟩ := List.mem_filterMap.mp hm
    rw [hs] at he
    rcases List.mem_cons.mp he with rfl | he
    · rw [hf] at hv; cases hv; exact fC.2.1 rfl
    · exact fC.2.2.1 (List.mem_filterMap.mpr ⟨ev, he, hv⟩)
  show wpAny _ _ (noteFrame (.ref a) (compEnvC scope cl C X.env)) _ _ _
  rw [noteFrame_env (.ref a) (cenv := compEnvC scope cl C X.env) (env := X.env) rfl]
  refine HandSPX.looks_onZ Zc.steady fr hf fl fun h1 hh u1 => ?_
  obtain ⟨m, hn, _⟩ := Jx.loc
  have hn : sI.heap.Ns C m := hn
  have hn1 : h1.Ns C m := (hn.upToSlots up).upToSlots u1
  show CompFails _ _ _ _ _ _
  refine ⟨m, hn1, fun h2 m2 hn2 sb => ?_⟩
  have hn2 : h2.Ns C m2 := hn2
  have sb : Heap.SameBut C h1 h2 := sb
  obtain ⟨oI, esI, epI, hoI, hdI, _⟩ := id hn
  obtain ⟨o1, es1, ep1, ho1, hd1, _⟩ := id hn1
  obtain ⟨o2, es2, ep2, ho2, hd2, _⟩ := id hn2
  have hBC : B.get? C = some oI := nb C oI hoI ncs
  have nfr : o2.isFreed = false := (Heap.get?_some_iff.mp ho2).2
  have b2C : (B.update C fun _ => o2).get? C = some o2 := Heap.get?_update_self (fun _ => o2) hBC nfr
  have b2o : ∀ b, b ≠ C → (B.update C fun _ => o2).get? b = B.get? b := fun b hb => Heap.get?_update_other _ _ (Ne.symm hb)
  have i2C : (sI.heap.update C fun _ => o2).get? C = some o2 := Heap.get?_update_self (fun _ => o2) hoI nfr
  have i2o : ∀ b, b ≠ C → (sI.heap.update C fun _ => o2).get? b = sI.heap.get? b := fun b hb => Heap.get?_update_other _ _ (Ne.symm hb)
  obtain ⟨k1, k2, k3, oe, vs, T, oT, ts, t1, tz, t2, t3, t4, t5, t6, t7, t8⟩ := hh
  have haC : a ≠ C := by rintro rfl; rw [t1] at ho1; cases ho1; rw [t2] at hd1; cases hd1
  have hTC : T ≠ C := by rintro rfl; rw [t6] at ho1; cases ho1; rw [t7] at hd1; cases hd1
  have hh2 : HandSPX.HeldZ (B.update C fun _ => o2) (X.env :: X.outer) a (Zc cls d) X.env.locals h2 := by
    refine ⟨fun b o e => ?_, (b2o a haC).trans k2, funFrames_none (Heap.FunFrames.sameBut sb hn2 k3) fun L hL => ?_, oe, vs, T, oT, ts, (sb.2 a haC).trans t1, tz, t2, t3, (b2o T hTC).trans t4, t5, (sb.2 T hTC).trans t6, t7, t8⟩
    · by_cases hb : b = C
      · subst hb
        rw [b2C] at e
        cases e
        exact ho2
      · rw [b2o b hb] at e
        exact (sb.2 b hb).trans (k1 b o e)
    · have hLC : L ≠ C := by rintro rfl; exact ncs (hs ▸ hL)
      exact (b2o L hLC).trans (k3.mem hL).1
  unfold PySem.passOn
  refine wpAny_bind (wpAny_field ((sb.2 a haC).trans t1) t2 t3 ?_)
  rw [if_neg (by simp)]
  have hcf : (compEnvC scope cl C X.env).frame = some X.env.locals := hf
  rw [hcf]
  refine wpAny_bind (HandSPX.setFlight_onZ hh2 fun h3 hh3 u3 => wpAny_throw ?_)
  have I8 : Inv X pins σ Hx sI := I3.call' (ch := fp) Jx.os Jx.base Jx.hok Jx.bare fun b hb => ⟨(hfp b hb).2.2.2.1, (hfp b hb).2.1, (hfp b hb).2.2.2.2.1, (hfp b hb).2.2.2.2.2⟩
  have I9 : Inv X pins σ Hx { sI with heap := sI.heap.update C fun _ => o2 } := I8.turned (t' := sI.toks) (it := C) (fun b o hb e => (i2o b hb).trans e) hxC fC.2.1 fC.2.2.2.1 fC.2.2.2.2.1 fC.2.2.2.2.2
  refine tk _ _ ⟨a, B.update C fun _ => o2, { sI with heap := sI.heap.update C fun _ => o2 }, pins, σ, Hx, cls, d, rfl, I9, fun b o e hb => ?_, fun b o e nf => ?_, .inr (.inr (by rw [hs]; exact hh3)), na, os, ag, w⟩
  · have e : (sI.heap.update C fun _ => o2).get? b = some o := e
    by_cases hbC : b = C
    · subst hbC
      rw [i2C] at e
      rw [b2C]
      exact e
    · rw [i2o b hbC] at e
      exact (b2o b hbC).trans (nb b o e hb)
  · have e : (sI.heap.update C fun _ => o2).get? b = some o := e
    by_cases hbC : b = C
    · subst hbC
      rw [i2C] at e
      cases e
      exact u3 b o2 ho2 nf
    · rw [i2o b hbC] at e
      obtain ⟨l1, z1⟩ := up b o e nf
      obtain ⟨l2, z2⟩ := u1 b _ z1 nf
      obtain ⟨l3, z3⟩ := u3 b _ ((sb.2 b hbC).trans z2) nf
      exact ⟨l3, z3⟩
/-- [elt for x in iter], the element may raise: E is what is wanted of an error -/
def PEx (X : Cx) (E : XK) (scope : Scope) (elt : Expr) (te : TE) : Prop := ∀ (s : Shared) (H : Hp) (C : Addr) (cl : List (Str × Addr)) (fp : List Addr) (q : Value → Shared → Prop),
  (∀ σ, PassesAt (L2.CX X.prog X.w) { X.blk s H scope (compEnvC scope cl C X.env) fp with xe := q } σ E) → PE { X.blk s H scope (compEnvC scope cl C X.env) fp with xe := q } elt te
theorem core_x {E : XK} {Q : VK} {elt tg iter : Expr} {scope : Scope} {own : List (Str × Nat)} {pos pos' : Pos} {wi : TI} {g : TG} {te : TE} {use : Option (Value → Sem Unit)} {Qf : Value → Shared → Prop}
    (calm : X.calm = true) (hs : X.stack = X.env :: X.outer) (hf : X.env.frame = some X.env.locals) (tk : Takes X fun c d _ H => E c d H) (nd : X.N.Nodup) (I : Inv X pins σ H s) (hi : PI X tg iter wi) (ok : BlkOk X.N X.env.scope scope own)
    (hg : ∀ (s : Shared) (H : Hp) (C : Addr) (cl : List (Str × Addr)) (fp : List Addr), PG (X.blk s H scope (compEnvC scope cl C X.env) fp) tg g)
    (he : PEx X E scope elt te) (hfold : ∀ x, foldedSetIterable iter X.env x = pure x) (h : tLc wi g tYes te (own.map (·.2)) σ H Q)
    (fin : ∀ D C t m H', Inv X pins σ H' t → Q (.ref D) H' → t.heap.Ns C m → FpOk X pins H' C → ∀ cenv : Env, cenv.locals = C → compEnds (model X.prog X.w) X.A X.xe use Qf (.ref D) cenv (.ok .next) t) :
    wpAny (model X.prog X.w) X.A (comprehension (.ListComp elt [⟨tg, iter, [], 0⟩] scope pos) scope X.env pos' (newList []) false (eval iter X.env) use) Qf X.xe s := by
  have free : ∀ p ∈ scope.names, p.2 = .free → ∃ c, X.env.cells.lookup p.1 = some c := by
    intro p hp hk
    exact (ok.free p hp hk).elim (fun z => I.ok.has _ (.inl z)) fun z => I.ok.has _ (.inr z)
  refine comprehension_at rfl hfold (closure_ok free) ok.kind (fun p hp hk => by rw [ok.uniq p hp, hk]) ?_
  refine thn (hi.run pins s σ H _ I h) fun v1 t1 r1 => ?_
  refine thn r1 fun v2 t2 r2 => ?_
  obtain ⟨it, fp, tn, J, H2, ev, I2, T, z2, f2, turns⟩ := r2
  subst ev
  refine wpAny_newObj_type ?_ (by show 0 ≤ sizeLine; decide)
  refine newEnv_comp ?_
  have dn : H2 t2.heap.objs.size = none := I2.hok.fresh (Nat.le_refl _)
  obtain ⟨W, ⟨n0, w0⟩, turn⟩ := turns t2.heap.objs.size dn
  generalize hD : t2.heap.objs.size = D at dn w0 turn
  obtain ⟨t3, e3⟩ : ∃ t3 : Shared, t3 = { t2 with heap := t2.heap.push { cls := .type "list", data := .seq ([] : List Value).toArray } } := ⟨_, rfl⟩
  have keep3 : ∀ b o, t2.heap.get? b = some o → t3.heap.get? b = some o := by
    intro b o e
    rw [e3]
    exact Heap.get?_push_of_some _ e
  have I3 : Inv X pins σ (upd H2 D (.lst [])) t3 := by
    subst e3
    refine I2.laid (t' := t2.toks) (fun b o e => Heap.get?_push_of_some _ e) (Nat.le_of_eq hD) ⟨Nat.zero_le _, [], 0, .nil, ?_⟩
    subst hD
    exact Heap.get?_push_size _ rfl
  have old : ∀ b ∈ fp, b < t2.heap.objs.size := by
    intro b hb
    obtain ⟨o, e, _⟩ := T.obj _ _ z2 b hb
    exact Heap.lt_size e
  have f3 : ∀ b ∈ fp, FpOk X pins (upd H2 D (.lst [])) b ∧ b < t3.heap.objs.size := by
    intro b hb
    have lt := old b hb
    have ne : b ≠ D := by rw [← hD]; exact Nat.ne_of_lt lt
    refine ⟨⟨(upd_ne ne).trans (f2 b hb).1, (f2 b hb).2⟩, ?_⟩
    rw [e3]
    show b < (t2.heap.push _).objs.size
    rw [Heap.size_push]
    exact Nat.lt_succ_of_lt lt
  have z3 : tn 0 t3.heap := T.keep _ _ _ z2 fun b _ o e => keep3 b o e
  have I4 := block_start I3 ok nd f3
  rw [← e3]
  obtain ⟨H3, eH⟩ : ∃ H3, H3 = upd H2 D (.lst []) := ⟨_, rfl⟩
  obtain ⟨C, eC⟩ : ∃ C, C = t3.heap.objs.size := ⟨_, rfl⟩
  obtain ⟨cl, ecl⟩ : ∃ cl, cl = cellsFrom (t3.heap.objs.size + 1) scope.names (cloFrom X.env.cells scope.names []) := ⟨_, rfl⟩
  obtain ⟨t4, e4⟩ : ∃ t4 : Shared, t4 = { t3 with heap := pushCells (t3.heap.push { cls := .type "dict", data := .dict #[] }) scope.names } := ⟨_, rfl⟩
  rw [← eH] at I3 I4 w0 f3
  rw [← ecl, ← eC, ← e4] at I4
  show codeAny (model X.prog X.w) X.A (.compStart (.ListComp elt [⟨tg, iter, [], 0⟩] scope pos) 0 (.ref it) (.ref D) (compEnvC scope (cellsFrom (t3.heap.objs.size + 1) scope.names (cloFrom X.env.cells scope.names [])) t3.heap.objs.size X.env)) (compEnds (model X.prog X.w) X.A X.xe use Qf (.ref D) (compEnvC scope (cellsFrom (t3.heap.objs.size + 1) scope.names (cloFrom X.env.cells scope.names [])) t3.heap.objs.size X.env)) { t3 with heap := pushCells (t3.heap.push { cls := .type "dict", data := .dict #[] }) scope.names }
  rw [← ecl, ← eC, ← e4]
  have z4 : tn 0 t4.heap := T.keep _ _ _ z3 fun b _ o e => by
    rw [e4]
    exact pushCells_keeps _ _ _ _ (Heap.get?_push_of_some _ e)
  have nf : ∀ b ∈ fp, H3 b = none := fun b hb => (f3 b hb).1.1
  have stay : ∀ {σ' : L2.St} {H' : Hp} {t : Shared}, Inv (X.blk t3 H3 scope (compEnvC scope cl C X.env) fp) [] σ' H' t → (∀ b ∈ fp, H' b = none) → ∀ b ∈ fp, FpOk (X.blk t3 H3 scope (compEnvC scope cl C X.env) fp) [] H' b := by
    intro σ' H' t J' hn b hb
    refine ⟨hn b hb, (J'.ok.exf b hb).1, J'.ok.exfs b hb, .inl hb, (J'.ok.exf b hb).2, fun p hp => ?_⟩
    have hp : p ∈ ([] : List (Addr × Obj)) ++ [] := hp
    simp at hp
  have air := raise_blk (use := use) (Qf := Qf) (D := D) (cl := cl) (scope := scope) (fp := fp) I3 hs hf tk (fun b hb => (f3 b hb).1) (Nat.le_of_eq eC.symm)
  have pg := hg t3 H3 C cl fp
  have pe := he t3 H3 C cl fp (notedBy (model X.prog X.w) X.A (compEnvC scope cl C X.env) fun e t => compEnds (model X.prog X.w) X.A X.xe use Qf (.ref D) (compEnvC scope cl C X.env) (.error e) t)
    fun σ1 q1 H1 s1 u s2 J' c => air q1 σ1 H1 s1 u s2 (inv_xe (Y := X.blk t3 H3 scope (compEnvC scope cl C X.env) fp) rfl J') c
  have ring : codeAny (model X.prog X.w) X.A (.compLoop (.ListComp elt [⟨tg, iter, [], 0⟩] scope pos) 0 (.ref it) (.ref D) (compEnvC scope cl C X.env)) (compEnds (model X.prog X.w) X.A X.xe use Qf (.ref D) (compEnvC scope cl C X.env)) t4 := by
    refine compLoop_any (fun n t => ∃ i H', Inv (X.blk t3 H3 scope (compEnvC scope cl C X.env) fp) [] (wipe σ (own.map (·.2))) H' t ∧ tn i t.heap ∧ (∀ b ∈ fp, H' b = none) ∧ W i n H') ?_ n0 ⟨0, H3, I4, z4, nf, w0⟩
    rintro n t5 ⟨i, H5, I5, z5, n5, w5⟩
    rcases turn i n H5 w5 with ⟨stop, done⟩ | ⟨go, Nx, less, step⟩
    · have td := T.done (X.blk t3 H3 scope (compEnvC scope cl C X.env) fp) rfl rfl rfl calm i [] t5 _ H5 (fun _ _ => False) I5 (stay I5 n5) z5 stop
      refine thnF td fun r t6 hr => ?_
      obtain ⟨er, I6⟩ := hr
      subst er
      have hxC : H5 C = none := I6.free
      have I7 : Inv X pins σ H5 t6 := I3.call' (ch := fp) I6.os I6.base I6.hok I6.bare fun b hb => ⟨(f3 b hb).1.2.2.2.1, (f3 b hb).1.2.1, (f3 b hb).1.2.2.2.2.1, (f3 b hb).1.2.2.2.2.2⟩
      obtain ⟨m, hn, _⟩ := I6.loc
      exact fin D C t6 m H5 I7 done hn (I3.fpOk (Nat.le_of_eq eC.symm) hxC) _ rfl
    · have ti := T.item (X.blk t3 H3 scope (compEnvC scope cl C X.env) fp) rfl rfl rfl calm i [] t5 _ H5 (fun _ _ => False) I5 (stay I5 n5) z5 go
      refine thnF ti fun r t6 hr => ?_
      obtain ⟨u, er, r6⟩ := hr
      subst er
      refine thnF r6 fun _ t7 hr => ?_
      obtain ⟨x, H7, I7, rx, y7, z7, n7⟩ := hr
      have P7 := I7.pinned (stay I7 n7) (T.obj _ _ z7)
      refine thnF (pg.run _ t7 _ H7 x u _ P7 rx (step x H7 y7)) fun _ t8 hr => ?_
      obtain ⟨σ8, H8, I8, e8, q8⟩ := hr
      have next : ∀ {t : Shared} {H' : Hp}, Inv (X.blk t3 H3 scope (compEnvC scope cl C X.env) fp) ([] ++ pinsAt fp t7.heap) σ8 H' t → Nx H' → ∃ m, m < n ∧ ∃ i H', Inv (X.blk t3 H3 scope (compEnvC scope cl C X.env) fp) [] (wipe σ (own.map (·.2))) H' t ∧ tn i t.heap ∧ (∀ b ∈ fp, H' b = none) ∧ W i m H' := by
        intro t H' J' nx
        obtain ⟨m', lt, w'⟩ := less H' nx
        have pn : ∀ b ∈ fp, ∀ o, t7.heap.get? b = some o → t.heap.get? b = some o ∧ H' b = none := by
          intro b hb o e
          have z := J'.pin (b, o) (List.mem_append_right _ (List.mem_append_right _ (mem_pinsAt hb e)))
          exact ⟨z.1, z.2.1⟩
        have len : (wipe σ (own.map (·.2))).length = σ8.length := by rw [← e8, wipe_length]
        have I9 : Inv (X.blk t3 H3 scope (compEnvC scope cl C X.env) fp) [] (wipe σ (own.map (·.2))) H' t := (J'.unpinned (pins := [])).weak len fun j v e => by
          rw [← e8] at e
          exact (wipe_some e).1
        refine ⟨m', lt, i + 1, H', I9, T.keep _ _ _ z7 fun b hb o e => (pn b hb o e).1, fun b hb => ?_, w'⟩
        obtain ⟨o, e, _⟩ := T.obj _ _ z7 b hb
        exact (pn b hb o e).2
      have tests : wpAny (model X.prog X.w) X.A (forIn ([] : List Expr) true fun c r => if r = true then do let ok ← isTrue c (compEnvC scope cl C X.env) (eval c (compEnvC scope cl C X.env)); pure (ForInStep.yield ok) else pure (ForInStep.yield r)) (fun b t => b = true ∧ t = t8) (fun _ _ => False) t8 := by
        rw [List.forIn_nil]
        exact wpAny_pure ⟨rfl, rfl⟩
      refine thnF tests fun b t9 hb => ?_
      obtain ⟨rfl, rfl⟩ := hb
      rw [if_pos rfl]
      have q8 : te σ8 H8 fun y H4 => ∃ acc, H4 D = some (.lst acc) ∧ acc.length < sizeLine ∧ Nx (upd H4 D (.lst (acc ++ [y]))) := q8
      refine wpAny_mono (pe.run _ t9 σ8 H8 _ (inv_xe rfl I8) q8) (fun z t10 hz => ?_) fun _ _ hz => hz
      obtain ⟨yv, H10, I10, ry, acc, hD10, len10, nx⟩ := hz
      exact app_ok (X := X.blk t3 H3 scope (compEnvC scope cl C X.env) fp) (inv_xe rfl I10) hD10 len10 ry fun t11 I11 => next I11 nx
  exact codeAny_compStart_list ring (T.self X.A 0 _ _ _ z4 ring)
/-- as a value -/
theorem pe_lcX {E : XK} {elt tg iter : Expr} {scope : Scope} {own : List (Str × Nat)} {pos : Pos} {wi : TI} {g : TG} {te : TE} (tk : Takes X fun c d _ H => E c d H) (calm : X.calm = true) (hs : X.stack = X.env :: X.outer) (hf : X.env.frame = some X.env.locals) (nd : X.N.Nodup) (hi : PI X tg iter wi) (ok : BlkOk X.N X.env.scope scope own)
    (hg : ∀ (s : Shared) (H : Hp) (C : Addr) (cl : List (Str × Addr)) (fp : List Addr), PG (X.blk s H scope (compEnvC scope cl C X.env) fp) tg g)
    (he : PEx X E scope elt te) (hfold : ∀ x, foldedSetIterable iter X.env x = pure x := by intro _; rfl) : PE X (.ListComp elt [⟨tg, iter, [], 0⟩] scope pos) (tLc wi g tYes te (own.map (·.2))) := by
  refine ⟨fun pins s σ H Q I h => ?_⟩
  rw [eval_ListComp]
  refine core_x calm hs hf tk nd I hi ok hg he hfold h fun D C t m H' J' q hn fk cenv ec => ?_
  subst ec
  refine ⟨m, hn, fun h2 sb => ?_⟩
  exact ⟨.ref D, H', J'.turned (t' := t.toks) (fun b o hb e => (sb.2 b hb).trans e) fk.1 fk.2.1 fk.2.2.2.1 fk.2.2.2.2.1 fk.2.2.2.2.2, rfl, q⟩
end
section
variable {X : Cx} {k : Nat} {x : Str} {ps : List Str} {sp : Sp} {E : XK}
def tFnP (sp : Sp) (E : XK) (t : TA) : TE := fun σ H Q => t σ H fun vs H1 => sp vs H1 Q E
theorem pe_fnP {e : Expr} {es : List Expr} {t : TA} {p pos : Pos} (G : FnX X.prog X.w X.K X.mg X.base k x ps sp) (hr : Room k X.A) (hg : Gl X x) (hp : ∀ σ, PassesAt (L2.CX X.prog X.w) X σ E) (ha : PA X (e :: es) t) (hdb : (x == ("__debug__" : Str)) = false := by decide)
    (he : starEach (e :: es) X.env = (false, eval e X.env) :: starEach es X.env := by rfl) (hpl : (backTo pos (starEach es X.env)).any (·.1) = false := by rfl) : PE X (.Call (.Name x p) (e :: es) [] pos) (tFnP sp E t) := by
  obtain ⟨f, fd, hm, hk, hb, F⟩ := G
  exact pe_callS (p := p) (E := fun _ => E) F hr hg hm hk hb hp ha hdb he hpl
theorem r_fnP {σ : L2.St} {H : Hp} {Q : VK} {t : TA} (h : t σ H fun vs H1 => sp vs H1 Q E) : tFnP sp E t σ H Q := h
end
end My

set_option Elab.async false
set_option linter.all false
set_option maxRecDepth 100000
set_option maxHeartbeats 4000000
namespace My
open PySem PySem.Spec PyProof.Rows L2
open C8 (tCut pss_cut)
open PySem.W (alike dataLt)
/-! ### methods that may raise -/
section
variable {X : Cx} {k : Nat} {C : Addr} {m : Str} {ps : List Str} {sp : Sp} {E : XK} {o : Expr} {to : TE} {pos apos : Pos}
def tMthX (C : Addr) (m : Str) (sp : Sp) (E : XK) (to : TE) : TE := fun σ H Q => to σ H fun x H1 => MthR C m x H1 (sp [x] H1 Q E)
theorem pe_mthX0 {pl : Sem Bool} (G : FnM X.prog X.w X.K X.mg X.base (L2.CX X.prog X.w) k C m ps sp) (c : Cls X.K C) (hr : Room k X.A) (tk : Takes X fun c d _ H => E c d H) (ho : PE X o to)
    (ht : eval (.Call (.Attribute o m apos) [] [] pos) X.env = (do
      let ov ← eval o X.env
      standAt apos.atName
      let (f, first) ← holding [ov] (getMethod ov m pl)
      callWith pos f first (backTo pos (starEach [] X.env)) (backToKw pos (keywordEach [] X.env))) := by rfl) : PE X (.Call (.Attribute o m apos) [] [] pos) (tMthX C m sp E to) := by
  obtain ⟨f, fd, hm, hb, F⟩ := G
  have h := pe_meth0 ho c hm F hr hb .nil (E := E) (passes_call tk fun _ _ _ _ h => h) ht
  refine ⟨fun pins s σ H Q I q => h.run pins s σ H Q I ?_⟩
  unfold tMeth
  simp only [List.append_nil]
  exact q
theorem r_mthX {σ : L2.St} {H : Hp} {Q : VK} (h : to σ H fun x H1 => MthR C m x H1 (sp [x] H1 Q E)) : tMthX C m sp E to σ H Q := h
end
theorem r_fnSE {sp : Sp} {E : XK} {t : TA} {σ : L2.St} {H : Hp} {Q : VK} (h : t σ H fun vs H1 => sp vs H1 Q E) : tFnS sp (fun c d _ H => E c d H) t σ H Q := h
theorem r_raiseE {C : Addr} {E : XK} {t : TA} {σ : L2.St} {H : Hp} {D : Ends} (h : t σ H fun vs H1 => vs.length ≤ sizeLine ∧ E (.ref C) none H1) : tRaise C (fun c d _ H => E c d H) t D σ H := h
theorem int_len {i : Int} (hi : -1000000000000 ≤ i ∧ i ≤ 1000000000000) : (Str.ofString (toString i)).length ≤ 20 := by
  rw [PySem.ofString_length]
  have hn : i.natAbs ≤ 1000000000000 := by omega
  have := int_text_length_le10 (a := i) (k := 13) (by decide) (Nat.lt_of_le_of_lt hn (by decide))
  omega
/-- f'.. {i}' -/
theorem r_msgI {σ : L2.St} {H : Hp} {Q : VK} {s : Str} {i : Int} {j : Nat} (hv : σ[j]? = some (some (.int i))) (h1 : s.length ≤ 1000) (hi : -1000000000000 ≤ i ∧ i ≤ 1000000000000) (q : ∀ out, Q (.str out) H) : tJoined [tC (.str s), tFmt (tVar j)] σ H Q := by
  have hl := int_len hi
  have hb : i.natAbs.log2 < 1920 := by
    by_cases h0 : i.natAbs = 0
    · rw [h0]; decide +kernel
    · exact (Nat.log2_lt h0).mpr (Nat.lt_of_le_of_lt (m := 1000000000000) (by omega) (by decide +kernel))
  refine ⟨s, rfl, ?_, .int i, hv, .inr ⟨i, rfl, hb, _, rfl, ?_, q _⟩⟩
  · rw [len_app]
    show 0 + s.length ≤ sizeLine
    have : 1000 ≤ sizeLine := by decide
    omega
  · rw [len_app, len_app]
    show 0 + s.length + _ ≤ sizeLine
    have : 11000 ≤ sizeLine := by decide
    omega
section
variable {X : Cx} {K : PySem.W.Frag}
theorem op_eqDK (hK : X.K = K) (hu : X.A.units + 64 < cLine) : OpR X (compareOp .Eq) (rEqD K) := hK ▸ op_eqD hu
end
/-! ### reading octets: the words -/
section
variable {α β : Type}
abbrev Ps (α : Type) := List Int → Option (α × List Int)
def pBind (p : Ps α) (f : α → Ps β) : Ps β := fun l => match p l with
  | some (a, r) => f a r
  | none => none
def pPure (a : α) : Ps α := fun l => some (a, l)
def pFail : Ps α := fun _ => none
def pOct : Ps Int
  | [] => none
  | x :: r => if 0 ≤ x ∧ x ≤ 255 then some (x, r) else none
def isCh (x : Int) : Bool := decide (32 ≤ x ∧ x ≤ 126 ∧ x ≠ 37)
def pChr : Ps Nat := pBind pOct fun x => if isCh x = true then pPure x.toNat else pFail
def pRep (p : Ps α) : Nat → Ps (List α)
  | 0 => pPure []
  | n + 1 => pBind p fun a => pBind (pRep p n) fun as => pPure (a :: as)
def pTxt : Ps Str := pBind pOct fun n => pBind (pRep pChr n.toNat) fun cs => pPure ⟨cs.toArray⟩
def pNm : Ps (List Str) := pBind pOct fun n => pBind (pRep pTxt n.toNat) fun zs => if nameB zs = true then pPure zs else pFail
def pKd : Ps Str := pBind pOct fun n => if n < 9 then pPure (KN.getD n.toNat "") else pFail
def pQs : Ps (List Str × List Str × Str) := pBind pNm fun a => pBind pNm fun b => pBind pKd fun k => if k = "gap" then pFail else pPure (a, b, k)
theorem pBind_some {p : Ps α} {f : α → Ps β} {l r : List Int} {a : α} (h : p l = some (a, r)) : pBind p f l = f a r := by unfold pBind; rw [h]
theorem pBind_none {p : Ps α} {f : α → Ps β} {l : List Int} (h : p l = none) : pBind p f l = none := by unfold pBind; rw [h]
/-! ### what is read to its end is read so before anything, and its beginnings are not -/
def BadT (b : List Int) : Prop := b = [] ∨ ∃ x t, b = x :: t ∧ ¬ (0 ≤ x ∧ x ≤ 255)
def Strict (p : Ps α) : Prop := ∀ l v r, p l = some (v, r) → ∃ u, l = u ++ r ∧ (∀ r', p (u ++ r') = some (v, r')) ∧ ∀ k, k < u.length → ∀ b, BadT b → p (u.take k ++ b) = none
theorem strict_pure (a : α) : Strict (pPure a) := fun l v r h => by
  have h : some (a, l) = some (v, r) := h
  cases h
  exact ⟨[], rfl, fun _ => rfl, fun k hk => absurd hk (by simp)⟩
theorem strict_fail : Strict (pFail : Ps α) := fun _ _ _ h => by cases h
theorem strict_oct : Strict pOct := by
  intro l v r h
  cases l with
  | nil => cases h
  | cons x t =>
    have h : (if 0 ≤ x ∧ x ≤ 255 then some (x, t) else none) = some (v, r) := h
    by_cases hx : 0 ≤ x ∧ x ≤ 255
    · rw [if_pos hx] at h
      cases h
      refine ⟨[v], rfl, fun r' => if_pos hx, fun k hk b hb => ?_⟩
      have : k = 0 := by simp at hk; omega
      subst this
      rcases hb with rfl | ⟨y, t', rfl, hy⟩
      · rfl
      · exact if_neg hy
    · rw [if_neg hx] at h; cases h
theorem strict_bind {p : Ps α} {f : α → Ps β} (hp : Strict p) (hf : ∀ a, Strict (f a)) : Strict (pBind p f) := by
  intro l v r h
  cases e : p l with
  | none => rw [pBind_none e] at h; cases h
  | some x =>
    obtain ⟨a, r1⟩ := x
    rw [pBind_some e] at h
    obtain ⟨u1, e1, s1, b1⟩ := hp l a r1 e
    obtain ⟨u2, e2, s2, b2⟩ := hf a r1 v r h
    refine ⟨u1 ++ u2, by rw [e1, e2, List.append_assoc], fun r' => ?_, fun k hk b hb => ?_⟩
    · rw [List.append_assoc, pBind_some (s1 _)]
      exact s2 r'
    · by_cases hk1 : k < u1.length
      · rw [List.take_append_of_le_length (by omega)]
        exact pBind_none (b1 k hk1 b hb)
      · rw [List.length_append] at hk
        rw [List.take_append, List.take_of_length_le (by omega), List.append_assoc, pBind_some (s1 _)]
        exact b2 _ (by omega) b hb
theorem strict_if {c : Prop} [Decidable c] {p : Ps α} (hp : Strict p) : Strict (if c then p else pFail) := by
  split
  · exact hp
  · exact strict_fail
theorem strict_ifn {c : Prop} [Decidable c] {p : Ps α} (hp : Strict p) : Strict (if c then pFail else p) := by
  split
  · exact strict_fail
  · exact hp
theorem strict_rep {p : Ps α} (hp : Strict p) : ∀ n, Strict (pRep p n)
  | 0 => strict_pure _
  | n + 1 => strict_bind hp fun _ => strict_bind (strict_rep hp n) fun _ => strict_pure _
theorem strict_chr : Strict pChr := strict_bind strict_oct fun _ => strict_if (strict_pure _)
theorem strict_txt : Strict pTxt := strict_bind strict_oct fun _ => strict_bind (strict_rep strict_chr _) fun _ => strict_pure _
theorem strict_nm : Strict pNm := strict_bind strict_oct fun _ => strict_bind (strict_rep strict_txt _) fun _ => strict_if (strict_pure _)
theorem strict_kd : Strict pKd := strict_bind strict_oct fun _ => strict_if (strict_pure _)
theorem strict_qs : Strict pQs := strict_bind strict_nm fun _ => strict_bind strict_nm fun _ => strict_bind strict_kd fun _ => strict_ifn (strict_pure _)
/-! ### so many, one after the other -/
def RepInv (p : Ps α) (l0 : List Int) (as : List α) (l : List Int) : Prop := ∀ m, pRep p (as.length + m) l0 = (pRep p m l).map fun x => (as ++ x.1, x.2)
theorem RepInv.start (p : Ps α) (l0 : List Int) : RepInv p l0 [] l0 := fun m => by
  rw [List.length_nil, Nat.zero_add]
  cases pRep p m l0 with
  | none => rfl
  | some x => rfl
theorem RepInv.step {p : Ps α} {l0 l r : List Int} {as : List α} {v : α} (h : RepInv p l0 as l) (hp : p l = some (v, r)) : RepInv p l0 (as ++ [v]) r := fun m => by
  have e : (as ++ [v]).length + m = as.length + (m + 1) := by simp; omega
  rw [e, h (m + 1)]
  have e2 : pRep p (m + 1) l = pBind (pRep p m) (fun as => pPure (v :: as)) r := pBind_some hp
  rw [e2]
  cases e3 : pRep p m r with
  | none => rw [pBind_none e3]; rfl
  | some x =>
    obtain ⟨bs, r2⟩ := x
    rw [pBind_some e3]
    show some (as ++ v :: bs, r2) = some ((as ++ [v]) ++ bs, r2)
    rw [List.append_assoc]
    rfl
theorem RepInv.fail {p : Ps α} {l0 l : List Int} {as : List α} (h : RepInv p l0 as l) (hp : p l = none) {n : Nat} (hn : as.length < n) : pRep p n l0 = none := by
  obtain ⟨m, rfl⟩ : ∃ m, n = as.length + (m + 1) := ⟨n - as.length - 1, by omega⟩
  have e2 : pRep p (m + 1) l = none := pBind_none hp
  rw [h (m + 1), e2]
  rfl
theorem RepInv.done {p : Ps α} {l0 l : List Int} {as : List α} (h : RepInv p l0 as l) : pRep p as.length l0 = some (as, l) := by
  have := h 0
  rw [Nat.add_zero] at this
  rw [this]
  show some (as ++ [], l) = _
  rw [List.append_nil]
theorem rep_map {γ : Type} {p : Ps α} {w : γ → List Int} {g : γ → α} (h : ∀ c r, p (w c ++ r) = some (g c, r)) : ∀ (cs : List γ) (r : List Int), pRep p cs.length ((cs.map w).flatten ++ r) = some (cs.map g, r)
  | [], r => rfl
  | c :: cs, r => by
    show pBind p _ ((w c ++ (cs.map w).flatten) ++ r) = _
    rw [List.append_assoc, pBind_some (h c _), pBind_some (rep_map h cs r)]
    rfl
end
/-! ### what is written is read -/
theorem oct_cons {x : Int} {r : List Int} (h : 0 ≤ x ∧ x ≤ 255) : pOct (x :: r) = some (x, r) := if_pos h
def chOk (z : Str) : Prop := z.length ≤ 255 ∧ ∀ c ∈ z.cps.toList, isCh (c : Int) = true
theorem rep_chr : ∀ (cs : List Nat) (r : List Int), (∀ c ∈ cs, isCh (c : Int) = true) → pRep pChr cs.length (cs.map Int.ofNat ++ r) = some (cs, r)
  | [], r, _ => rfl
  | c :: cs, r, h => by
    have hc := h c List.mem_cons_self
    have hc2 : 0 ≤ (c : Int) ∧ (c : Int) ≤ 255 := by
      unfold isCh at hc
      have := of_decide_eq_true hc
      omega
    have e : pChr ((c : Int) :: (cs.map Int.ofNat ++ r)) = some (c, cs.map Int.ofNat ++ r) := by
      unfold pChr
      rw [pBind_some (oct_cons hc2), if_pos hc]
      show some ((c : Int).toNat, _) = _
      rw [Int.toNat_natCast]
    show pBind pChr _ ((c : Int) :: (cs.map Int.ofNat ++ r)) = _
    rw [pBind_some e, pBind_some (rep_chr cs r fun d hd => h d (List.mem_cons_of_mem _ hd))]
    rfl
theorem txt_back {z : Str} (h : chOk z) (r : List Int) : pTxt (wTxt z ++ r) = some (z, r) := by
  have e : wTxt z ++ r = (z.length : Int) :: (z.cps.toList.map Int.ofNat ++ r) := rfl
  have hl := len_list z
  unfold pTxt
  rw [e, pBind_some (oct_cons ⟨by omega, by have := h.1; omega⟩)]
  have e2 : ((z.length : Nat) : Int).toNat = z.cps.toList.length := by omega
  rw [e2, pBind_some (rep_chr _ r h.2)]
  show some ((⟨z.cps.toList.toArray⟩ : Str), r) = some (z, r)
  rw [Array.toArray_toList]
theorem lab_ch {z : Str} (h : plainB z = true ∨ z = "*") : chOk z := by
  have hf := lab_fact h
  refine ⟨by omega, fun c hc => ?_⟩
  rcases h with h | rfl
  · have key : ∀ c ∈ CH.cps.toList, isCh (c : Int) = true := by decide +kernel
    exact key c ((plain_iff.mp h).2 c hc)
  · have key : ∀ c ∈ ("*" : Str).cps.toList, isCh (c : Int) = true := by decide +kernel
    exact key c hc
theorem rep_txt : ∀ (zs : List Str) (r : List Int), (∀ z ∈ zs, chOk z) → pRep pTxt zs.length (((zs.map PyData.str).map wTxtD).flatten ++ r) = some (zs, r)
  | [], r, _ => rfl
  | z :: zs, r, h => by
    show pBind pTxt _ ((wTxt z ++ ((zs.map PyData.str).map wTxtD).flatten) ++ r) = _
    rw [List.append_assoc, pBind_some (txt_back (h z List.mem_cons_self) _), pBind_some (rep_txt zs r fun y hy => h y (List.mem_cons_of_mem _ hy))]
    rfl
theorem nm_back {zs : List Str} (h : nameB zs = true) (r : List Int) : pNm (wNmD (dT zs) ++ r) = some (zs, r) := by
  have hl := name_len h
  rw [wNmD_dT, List.append_assoc, List.singleton_append]
  unfold pNm
  rw [pBind_some (oct_cons ⟨by omega, by omega⟩)]
  have e2 : ((zs.length : Nat) : Int).toNat = zs.length := by omega
  rw [e2, pBind_some (rep_txt zs r fun z hz => lab_ch (name_mem h hz)), if_pos h]
  rfl
def CHS : Str := " !\"#$ &'()*+,-./0123456789:;<=>?@ABCDEFGHIJKLMNOPQRSTUVWXYZ[\\]^_`abcdefghijklmnopqrstuvwxyz{|}~"
theorem CHS_at : ∀ c : Nat, c < 127 → 32 ≤ c → c ≠ 37 → CHS.cps.toList[c - 32]? = some c := by decide +kernel
theorem CHS_len : CHS.cps.toList.length = 95 := by decide +kernel
/-! ### the reader -/
section
variable {K : PySem.W.Frag} {C : Addr} {H H' : Hp} {r q : Addr} {xs : List Int} {i j : Nat}
def RdAt (C : Addr) (H : Hp) (r q : Addr) (xs : List Int) (i : Nat) : Prop := (∃ dx, H r = some (.ins C dx [("_octets", .ref q), ("_place", .int (i : Nat))])) ∧ H q = some (.lst (xs.map V.int)) ∧ i ≤ xs.length ∧ r ≠ q
def SmallI (xs : List Int) : Prop := ∀ x ∈ xs, -1000000000000 ≤ x ∧ x ≤ 1000000000000
theorem RdAt.ex (h : RdAt C H r q xs i) (e : Same H H') : RdAt C H' r q xs i := by
  obtain ⟨⟨dx, h1⟩, h2, h3, h4⟩ := h
  exact ⟨⟨dx, e _ _ h1⟩, e _ _ h2, h3, h4⟩
theorem RdAt.but {l : Addr} (h : RdAt C H r q xs i) (e : But l H H') (h1 : r ≠ l) (h2 : q ≠ l) : RdAt C H' r q xs i := by
  obtain ⟨⟨dx, k1⟩, k2, k3, k4⟩ := h
  exact ⟨⟨dx, e _ _ h1 k1⟩, e _ _ h2 k2, k3, k4⟩
theorem RdAt.noTup (h : RdAt C H r q xs i) : NoTup H r := by
  obtain ⟨⟨dx, h1⟩, _⟩ := h
  exact noTup_i h1
/-- a def that reads -/
def spRd {α : Type} (C eB : Addr) (p : Ps α) (res : Hp → V → α → Prop) : Sp := fun vs H Q E => ∃ r q xs i, vs = [.ref r] ∧ RdAt C H r q xs i ∧ SmallI xs ∧
  (∀ v rest, p (xs.drop i) = some (v, rest) → ∀ H' x j, But r H H' → RdAt C H' r q xs j → xs.drop j = rest → res H' x v → Q x H') ∧ (p (xs.drop i) = none → ∀ H', But r H H' → E (.ref eB) none H')
def resI (_ : Hp) (x : V) (v : Int) : Prop := x = .int v ∧ 0 ≤ v ∧ v ≤ 255
def resC (_ : Hp) (x : V) (c : Nat) : Prop := x = .str ⟨#[c]⟩ ∧ c < 128
def resS (_ : Hp) (x : V) (z : Str) : Prop := x = .str z ∧ Asc z ∧ z.length ≤ 255
def resN (K : PySem.W.Frag) (H : Hp) (x : V) (zs : List Str) : Prop := ∃ a, x = .ref a ∧ SqT K H a (zs.map V.str) ∧ nameB zs = true
def resK (_ : Hp) (x : V) (κ : Str) : Prop := x = .str κ
end
end My

set_option Elab.async false
set_option linter.all false
set_option maxRecDepth 100000
set_option maxHeartbeats 4000000
namespace My
open PySem PySem.Spec PyProof.Rows L2
open PySem.W (EachIs)
/-! ### nested keys: what a set asks of them -/
section
variable {P : Program} {w : World}
theorem all_at {h : Heap} : ∀ {ks : List NestedKey} {vs : List Value}, NestedAll h ks vs → ∀ v ∈ vs, ∃ k ∈ ks, NestedIs h k v
  | _, _, .nil, v, hv => by cases hv
  | _, _, .cons h1 h2, v, hv => by
    rcases List.mem_cons.mp hv with rfl | hv
    · exact ⟨_, List.mem_cons_self, h1⟩
    · obtain ⟨k, hk, hi⟩ := all_at h2 v hv
      exact ⟨k, List.mem_cons_of_mem _ hk, hi⟩
theorem depth_le {n : Nat} : ∀ {ks : List NestedKey}, NestedKey.depthAll ks ≤ n → ∀ k ∈ ks, k.depth ≤ n
  | k :: ks, h, x, hx => by
    simp only [NestedKey.depthAll] at h
    rcases List.mem_cons.mp hx with rfl | hx
    · omega
    · exact depth_le (ks := ks) (by omega) x hx
/-- asked of its items, none of them says yes -/
theorem class_no : ∀ (n : Nat) (k : NestedKey) (v : Value) (s : Shared), NestedIs s.heap k v → k.depth ≤ n → ∀ (A : Around) (E : Value → Shared → Prop) (Q : Bool → Shared → Prop), Q false s → wpAny (model P w) A (ofAClassStatement n v) Q E s := by
  intro n
  have plain : ∀ (m : Nat) (v : Value), (∀ a, v ≠ .ref a) → ofAClassStatement m v = pure false := fun m v hv => by
    cases v <;> first | (cases m <;> rfl) | exact absurd rfl (hv _)
  induction n with
  | zero =>
    intro k v s hk hd A E Q q
    cases hk with
    | tup _ _ _ _ => simp only [NestedKey.depth] at hd; omega
    | none => rw [plain _ _ (by intro a z; cases z)]; exact wpAny_pure q
    | bool _ => rw [plain _ _ (by intro a z; cases z)]; exact wpAny_pure q
    | int _ _ => rw [plain _ _ (by intro a z; cases z)]; exact wpAny_pure q
    | text _ _ => rw [plain _ _ (by intro a z; cases z)]; exact wpAny_pure q
  | succ n ih =>
    intro k v s hk hd A E Q q
    cases hk with
    | none => rw [plain _ _ (by intro a z; cases z)]; exact wpAny_pure q
    | bool _ => rw [plain _ _ (by intro a z; cases z)]; exact wpAny_pure q
    | int _ _ => rw [plain _ _ (by intro a z; cases z)]; exact wpAny_pure q
    | text _ _ => rw [plain _ _ (by intro a z; cases z)]; exact wpAny_pure q
    | @tup a o vs m ks ho hc hdat hall =>
      simp only [NestedKey.depth] at hd
      unfold ofAClassStatement
      refine wpAny_bind (wpAny_typeOf ⟨o, ho, hc⟩ ?_)
      dsimp only
      simp only [beq_self_eq_true, if_true, Bool.not_true, Bool.false_eq_true, if_false]
      try refine wpAny_bind (wpAny_pure ?_)
      try simp only [Bool.not_true, Bool.false_eq_true, if_false]
      show wpAny _ _ (seqItems? (.ref a) >>= _) _ _ s
      refine wpAny_bind (wpAny_seqItems ho hdat ?_)
      dsimp only
      refine wpAny_bind ?_
      show wpAny _ _ (forIn vs _ _) _ _ s
      rw [← Array.forIn_toList]
      refine wpAny_forIn_list _ (fun l r t => r.1 = none ∧ t = s ∧ ∀ v ∈ l, v ∈ vs.toList) _ ?_ ?_ _ _ ⟨rfl, rfl, fun v hv => hv⟩
      · rintro v l r t ⟨hr, rfl, hl⟩
        obtain ⟨k', hk', hi⟩ := all_at hall v (hl v List.mem_cons_self)
        refine wpAny_bind (ih k' v t hi (depth_le (by omega) k' hk') A _ _ ?_)
        simp only [Bool.false_eq_true, if_false]
        exact wpAny_pure ⟨rfl, rfl, fun u hu => hl u (List.mem_cons_of_mem _ hu)⟩
      · rintro ⟨r1, r2⟩ t ⟨hr, rfl, _⟩
        simp only at hr
        subst hr
        exact wpAny_pure q
/-- is its hash known by value: yes or no, and nothing else happens -/
theorem byValue_some : ∀ (n : Nat) (k : NestedKey) (v : Value) (s : Shared), NestedIs s.heap k v → ∀ (A : Around) (E : Value → Shared → Prop) (Q : Bool → Shared → Prop), (∀ b, Q b s) → wpAny (model P w) A (hashByValue n v) Q E s := by
  intro n
  induction n with
  | zero =>
    intro k v s hk A E Q q
    cases hk <;> exact wpAny_pure (q _)
  | succ n ih =>
    intro k v s hk A E Q q
    cases hk with
    | none => exact wpAny_pure (q _)
    | bool _ => exact wpAny_pure (q _)
    | int _ _ => exact wpAny_pure (q _)
    | text _ _ => exact wpAny_pure (q _)
    | @tup a o vs m ks ho hc hdat hall =>
      unfold hashByValue
      refine wpAny_bind (wpAny_specialOf ⟨o, ho, hc⟩ F.slot_tuple_hash.lookup ?_)
      show wpAny _ _ (seqItems? (.ref a) >>= _) _ _ s
      refine wpAny_bind (wpAny_seqItems ho hdat ?_)
      refine wpAny_bind ?_
      show wpAny _ _ (forIn vs _ _) _ _ s
      rw [← Array.forIn_toList]
      refine wpAny_forIn_list _ (fun l r t => (r.1 = none ∨ r.1 = some false) ∧ t = s ∧ ∀ v ∈ l, v ∈ vs.toList) _ ?_ ?_ _ _ ⟨.inl rfl, rfl, fun v hv => hv⟩
      · rintro v l r t ⟨hr, rfl, hl⟩
        obtain ⟨k', hk', hi⟩ := all_at hall v (hl v List.mem_cons_self)
        refine wpAny_bind (ih k' v t hi A _ _ fun b => ?_)
        cases b
        · simp only [Bool.not_false, if_true]
          exact wpAny_pure (wpAny_pure (q _))
        · simp only [Bool.not_true, Bool.false_eq_true, if_false]
          exact wpAny_pure ⟨.inl rfl, rfl, fun u hu => hl u (List.mem_cons_of_mem _ hu)⟩
      · rintro ⟨r1, r2⟩ t ⟨hr, rfl, _⟩
        cases r1 with
        | none => exact wpAny_pure (q _)
        | some b => exact wpAny_pure (q _)
/-- a tuple that is such a key, not too deep -/
def TupK (h : Heap) (k : NestedKey) (v : Value) : Prop := NestedIs h k v ∧ k.depth ≤ 7 ∧ ∃ a, v = .ref a
theorem seen_no {A : Around} {E : Value → Shared → Prop} {s : Shared} {k : NestedKey} {x : Value} {Q : Bool → Shared → Prop} (hx : TupK s.heap k x) {ys : List Value} (hy : ∀ y ∈ ys, ∃ k', TupK s.heap k' y) (q : Q false s) : wpAny (model P w) A (searchCouldBeSeen x ys) Q E s := by
  unfold searchCouldBeSeen
  refine wpAny_bind ?_
  refine wpAny_forIn_list _ (fun l r t => r.1 = none ∧ t = s ∧ ∀ y ∈ l, ∃ k', TupK s.heap k' y) _ ?_ ?_ _ _ ⟨rfl, rfl, hy⟩
  · rintro v l r t ⟨hr, rfl, hl⟩
    obtain ⟨k', hv⟩ := hl v List.mem_cons_self
    have next : ∀ u ∈ l, ∃ k', TupK t.heap k' u := fun u hu => hl u (List.mem_cons_of_mem _ hu)
    obtain ⟨i1, d1, b1, rfl⟩ := hx
    obtain ⟨i2, d2, b2, rfl⟩ := hv
    dsimp only
    by_cases c : (b1 == b2 || (carriedByValue (.ref b1) && carriedByValue (.ref b2))) = true
    · exact wp_if_pos c (wpAny_pure ⟨rfl, rfl, next⟩)
    · refine wp_if_neg c ?_
      refine wpAny_bind (quiet_key k _ 8 t i1 (by omega) A _ _ ?_)
      simp only [Bool.not_true, Bool.false_eq_true, if_false]
      refine wpAny_bind (quiet_key k' _ 8 t i2 (by omega) A _ _ ?_)
      simp only [Bool.not_true, Bool.false_eq_true, if_false]
      refine wpAny_bind (class_no 8 k _ t i1 (by omega) A _ _ ?_)
      simp only [Bool.false_eq_true, if_false]
      refine wpAny_bind (class_no 8 k' _ t i2 (by omega) A _ _ ?_)
      simp only [Bool.false_eq_true, if_false]
      exact wpAny_pure ⟨rfl, rfl, next⟩
  · rintro ⟨r1, r2⟩ t ⟨hr, rfl, _⟩
    have hr : r1 = none := hr
    subst hr
    exact wpAny_pure q
/-! ### a set of such tuples -/
abbrev KV := NestedKey × Value
def hashK (w : World) (p : KV) : Int := p.1.hash w
def rowK (w : World) (L : List KV) : List (Int × Value) := L.map fun p => (hashK w p, p.2)
structure SetN (w : World) (h : Heap) (a : Addr) (L : List KV) (es : Array (Int × Value)) (ep : Nat) (t : SetTable) : Prop where
  ob : ∃ o, h.get? a = some o ∧ o.ExactSet ∧ o.data = .set es ep t
  rw : es.toList = rowK w L
  tab : TabOk t (L.map (hashK w))
  nd : (L.map Prod.fst).Nodup
  ok : ∀ p ∈ L, TupK h p.1 p.2
  led : w.params.followText "set-order" = true ∨ t.led = true
  free : L.length * 5 < t.mask * 3
  few : L.length < 64
section
variable {A : Around} {E : Value → Shared → Prop} {s : Shared} {a : Addr} {L : List KV} {es : Array (Int × Value)} {ep : Nat} {t : SetTable}
theorem SetN.len {h : Heap} (R : SetN w h a L es ep t) : es.size = L.length := by
  rw [← Array.length_toList, R.rw]
  simp [rowK]
theorem SetN.fit {h : Heap} (R : SetN w h a L es ep t) : t.fits es.size = true := by
  have z1 : t.place.size = L.length := by have := R.tab.sz; simpa using this
  have z2 := R.free
  unfold SetTable.fits SetTable.fill
  rw [R.tab.dm, R.len, Bool.and_eq_true, beq_iff_eq, decide_eq_true_iff]
  refine ⟨z1, ?_⟩
  show t.place.size + 0 ≤ _
  omega
theorem SetN.row {h : Heap} (R : SetN w h a L es ep t) {i : Nat} {p : KV} (hp : L[i]? = some p) : es[i]? = some (hashK w p, p.2) := by
  rw [← Array.getElem?_toList, R.rw]
  unfold rowK
  rw [List.getElem?_map, hp]
  rfl
/-- where the search for k stands after c steps -/
abbrev posK (t : SetTable) (h : Int) (c : Nat) : SetTable.Probe := nth t.mask (runAt t.mask (SetTable.bits h % (t.mask + 1)) (SetTable.bits h)) c
theorem pos_dummy (t : SetTable) (h : Int) : ∀ c, (posK t h c).dummy = none
  | 0 => rfl
  | c + 1 => by
    rw [show posK t h (c + 1) = adv t.mask (posK t h c) from nth_succ _ _ _]
    have ih := pos_dummy t h c
    unfold adv
    split <;> exact ih
theorem look_go (R : SetN w s.heap a L es ep t) {x : Value} {k : NestedKey} (hx : TupK s.heap k x) (hu : A.units + 16 < cLine) {K : Nat} (hK0 : K < 10 * SetTable.turns t.mask)
    (hK : way t.mask (k.hash w) K ∉ t.place.toList) (hK1 : ∀ c, c < K → way t.mask (k.hash w) c ∈ t.place.toList) {Q : SetFound → Shared → Prop}
    (yes : k ∈ L.map Prod.fst → Q (.there none) s) (no : k ∉ L.map Prod.fst → Q (.free (way t.mask (k.hash w) K) false) s) :
    ∀ (f c : Nat) (st : Option SetTable.Probe), st.getD (t.probeStart (k.hash w)) = posK t (k.hash w) c → c ≤ K → K - c < f →
      (∀ (i : Nat) (p : KV), L[i]? = some p → p.1 = k → ∃ c', c ≤ c' ∧ c' < K ∧ t.place.toList[i]? = some (way t.mask (k.hash w) c')) →
      wpAny (model P w) A (setSearchFrom a x (k.hash w) true f st) Q E s := by
  intro f
  induction f with
  | zero => intro c st _ _ h; exact absurd h (Nat.not_lt_zero _)
  | succ f ih =>
    intro c st e0 hc hf ahead
    obtain ⟨o, ho, hex, hd⟩ := R.ob
    have hgw : ¬ t.gaveWay = true := by
      unfold SetTable.gaveWay
      rw [mask_odd R.tab.mok]
      decide
    rw [setSearchFrom_succ]
    refine wpAny_bind (wpAny_setState_of ho hd R.fit ?_)
    dsimp only
    refine wp_if_neg hgw ?_
    try refine wpAny_bind (wpAny_pure ?_)
    have shift : ∀ q, nth t.mask (posK t (k.hash w) c) q = posK t (k.hash w) (c + q) := fun q => (nth_add _ _ _ _).symm
    have hashes : ∀ (i : Nat) (p : KV), L[i]? = some p → (es[i]?.map (·.1)).getD 0 = p.1.hash w := fun i p hp => by
      rw [R.row hp]
      rfl
    have met := go_spec t R.tab.ris R.tab.dm (fun i => (es[i]?.map (·.1)).getD 0) (k.hash w) (10 * SetTable.turns t.mask) (K - c) (posK t (k.hash w) c) (pos_dummy t _ c) (by omega)
      (fun q hq => by rw [shift]; exact hK1 (c + q) (by omega)) (by rw [shift, show c + (K - c) = K by omega]; exact hK)
    rcases met with ⟨q, i, hq, hi, hh, hno, hpr⟩ | ⟨hno, hpr⟩
    · rw [shift] at hi hpr
      rw [shift] at hpr
      have hpr : t.probe (fun i => (es[i]?.map (·.1)).getD 0) (k.hash w) (st.getD (t.probeStart (k.hash w))) = some (.candidate (way t.mask (k.hash w) (c + q)) i (posK t (k.hash w) (c + (q + 1)))) := by
        rw [e0]
        exact hpr
      rw [hpr]
      dsimp only
      have hi2 : i < L.length := by
        have z1 := (List.getElem?_eq_some_iff.mp hi).1
        have z2 := R.tab.sz
        rw [List.length_map] at z2
        rw [Array.length_toList] at z1
        omega
      obtain ⟨p, hp⟩ : ∃ p, L[i]? = some p := ⟨_, List.getElem?_eq_getElem hi2⟩
      have hm := List.mem_of_getElem? hp
      obtain ⟨y1, y2, b, hb⟩ := R.ok p hm
      have cmp : wpAny (model P w) A (searchRest a x (k.hash w) true f es t (way t.mask (k.hash w) (c + q)) i (posK t (k.hash w) (c + (q + 1)))) Q E s := by
        unfold searchRest
        rw [R.row hp]
        dsimp only
        refine wpAny_bind (wpAny_holding (eqAt_key p.1 k A s p.2 x y1 hx.1 (by have := hx.2.1; omega) _ _ _ _ ?_))
        refine wpAny_bind (wpAny_setState_of ho hd R.fit ?_)
        dsimp only
        rw [← NestedKey.decide_eq]
        by_cases same : p.1 = k
        · rw [decide_eq_true same]
          refine wp_if_pos rfl (wpAny_pure (yes ?_))
          exact List.mem_map.mpr ⟨p, hm, same⟩
        · rw [decide_eq_false same]
          refine wp_if_neg (by decide) ?_
          try refine wpAny_bind (wpAny_pure ?_)
          rw [sameMem]
          dsimp only
          have live : t.slot (way t.mask (k.hash w) (c + q)) = .live i := slot_live R.tab.ris hi
          simp only [if_true, live, R.row hp]
          rw [hb]
          refine wpAny_bind (wpAny_isSame_ref_self (wpAny_bind (wpAny_pure ?_)))
          simp only [if_true]
          refine wp_if_neg (by decide) ?_
          refine ih (c + (q + 1)) _ rfl (by omega) (by omega) fun i0 p0 h0 hk0 => ?_
          obtain ⟨c', a1, a2, a3⟩ := ahead i0 p0 h0 hk0
          refine ⟨c', ?_, a2, a3⟩
          have z1 : ¬ c' < c + q := fun z => hno (c' - c) i0 (by omega) (by rw [shift, show c + (c' - c) = c' by omega]; exact a3) (by rw [hashes i0 p0 h0, hk0])
          have z2 : c' ≠ c + q := fun z => by
            rw [z] at a3
            have live0 := slot_live R.tab.ris a3
            rw [live] at live0
            cases live0
            rw [hp] at h0
            cases h0
            exact same hk0
          omega
      by_cases hl : t.led = true
      · refine wp_if_neg (by simp [hl]) ?_
        try refine wpAny_bind (wpAny_pure ?_)
        exact cmp
      · refine wp_if_pos (by simp [hl]) ?_
        refine wpAny_bind (seen_no hx (fun y hy => ?_) ?_)
        · obtain ⟨e, he, ee⟩ := List.mem_map.mp hy
          have he1 : e ∈ es.toList := by
            have : e ∈ es ∧ e.1 = k.hash w := by simpa using he
            simpa using this.1
          rw [R.rw] at he1
          obtain ⟨p2, hp2, e2⟩ := List.mem_map.mp he1
          refine ⟨p2.1, ?_⟩
          rw [← ee, ← e2]
          exact R.ok p2 hp2
        · refine wp_if_neg (by decide) ?_
          try refine wpAny_bind (wpAny_pure ?_)
          exact cmp
    · rw [shift, show c + (K - c) = K by omega] at hpr
      have hpr : t.probe (fun i => (es[i]?.map (·.1)).getD 0) (k.hash w) (st.getD (t.probeStart (k.hash w))) = some (.empty (way t.mask (k.hash w) K) none) := by
        rw [e0]
        exact hpr
      rw [hpr]
      dsimp only
      refine wpAny_pure (no fun hm => ?_)
      obtain ⟨p0, h0, hk0⟩ := List.mem_map.mp hm
      obtain ⟨i0, hi0⟩ := List.mem_iff_getElem?.mp h0
      obtain ⟨c', a1, a2, a3⟩ := ahead i0 p0 hi0 hk0
      exact hno (c' - c) i0 (by omega) (by rw [shift, show c + (c' - c) = c' by omega]; exact a3) (by rw [hashes i0 p0 hi0, hk0])
theorem look_at (R : SetN w s.heap a L es ep t) {x : Value} {k : NestedKey} (hx : TupK s.heap k x) (hu : A.units + 16 < cLine) {Q : SetFound → Shared → Prop} (yes : k ∈ L.map Prod.fst → Q (.there none) s)
    (no : ∀ K, k ∉ L.map Prod.fst → way t.mask (k.hash w) K ∉ t.place.toList → (∀ c, c < K → way t.mask (k.hash w) c ∈ t.place.toList) → Q (.free (way t.mask (k.hash w) K) false) s) : wpAny (model P w) A (setSearch a x (k.hash w) true) Q E s := by
  have hfree := R.free
  have hm : (L.map (hashK w)).length ≤ t.mask := by rw [List.length_map]; omega
  obtain ⟨K, h1, h2, h3⟩ := R.tab.first hm (k.hash w)
  have hturn : 10 * SetTable.turns t.mask ≤ 1420 := by
    unfold SetTable.turns
    rcases R.tab.mok with e | e | e <;> omega
  unfold setSearch
  refine look_go R hx hu h1 h2 h3 yes (fun n => no K n h2 h3) 100000 0 none rfl (Nat.zero_le _) (by omega) fun i p hp hk => ?_
  have hh : (L.map (hashK w))[i]? = some (k.hash w) := by
    rw [List.getElem?_map, hp, ← hk]
    rfl
  have hi : i < t.place.toList.length := by
    have z := (List.getElem?_eq_some_iff.mp hh).1
    rw [Array.length_toList, R.tab.sz]
    exact z
  have hj := List.getElem?_eq_getElem hi
  obtain ⟨c, hc, e⟩ := R.tab.before h2 hh hj
  exact ⟨c, Nat.zero_le _, hc, by rw [hj, e]⟩
/-! adding -/
theorem range_all {α : Type} : ∀ L : List α, ((List.range L.length).filterMap fun i => L[i]?) = L
  | [] => rfl
  | x :: L => by
    rw [List.length_cons, List.range_succ_eq_map, List.filterMap_cons]
    show x :: _ = _
    rw [List.filterMap_map]
    exact congrArg (x :: ·) (range_all L)
theorem in_order {L : List KV} {es : Array (Int × Value)} {order : Array Nat} (hr : es.toList = rowK w L) (hp : order.toList.Perm (List.range L.length)) :
    ∃ L2 : List KV, (order.filterMap (es[·]?)).toList = rowK w L2 ∧ L2.Perm L ∧ L2.map (hashK w) = order.toList.map fun i => (es.map (·.1)).getD i 0 := by
  have at_i : ∀ i, es[i]? = (L[i]?).map fun p => (hashK w p, p.2) := fun i => by
    rw [← Array.getElem?_toList, hr]
    unfold rowK
    rw [List.getElem?_map]
  have lt : ∀ i ∈ order.toList, i < L.length := fun i hi => List.mem_range.mp (hp.mem_iff.mp hi)
  refine ⟨order.toList.filterMap fun i => L[i]?, ?_, ?_, ?_⟩
  · rw [Array.toList_filterMap]
    unfold rowK
    rw [List.map_filterMap]
    exact congrFun (congrArg _ (funext fun i => at_i i)) _
  · have h := hp.filterMap fun i => L[i]?
    rw [range_all] at h
    exact h
  · have key : ∀ l : List Nat, (∀ i ∈ l, i < L.length) → (l.filterMap fun i => L[i]?).map (hashK w) = l.map fun i => (es.map (·.1)).getD i 0 := fun l => by
      induction l with
      | nil => intro _; rfl
      | cons i l ih =>
        intro h
        obtain ⟨p, hi⟩ : ∃ p, L[i]? = some p := ⟨_, List.getElem?_eq_getElem (h i List.mem_cons_self)⟩
        have e : (es.map (·.1)).getD i 0 = hashK w p := by
          rw [Array.getD_eq_getD_getElem?, Array.getElem?_map, at_i, hi]
          rfl
        rw [List.filterMap_cons, hi, List.map_cons, List.map_cons, ih fun j hj => h j (List.mem_cons_of_mem _ hj), e]
    exact key _ lt
theorem TupK.but {h h' : Heap} {k : NestedKey} {v : Value} {a : Addr} {o : Obj} {es : Array (Int × Value)} {ep : Nat} {t : SetTable} (x : TupK h k v) (ho : h.get? a = some o) (hd : o.data = .set es ep t) (sb : Heap.SameBut a h h') : TupK h' k v := by
  refine ⟨NestedIs.at (fun b u vs n hb hq => (sb.2 b fun z => ?_).trans hb) _ _ x.1, x.2⟩
  subst z
  rw [ho] at hb
  cases hb
  rw [hd] at hq
  cases hq
/-- the table is laid anew -/
theorem wider {o : Obj} (ho : s.heap.get? a = some o) (hex : o.ExactSet) (hd : o.data = .set es ep t) (hr : es.toList = rowK w L) (sz : t.place.size = es.size) (dm : t.dummies = #[]) (fl : es.size ≤ t.mask) (nd : (L.map Prod.fst).Nodup) (ok : ∀ p ∈ L, TupK s.heap p.1 p.2)
    (led : w.params.followText "set-order" = true ∨ t.led = true) (few : L.length < 64) {wanted M : Nat} (hw : SetTable.sizeAbove wanted - 1 = M) (hM : MaskOk M) (h128 : SetTable.sizeAbove wanted ≤ 128) (room : L.length * 5 < M * 3) {Q : Unit → Shared → Prop}
    (q : ∀ h' L' es' ep' t', Heap.SameBut a s.heap h' → SetN w h' a L' es' ep' t' → L'.Perm L → Q () { s with heap := h' }) : wpAny (model P w) A (setRelay a wanted) Q E s := by
  have n1 : es.size = L.length := by
    rw [← Array.length_toList, hr]
    simp [rowK]
  have fit : t.fits es.size = true := by
    unfold SetTable.fits SetTable.fill
    rw [dm, Bool.and_eq_true, beq_iff_eq, decide_eq_true_iff]
    refine ⟨sz, ?_⟩
    show t.place.size + 0 ≤ _
    omega
  obtain ⟨t2, order, e, hp, T2, em, el, _, _⟩ := relaid_ok t (hs := es.map (·.1)) (wanted := wanted) hw hM (by rw [Array.size_map]; omega)
  rw [Array.size_map, n1] at hp
  obtain ⟨L2, r1, r2, r3⟩ := in_order (w := w) hr hp
  rw [← r3] at T2
  have n2 : (order.filterMap (es[·]?)).size = es.size := by
    rw [← Array.length_toList, r1, n1, ← r2.length_eq]
    simp [rowK]
  rw [setRelay_eq]
  refine wpAny_bind (wpAny_setState_of ho hd fit ?_)
  dsimp only
  refine wp_if_neg (by rw [sizeLine_eq]; omega) ?_
  try refine wpAny_bind (wpAny_pure ?_)
  rw [e]
  dsimp only
  refine wpAny_bind ?_
  refine wp_if_neg (by rw [n2]; simp) ?_
  try refine wpAny_bind (wpAny_pure ?_)
  refine wpAny_pure ?_
  dsimp only
  refine wpAny_storeSet_of ho hd ?_ (by rw [n2, n1, sizeLine_eq]; omega)
  have sb : Heap.SameBut a s.heap (s.heap.update a (Obj.putSet (order.filterMap (es[·]?)) t2)) := Heap.SameBut.update ..
  refine q _ L2 _ (ep + 1) t2 sb ⟨⟨_, store_at ho hd, hex, rfl⟩, r1, T2, (r2.map _).nodup_iff.mpr nd, fun p hm => (ok p (r2.mem_iff.mp hm)).but ho hd sb, by rw [el]; exact led, by rw [r2.length_eq, em]; exact room, by rw [r2.length_eq]; exact few⟩ r2
theorem add_n (R : SetN w s.heap a L es ep t) {x : Value} {k : NestedKey} (hx : TupK s.heap k x) (hu : A.units + 16 < cLine) (few : L.length + 1 < 64) {Q : Bool → Shared → Prop}
    (q : ∀ b h' L' es' ep' t', Heap.SameBut a s.heap h' → SetN w h' a L' es' ep' t' → (k ∈ L.map Prod.fst → L' = L) → (k ∉ L.map Prod.fst → L'.Perm ((k, x) :: L)) → Q b { s with heap := h' }) : wpAny (model P w) A (setAddHashed a x (k.hash w)) Q E s := by
  obtain ⟨o, ho, hex, hd⟩ := R.ob
  have n1 := R.len
  have fr := R.free
  obtain ⟨i1, i2, b0, hb0⟩ := id hx
  unfold setAddHashed
  refine wpAny_holding ?_
  rw [show (100000 : Nat) = 99999 + 1 from rfl, setAddHashedIn_succ]
  refine wpAny_bind (wpAny_setState_of ho hd R.fit ?_)
  dsimp only
  refine wp_if_neg (by rw [hb0]; simp [byScan, Value.scannable]) ?_
  try refine wpAny_bind (wpAny_pure ?_)
  refine wpAny_bind (look_at R hx hu (fun yes => ?_) fun K no hK hK1 => ?_)
  · dsimp only
    exact wpAny_pure (q false s.heap L es ep t (Heap.SameBut.refl a s.heap) R (fun _ => rfl) fun z => absurd yes z)
  · dsimp only
    refine wpAny_bind (wpAny_setState_of ho hd R.fit ?_)
    dsimp only
    obtain ⟨q1, q2, q3, q4, q5, q6, q7, q8, q9⟩ := R.tab.put hK hK1
    obtain ⟨pt, ept⟩ : ∃ pt, pt = t.put (way t.mask (k.hash w) K) := ⟨_, rfl⟩
    rw [← ept] at q1 q3 q4 q5 q6 q9 ⊢
    obtain ⟨t1, pl⟩ := pt
    dsimp only at q1 q3 q4 q5 q6 q9 ⊢
    subst q1
    have ins : (SetTable.insertAt es (SetTable.below t.place (way t.mask (k.hash w) K)) (k.hash w, x)).toList = rowK w (L.take (SetTable.below t.place (way t.mask (k.hash w) K)) ++ (k, x) :: L.drop (SetTable.below t.place (way t.mask (k.hash w) K))) := by
      rw [SetTable.toList_insertAt, R.rw]
      unfold rowK
      rw [List.map_append, List.map_cons, List.map_take, List.map_drop]
      rfl
    obtain ⟨pl, epl⟩ : ∃ pl, pl = SetTable.below t.place (way t.mask (k.hash w) K) := ⟨_, rfl⟩
    rw [← epl] at q2 q3 ins ⊢
    have pm : (L.take pl ++ (k, x) :: L.drop pl).Perm ((k, x) :: L) := put_perm L pl (k, x)
    obtain ⟨L1, eL1⟩ : ∃ L1, L1 = L.take pl ++ (k, x) :: L.drop pl := ⟨_, rfl⟩
    have eh : L1.map (hashK w) = (L.map (hashK w)).take pl ++ k.hash w :: (L.map (hashK w)).drop pl := by
      rw [eL1, List.map_append, List.map_cons, List.map_take, List.map_drop]
      rfl
    rw [← eh] at q3
    rw [← eL1] at ins pm
    have n2 : L1.length = L.length + 1 := pm.length_eq
    obtain ⟨es1, ees⟩ : ∃ es1, es1 = SetTable.insertAt es pl (k.hash w, x) := ⟨_, rfl⟩
    rw [← ees] at ins ⊢
    have n3 : es1.size = L.length + 1 := by
      rw [← Array.length_toList, ins, ← n2]
      simp [rowK]
    have nd1 : (L1.map Prod.fst).Nodup := (pm.map _).nodup_iff.mpr (List.nodup_cons.mpr ⟨no, R.nd⟩)
    have rest : ∀ t2 : SetTable, t2.place = t1.place → t2.dummies = t1.dummies → t2.mask = t1.mask → t2.led = t1.led → t2.tooFull = t1.tooFull → TabOk t2 (L1.map (hashK w)) →
        wpAny (model P w) A (do
          storeSet a es1 t2
          if !false && t2.tooFull then setRelay a (SetTable.grown (es.size + 1))
          return true) Q E s := by
      intro t2 u1 u2 u3 u4 u5 T2
      refine wpAny_bind (wpAny_storeSet_of ho hd ?_ (by rw [n3, sizeLine_eq]; omega))
      have sb : Heap.SameBut a s.heap (s.heap.update a (Obj.putSet es1 t2)) := Heap.SameBut.update ..
      have ho1 := store_at (es' := es1) (t' := t2) ho hd
      obtain ⟨h1, eh1⟩ : ∃ h1, h1 = s.heap.update a (Obj.putSet es1 t2) := ⟨_, rfl⟩
      rw [← eh1] at sb ho1 ⊢
      have ok1 : ∀ p ∈ L1, TupK h1 p.1 p.2 := fun p hp => by
        rcases List.mem_cons.mp (pm.mem_iff.mp hp) with z | z
        · rw [z]; exact hx.but ho hd sb
        · exact (R.ok p z).but ho hd sb
      have led1 : w.params.followText "set-order" = true ∨ t2.led = true := by rw [u4, q5]; exact R.led
      by_cases full : t2.tooFull = true
      · have big : (L.length + 1) * 5 ≥ t.mask * 3 := by
          have z := full
          rw [u5] at z
          unfold SetTable.tooFull at z
          rw [decide_eq_true_iff, q9, List.length_map, q4] at z
          exact z
        have which : (t.mask = 7 ∧ L.length = 4) ∨ (t.mask = 31 ∧ L.length = 18) := by
          rcases R.tab.mok with e | e | e
          · exact .inl ⟨e, by omega⟩
          · exact .inr ⟨e, by omega⟩
          · omega
        have go : ∀ M, SetTable.sizeAbove (SetTable.grown (L.length + 1)) - 1 = M → MaskOk M → SetTable.sizeAbove (SetTable.grown (L.length + 1)) ≤ 128 → (L.length + 1) * 5 < M * 3 →
            wpAny (model P w) A (setRelay a (SetTable.grown (L.length + 1))) (fun _ s' => wpAny (model P w) A (pure true) Q E s') E { s with heap := h1 } := fun M m1 m2 m3 m4 => by
          refine wider (s := { s with heap := h1 }) ho1 hex rfl ins (by have := T2.sz; rw [List.length_map, n2] at this; rw [this, n3]) T2.dm (by rw [n3, u3, q4]; rcases which with ⟨z, z2⟩ | ⟨z, z2⟩ <;> omega) nd1 ok1 led1 (by omega) m1 m2 m3 (by rw [n2]; exact m4) fun h2 L2 es2 ep2 t3 sb2 R2 pm2 => ?_
          exact wpAny_pure (q true h2 L2 es2 ep2 t3 (sb.trans sb2) R2 (fun z => absurd z no) fun _ => pm2.trans pm)
        rw [n1]
        first
          | (refine wpAny_bind ?_; refine wp_if_pos (by simp [full]) ?_)
          | (refine wp_if_pos (by simp [full]) ?_; refine wpAny_bind ?_)
        rcases which with ⟨_, z⟩ | ⟨_, z⟩
        · exact go 31 (by rw [z, size_20]) (.inr (.inl rfl)) (by rw [z, size_20]; decide) (by omega)
        · exact go 127 (by rw [z, size_76]) (.inr (.inr rfl)) (by rw [z, size_76]; decide) (by omega)
      · first
          | refine wp_if_neg (by simp [full]) ?_
          | (refine wpAny_bind ?_; refine wp_if_neg (by simp [full]) ?_; refine wpAny_pure ?_)
        refine wpAny_pure (q true h1 L1 es1 (ep + 1) t2 sb ⟨⟨_, ho1, hex, rfl⟩, ins, T2, nd1, ok1, led1, ?_, by omega⟩ (fun z => absurd z no) fun _ => pm)
        have z := full
        rw [u5] at z
        unfold SetTable.tooFull at z
        rw [decide_eq_true_iff, q9, List.length_map] at z
        rw [u3, n2]
        omega
    have T1b : ∀ b, TabOk { t1 with plain := b } (L1.map (hashK w)) := fun b => ⟨q3.ris, q3.dm, q3.sz, q3.mok, q3.bd, q3.reach⟩
    by_cases pp : t1.plain = true
    · first
        | (refine wpAny_bind ?_; refine wp_if_pos pp ?_)
        | (refine wp_if_pos pp ?_; refine wpAny_bind ?_)
      refine byValue_some 8 k x s i1 A _ _ fun b => ?_
      cases b
      · simp only [Bool.false_eq_true, if_false]
        exact rest { t1 with plain := false } rfl rfl rfl rfl rfl (T1b false)
      · simp only [if_true]
        exact rest t1 rfl rfl rfl rfl rfl q3
    · first
        | (refine wpAny_bind ?_; refine wp_if_neg pp ?_; refine wpAny_pure ?_)
        | (refine wp_if_neg pp ?_; refine wpAny_bind ?_; refine wpAny_pure ?_)
      simp only [if_true]
      exact rest t1 rfl rfl rfl rfl rfl q3
end
end
end My

set_option Elab.async false
set_option linter.all false
set_option maxRecDepth 100000
set_option maxHeartbeats 4000000
namespace My
open PySem PySem.Spec PyProof.Rows L2
open C8 (tCut pss_cut)
/-! ### max(a, b, key=len) of two tuples -/
section
variable {prog : Program} {w : World} {A : Around} {E : Value → Shared → Prop} {s : Shared}
theorem args_max2key (a b v : Value) : argsOk "max" ⟨[a, b], [(Str.ofString "key", v)]⟩ := by unfold argsOk; kernel_rfl
theorem max_two_len {p q : Addr} {xs ys : Array Value} {Q : Value → Shared → Prop} (hh : A.handled = none) (hp : IsTup s.heap p xs) (hq : IsTup s.heap q ys) (hx : (xs.size : Int) < 2 ^ 63) (hy : (ys.size : Int) < 2 ^ 63)
    (h : ∀ h' tk, (∀ c o, s.heap.get? c = some o → h'.get? c = some o) → Q (if ys.size > xs.size then .ref q else .ref p) { s with heap := h', toks := tk }) :
    wpAny (model prog w) A (call (.builtin "max") [.ref p, .ref q] [(Str.ofString "key", .builtin "len")]) Q E s := by
  have hname : (toString "max" ++ toString ".loop" : String) = "max.loop" := by decide
  refine PyProof.Rows.kmk_tree F.kind_max F.plain_max F.entry_max (args_max2key _ _ _) ?_
  show wpAny _ A.in1 (Builtin.Builtins.bindParams "max" ["key", "default"] 0 ⟨[], [(Str.ofString "key", .builtin "len")]⟩ >>= _) _ _ s
  refine wpAny_bind (wpAny_of_eq (show Builtin.Builtins.bindParams "max" ["key", "default"] 0 ⟨[], [(Str.ofString "key", .builtin "len")]⟩ = pure [some (.builtin "len"), none] from rfl) ?_)
  show wpAny _ A.in1 (newTuple [.ref p, .ref q] >>= _) _ _ s
  refine wpAny_bind (wpAny_newObj_type ?_)
  obtain ⟨t, et⟩ : ∃ t, t = s.heap.objs.size := ⟨_, rfl⟩
  obtain ⟨h1, e1⟩ : ∃ h1, h1 = s.heap.push { cls := .type "tuple", data := .seq #[.ref p, .ref q] } := ⟨_, rfl⟩
  have k1 : ∀ c o, s.heap.get? c = some o → h1.get? c = some o := fun c o e => by rw [e1]; exact Heap.get?_push_of_some _ e
  have z1 : h1.objs.size = t + 1 := by rw [e1, et]; exact Heap.size_push ..
  have hT : h1.IsTuple t #[.ref p, .ref q] := by rw [e1, et]; exact ⟨_, Heap.get?_push_size _ rfl, rfl, 0, rfl⟩
  rw [← e1, ← et]
  refine wpAny_bind (wpAny_pyIter_tuple hT ?_)
  show wpAny _ _ _ _ _ { s with heap := h1.push { cls := .type "tuple_iterator", data := .fields #[.ref t, .int 0 0] } }
  obtain ⟨h2, e2⟩ : ∃ h2, h2 = h1.push { cls := .type "tuple_iterator", data := .fields #[.ref t, .int 0 0] } := ⟨_, rfl⟩
  obtain ⟨I, eI⟩ : ∃ I, I = h1.objs.size := ⟨_, rfl⟩
  have k2 : ∀ c o, h1.get? c = some o → h2.get? c = some o := fun c o e => by rw [e2]; exact Heap.get?_push_of_some _ e
  have z2 : h2.objs.size = I + 1 := by rw [e2, eI]; exact Heap.size_push ..
  have hI : h2.IsTupleIter I t 0 := by rw [e2, eI]; exact ⟨_, Heap.get?_push_size _ rfl, rfl, rfl⟩
  rw [← e2]
  show wpAny _ A.in1 (newList [] >>= _) _ _ _
  refine wpAny_bind (wpAny_newObj_type ?_)
  show wpAny _ _ _ _ _ { s with heap := h2.push { cls := .type "list", data := .seq #[] } }
  rw [hname]
  obtain ⟨S, eS⟩ : ∃ S, S = h2.objs.size := ⟨_, rfl⟩
  obtain ⟨h3, e3⟩ : ∃ h3, h3 = h2.push { cls := .type "list", data := .seq #[] } := ⟨_, rfl⟩
  have k3 : ∀ c o, h2.get? c = some o → h3.get? c = some o := fun c o e => by rw [e3]; exact Heap.get?_push_of_some _ e
  have hS : h3.get? S = some { cls := .type "list", dict := none, data := .seq #[] 0, slots := #[] } := by rw [e3, eS]; exact Heap.get?_push_size _ rfl
  have old : ∀ c o, s.heap.get? c = some o → c ≠ S ∧ c ≠ I := fun c o e => by
    have hc : @LT.lt Nat _ c s.heap.objs.size := Heap.lt_size e
    refine ⟨fun z => ?_, fun z => ?_⟩
    · have z : @Eq Nat c S := z
      omega
    · have z : @Eq Nat c I := z
      omega
  have tI : t ≠ I := fun z => by
    have z : @Eq Nat t I := z
    omega
  have SI : S ≠ I ∧ S ≠ t := ⟨fun z => by
    have z : @Eq Nat S I := z
    omega, fun z => by
    have z : @Eq Nat S t := z
    omega⟩
  have hW := Walks.tuple (prog := prog) (w := w) (A := A.in1) hh I t tI #[.ref p, .ref q]
  have hsz : (#[Value.ref p, Value.ref q] : Array Value).size = 2 := rfl
  rw [hsz] at hW
  refine wpAny_pure ⟨plainId_quiet F.plain_max_loop _, ?_⟩
  rw [← e3, ← eI, ← eS]
  have kv : ∀ i v, (#[Value.ref p, Value.ref q] : Array Value)[i]? = some v → i < 2 → (i = 0 ∧ v = .ref p) ∨ (i = 1 ∧ v = .ref q) := fun i v e hi => by
    rcases (by omega : i = 0 ∨ i = 1) with rfl | rfl
    · exact .inl ⟨rfl, by simpa using e.symm⟩
    · exact .inr ⟨rfl, by simpa using e.symm⟩
  refine codeAny_max_loop_firstKB (q := "len") (A := A) (J := fun s' => (∀ c o, s.heap.get? c = some o → s'.heap.get? c = some o) ∧ s'.gens = s.gens ∧ s'.drawn = s.drawn ∧ s'.os = s.os)
    (V := fun i k _ => ∃ u, k = .int ((if i = 0 then xs.size else ys.size : Nat) : Int) u) (bt := fun i j => decide (((if i = 0 then xs.size else ys.size : Nat) : Int) > ((if j = 0 then xs.size else ys.size : Nat) : Int)))
    hW.toS S (by simp [SI.1, SI.2]) ⟨?_, ?_, ?_, ?_⟩ [] (by decide) (s := { s with heap := h3 }) ⟨fun c o e => k3 c o (k2 c o (k1 c o e)), rfl, rfl, rfl⟩ ⟨hI.at fun o e => k3 _ o e, (hT.at fun o e => k3 _ o (k2 _ o e))⟩ hS ?_
  · rintro s1 s2 ⟨a1, a2, a3, a4⟩ m
    refine ⟨fun c o e => m.heap c o ?_ (a1 c o e), m.gens.trans a2, m.drawn.trans a3, m.os.trans a4⟩
    have := old c o e
    simp [this.1, this.2]
  · rintro i k s1 s2 h _
    exact h
  · rintro i v s1 o Q' E' hi hv ⟨a1, a2, a3, a4⟩ hst hS1 hq'
    rcases kv i v hv hi with ⟨rfl, rfl⟩ | ⟨rfl, rfl⟩
    · obtain ⟨op, h1, h2, n, h3⟩ := id hp
      exact len_tuple (t := p) (items := xs) ⟨op, a1 _ _ h1, h2, n, h3⟩ hx (hq' _ _ ⟨a1, a2, a3, a4⟩ hst hS1 ⟨_, rfl⟩ fun _ _ h => h)
    · obtain ⟨op, h1, h2, n, h3⟩ := id hq
      exact len_tuple (t := q) (items := ys) ⟨op, a1 _ _ h1, h2, n, h3⟩ hy (hq' _ _ ⟨a1, a2, a3, a4⟩ hst hS1 ⟨_, rfl⟩ fun _ _ h => h)
  · rintro i j ki kj s1 Q' E' _ ⟨u1, rfl⟩ ⟨u2, rfl⟩ hq'
    exact CmpOf.ints_gt (prog := prog) (w := w) (A := A.in1) (P := fun i v => ∃ u, v = .int ((if i = 0 then xs.size else ys.size : Nat) : Int) u) (fun i => ((if i = 0 then xs.size else ys.size : Nat) : Int)) (fun _ _ h => h) i j _ _ s1 Q' E' ⟨u1, rfl⟩ ⟨u2, rfl⟩ hq'
  · rintro v s1 hv ⟨a1, a2, a3, a4⟩
    have es : s1 = { s with heap := s1.heap, toks := s1.toks } := by
      obtain ⟨x1, x2, x3, x4, x5⟩ := s1
      dsimp only at a2 a3 a4
      rw [a2, a3, a4]
    rw [es]
    have hb : argBest (fun i j => decide (((if i = 0 then xs.size else ys.size : Nat) : Int) > ((if j = 0 then xs.size else ys.size : Nat) : Int))) 1 = if ys.size > xs.size then 1 else 0 := by
      simp only [argBest]
      by_cases c : ys.size > xs.size
      · simp [c]
      · simp [c]
    have e21 : (2 : Nat) - 1 = 1 := rfl
    rw [e21, hb] at hv
    have hfin := h s1.heap s1.toks a1
    by_cases c : ys.size > xs.size
    · rw [if_pos c] at hv hfin
      have : v = .ref q := by simpa using hv.symm
      rw [this]; exact hfin
    · rw [if_neg c] at hv hfin
      have : v = .ref p := by simpa using hv.symm
      rw [this]; exact hfin
end
section
variable {X : Cx} {a b : Expr} {ta tb : TE} {p p2 p3 pos : Pos}
def MaxLenR (K : PySem.W.Frag) (x y : V) (H : Hp) (Q : VK) : Prop := ∃ p q xs ys, x = .ref p ∧ y = .ref q ∧ SqT K H p xs ∧ SqT K H q ys ∧ Q (if ys.length > xs.length then .ref q else .ref p) H
def tMaxLen (K : PySem.W.Frag) (ta tb : TE) : TE := fun σ H Q => ta σ H fun x H1 => tb σ H1 fun y H2 => MaxLenR K x y H2 Q
theorem r_maxLen {K : PySem.W.Frag} {σ : L2.St} {H : Hp} {Q : VK} (h : ta σ H fun x H1 => tb σ H1 fun y H2 => MaxLenR K x y H2 Q) : tMaxLen K ta tb σ H Q := h
theorem r_maxLen1 {K : PySem.W.Frag} {H : Hp} {Q : VK} {p q : Addr} {xs ys : List V} (hp : SqT K H p xs) (hq : SqT K H q ys) (h : Q (if ys.length > xs.length then .ref q else .ref p) H) : MaxLenR K (.ref p) (.ref q) H Q := ⟨p, q, xs, ys, rfl, rfl, hp, hq, h⟩
theorem pe_maxLen (hc : X.calm = true) (hg : Gl X "max") (hm : X.mg "max" = none) (hg2 : Gl X "len") (hm2 : X.mg "len" = none) (ha : PE X a ta) (hb : PE X b tb)
    (he : backTo pos (starEach [a, b] X.env) = (false, eval a X.env) :: backTo pos (starEach [b] X.env) := by rfl) (hpl : (backTo pos (starEach [a, b] X.env)).any (·.1) = false := by rfl) (hst : starEach [a, b] X.env = (false, eval a X.env) :: starEach [b] X.env := by rfl) (hst2 : starEach [b] X.env = (false, eval b X.env) :: starEach [] X.env := by rfl)
    (hpl1 : (backTo pos (starEach [b] X.env)).any (·.1) = false := by rfl) :
    PE X (.Call (.Name "max" p) [a, b] [⟨some "key", .Name "len" p2, p3⟩] pos) (tMaxLen X.K ta tb) := by
  refine ⟨fun pins s σ H Q I h => ?_⟩
  have hA : PA X [a, b] (tCons ta (tCons tb tNil)) := pa_cons ha (pa_cons hb pa_nil hst2) hst
  refine wpAny_Call_Name_kw (ld_blt I hg hm (u := .builtin "max") (by decide +kernel) ?_ (by decide) (by decide))
  refine PyProof.Rows.callWith_kw (thn (hA.run pos pins s σ H (fun vs H2 => match vs with
    | [x, y] => MaxLenR X.K x y H2 Q
    | _ => False) I h) fun us s1 ⟨vs, H1, I1, r1, q1⟩ => ?_) he hpl (by rfl) (by rfl)
  match vs, r1, q1 with
  | [x, y], r1, q1 =>
    obtain ⟨p', q', xs, ys, rfl, rfl, hp, hq, hQ⟩ := q1
    obtain ⟨u, v, rfl, ru, rv⟩ := vals2 r1
    obtain rfl : u = Value.ref p' := ru
    obtain rfl : v = Value.ref q' := rv
    show wpAny _ _ (evalAll [(do let v ← eval (.Name "len" p2) X.env; standAt pos; pure v)]) _ _ s1
    refine wpAny_evalAll_cons (wpAny_bind (ld_blt I1 hg2 hm2 (u := .builtin "len") (by decide +kernel) (wpAny_bind (wpAny_standAt (wpAny_pure (wpAny_evalAll_nil ?_)))) (by decide) (by decide)))
    obtain ⟨its1, v1, t1, z1⟩ := I1.tuple hp
    obtain ⟨its2, v2, t2, z2⟩ := I1.tuple hq
    have l1 := v1.length
    have l2 := v2.length
    have hn := line63
    refine max_two_len (I1.ok.hd hc) t1 t2 (by simp only [List.size_toArray]; omega) (by simp only [List.size_toArray]; omega) fun h' tk kk => ?_
    refine ⟨_, H1, I1.kept kk, ?_, hQ⟩
    simp only [List.size_toArray]
    rw [l1, l2]
    by_cases c : its2.length > its1.length
    · rw [if_pos c, if_pos c]; rfl
    · rw [if_neg c, if_neg c]; rfl
/-! ### try .. except x, without a name -/
def tTryO (K : PySem.W.Frag) (c : Value) (tb : WX → TS) (ts : Addr → Value → Option Addr → TS) : TS := fun D σ H => tb (wOnly K c ts (fun _ _ _ _ => False) D) D σ H
theorem r_tryO {K : PySem.W.Frag} {cv : Value} {tb : WX → TS} {ts : Addr → Value → Option Addr → TS} {D : Ends} {σ : L2.St} {H : Hp} (h : tb (wOnly K cv ts (fun _ _ _ _ => False) D) D σ H) : tTryO K cv tb ts D σ H := h
theorem w_only {K : PySem.W.Frag} {cls cv : Value} {dd : Option Addr} {ts : Addr → Value → Option Addr → TS} {D : Ends} {σ : L2.St} {H : Hp} (h : PySem.W.exmOne K cls cv = some true) (k : ∀ x, H x = none → ts x cls dd D σ H) :
    wOnly K cv ts (fun _ _ _ _ => False) D cls dd σ H := ⟨true, h, fun _ => k, fun z => nomatch z⟩
theorem ps_tryO {K : PySem.W.Frag} {x : Str} {c : Value} {body suite : List Stmt} {b₀ : Stmt} {np pos pos' : Pos} {tb : WX → TS} {ts : Addr → Value → Option Addr → TS} (hK : X.K = K) (hs : X.stack = X.env :: X.outer) (hf : X.env.frame = some X.env.locals) (hc : Names X x c)
    (hb : ∀ (W : WX) (pn : List (Addr × Obj)) (xe : Value → Shared → Prop), Takes (X.tr pn xe) W → PSs (X.tr pn xe) body (tb W))
    (hsu : ∀ (a : Addr) (oe : Obj) (cls : Value) (d : Option Addr) (pn : List (Addr × Obj)), Zc cls d oe → (∃ vs, oe.data = .fields vs) → PSs (X.suite a ((a, oe) :: pn)) (b₀ :: suite) (ts a cls d)) :
    PS X (.Try body [.ExceptHandler (some (.Name x np)) none (b₀ :: suite) pos'] [] [] pos) (tTryO K c tb ts) := by
  subst hK
  exact ps_try_only hs hf hc takes0 (fun W pn xe tk _ => hb W pn xe tk) hsu
end
end My

set_option Elab.async false
set_option linter.all false
set_option maxRecDepth 100000
set_option maxHeartbeats 4000000
namespace My
open PySem PySem.Spec PyProof.Rows L2
open C8 (tCut pss_cut)
/-! ### data as keys -/
mutual
def nk : PyData → NestedKey
  | .int i => .num i
  | .str x => .text x
  | .tuple ds => .tup (nks ds)
  | .none => .none
  | .bool _ => .none
  | .list _ => .none
  | .dict _ => .none
def nks : List PyData → List NestedKey
  | [] => []
  | d :: ds => nk d :: nks ds
end
mutual
theorem nk_inj : ∀ d e : PyData, pureD d = true → pureD e = true → nk d = nk e → d = e
  | .int i, .int j, _, _, h => by simp only [nk, NestedKey.num.injEq] at h; rw [h]
  | .str i, .str j, _, _, h => by simp only [nk, NestedKey.text.injEq] at h; rw [h]
  | .tuple ds, .tuple es, p, q, h => by
    simp only [nk, NestedKey.tup.injEq] at h
    rw [nks_inj ds es (by simp [pureD] at p; exact p.2) (by simp [pureD] at q; exact q.2) h]
  | .int _, .str _, _, _, h => by simp [nk] at h
  | .int _, .tuple _, _, _, h => by simp [nk] at h
  | .str _, .int _, _, _, h => by simp [nk] at h
  | .str _, .tuple _, _, _, h => by simp [nk] at h
  | .tuple _, .int _, _, _, h => by simp [nk] at h
  | .tuple _, .str _, _, _, h => by simp [nk] at h
  | .none, _, p, _, _ => by simp [pureD] at p
  | .bool _, _, p, _, _ => by simp [pureD] at p
  | .list _, _, p, _, _ => by simp [pureD] at p
  | .dict _, _, p, _, _ => by simp [pureD] at p
  | .int _, .none, _, p, _ => by simp [pureD] at p
  | .int _, .bool _, _, p, _ => by simp [pureD] at p
  | .int _, .list _, _, p, _ => by simp [pureD] at p
  | .int _, .dict _, _, p, _ => by simp [pureD] at p
  | .str _, .none, _, p, _ => by simp [pureD] at p
  | .str _, .bool _, _, p, _ => by simp [pureD] at p
  | .str _, .list _, _, p, _ => by simp [pureD] at p
  | .str _, .dict _, _, p, _ => by simp [pureD] at p
  | .tuple _, .none, _, p, _ => by simp [pureD] at p
  | .tuple _, .bool _, _, p, _ => by simp [pureD] at p
  | .tuple _, .list _, _, p, _ => by simp [pureD] at p
  | .tuple _, .dict _, _, p, _ => by simp [pureD] at p
theorem nks_inj : ∀ ds es : List PyData, pureAll ds = true → pureAll es = true → nks ds = nks es → ds = es
  | [], [], _, _, _ => rfl
  | d :: ds, e :: es, p, q, h => by
    simp only [nks, List.cons.injEq] at h
    have p' : pureD d = true ∧ pureAll ds = true := by simpa [pureAll] using p
    have q' : pureD e = true ∧ pureAll es = true := by simpa [pureAll] using q
    rw [nk_inj d e p'.1 q'.1 h.1, nks_inj ds es p'.2 q'.2 h.2]
  | [], _ :: _, _, _, h => by simp [nks] at h
  | _ :: _, [], _, _, h => by simp [nks] at h
end
mutual
theorem nk_eqv : ∀ d e : PyData, pureD d = true → pureD e = true → PyData.eqv d e = decide (nk d = nk e)
  | .int i, .int j, _, _ => by simp only [nk, PyData.eqv]; by_cases h : i = j <;> simp [h]
  | .str i, .str j, _, _ => by simp only [nk, PyData.eqv]; by_cases h : i = j <;> simp [h]
  | .tuple ds, .tuple es, p, q => by
    simp only [nk, PyData.eqv]
    rw [nks_eqv ds es (by simp [pureD] at p; exact p.2) (by simp [pureD] at q; exact q.2)]
    exact decide_eq_decide.mpr ⟨fun h => by rw [h], fun h => NestedKey.tup.inj h⟩
  | .int _, .str _, _, _ => by simp [nk, PyData.eqv]
  | .int _, .tuple _, _, _ => by simp [nk, PyData.eqv]
  | .str _, .int _, _, _ => by simp [nk, PyData.eqv]
  | .str _, .tuple _, _, _ => by simp [nk, PyData.eqv]
  | .tuple _, .int _, _, _ => by simp [nk, PyData.eqv]
  | .tuple _, .str _, _, _ => by simp [nk, PyData.eqv]
  | .none, _, p, _ => by simp [pureD] at p
  | .bool _, _, p, _ => by simp [pureD] at p
  | .list _, _, p, _ => by simp [pureD] at p
  | .dict _, _, p, _ => by simp [pureD] at p
  | .int _, .none, _, p => by simp [pureD] at p
  | .int _, .bool _, _, p => by simp [pureD] at p
  | .int _, .list _, _, p => by simp [pureD] at p
  | .int _, .dict _, _, p => by simp [pureD] at p
  | .str _, .none, _, p => by simp [pureD] at p
  | .str _, .bool _, _, p => by simp [pureD] at p
  | .str _, .list _, _, p => by simp [pureD] at p
  | .str _, .dict _, _, p => by simp [pureD] at p
  | .tuple _, .none, _, p => by simp [pureD] at p
  | .tuple _, .bool _, _, p => by simp [pureD] at p
  | .tuple _, .list _, _, p => by simp [pureD] at p
  | .tuple _, .dict _, _, p => by simp [pureD] at p
theorem nks_eqv : ∀ ds es : List PyData, pureAll ds = true → pureAll es = true → PyData.eqvAll ds es = decide (nks ds = nks es)
  | [], [], _, _ => by simp [nks, PyData.eqvAll]
  | d :: ds, e :: es, p, q => by
    have p' : pureD d = true ∧ pureAll ds = true := by simpa [pureAll] using p
    have q' : pureD e = true ∧ pureAll es = true := by simpa [pureAll] using q
    simp only [nks, PyData.eqvAll]
    rw [nk_eqv d e p'.1 q'.1, nks_eqv ds es p'.2 q'.2]
    by_cases h1 : nk d = nk e <;> by_cases h2 : nks ds = nks es <;> simp [h1, h2]
  | [], _ :: _, _, _ => by simp [nks, PyData.eqvAll]
  | _ :: _, [], _, _ => by simp [nks, PyData.eqvAll]
end
theorem eqv_iff {d e : PyData} (p : pureD d = true) (q : pureD e = true) : PyData.eqv d e = true ↔ d = e := by
  rw [nk_eqv d e p q, decide_eq_true_iff]
  exact ⟨nk_inj d e p q, fun h => by rw [h]⟩
mutual
theorem nk_depth : ∀ d : PyData, pureD d = true → (nk d).depth = d.depth
  | .int _, _ => by simp [nk, NestedKey.depth, PyData.depth]
  | .str _, _ => by simp [nk, NestedKey.depth, PyData.depth]
  | .tuple ds, p => by simp only [nk, NestedKey.depth, PyData.depth]; rw [nks_depth ds (by simp [pureD] at p; exact p.2)]
  | .none, p => by simp [pureD] at p
  | .bool _, p => by simp [pureD] at p
  | .list _, p => by simp [pureD] at p
  | .dict _, p => by simp [pureD] at p
theorem nks_depth : ∀ ds : List PyData, pureAll ds = true → NestedKey.depthAll (nks ds) = PyData.depthAll ds
  | [], _ => by simp [nks, NestedKey.depthAll, PyData.depthAll]
  | d :: ds, p => by
    have p' : pureD d = true ∧ pureAll ds = true := by simpa [pureAll] using p
    simp only [nks, NestedKey.depthAll, PyData.depthAll]
    rw [nk_depth d p'.1, nks_depth ds p'.2]
end
section
variable {X : Cx} {pins : List (Addr × Obj)} {σ : L2.St} {H : Hp} {s : Shared}
mutual
theorem nk_is (I : Inv X pins σ H s) : ∀ (d : PyData) (v : V) (u : Value), pureD d = true → Dp X.K H v d → RelV v u → NestedIs s.heap (nk d) u
  | .int i, _, _, _, h, r => by cases h; obtain ⟨t, rfl⟩ := r; exact .int i t
  | .str i, _, _, _, h, r => by cases h; obtain ⟨t, rfl⟩ := r; exact .text i t
  | .tuple ds, _, u, p, h, r => by
    cases h with
    | @tup a xs _ hs ha =>
      obtain rfl : u = Value.ref a := r
      obtain ⟨its, rv, ⟨o, ho, hc, n, hd⟩, _⟩ := I.tuple hs
      have := nks_is I ds xs its (by simp [pureD] at p; exact p.2) ha rv
      exact .tup ho hc hd this
  | .none, _, _, p, _, _ => by simp [pureD] at p
  | .bool _, _, _, p, _, _ => by simp [pureD] at p
  | .list _, _, _, p, _, _ => by simp [pureD] at p
  | .dict _, _, _, p, _, _ => by simp [pureD] at p
theorem nks_is (I : Inv X pins σ H s) : ∀ (ds : List PyData) (vs : List V) (us : List Value), pureAll ds = true → DpAll X.K H vs ds → Vals vs us → NestedAll s.heap (nks ds) us
  | [], _, us, _, h, r => by cases h; cases r; exact .nil
  | d :: ds, _, us, p, h, r => by
    have p' : pureD d = true ∧ pureAll ds = true := by simpa [pureAll] using p
    cases h with
    | cons h1 h2 =>
      cases r with
      | cons r1 r2 => exact .cons (nk_is I d _ _ p'.1 h1 r1) (nks_is I ds _ _ p'.2 h2 r2)
end
end
/-! ### dicts whose keys are such tuples -/
abbrev NRow := NestedKey × Addr × V
def RelR (p : NRow) (q : NestedKey × Addr × Value) : Prop := p.1 = q.1 ∧ p.2.1 = q.2.1 ∧ RelV p.2.2 q.2.2
def dictN (P : Program) (w : World) (a : Addr) (rows : List NRow) : HO := .ext fun h => (a == sysModules) = false ∧ rows.length ≤ sizeLine ∧ ∃ xs : List (NestedKey × Addr × Value), Paired RelR rows xs ∧
  ∃ o es ep, h.get? a = some o ∧ o.ExactDict ∧ o.data = .dict es ep ∧ es.toList = xs.map (entryOfKey (nestedKind P w)) ∧ (xs.map (·.1)).Nodup
theorem dictN_ok {P : Program} {w : World} {H : Hp} {h : Heap} {a : Addr} {rows : List NRow} {xs : List (NestedKey × Addr × Value)} {o : Obj} {es : Array DictEntry} {ep : Nat} (h1 : (a == sysModules) = false) (h2 : rows.length ≤ sizeLine) (h3 : Paired RelR rows xs)
    (ho : h.get? a = some o) (hx : o.ExactDict) (hd : o.data = .dict es ep) (he : es.toList = xs.map (entryOfKey (nestedKind P w))) (hn : (xs.map (·.1)).Nodup) : ObjOk P w H h a (dictN P w a rows) :=
  ⟨⟨h1, h2, xs, h3, o, es, ep, ho, hx, hd, he, hn⟩, ⟨o, ho⟩, fun k1 k2 ⟨a1, a2, ys, a3, p, fs, fp, b1, b2, b3, b4, b5⟩ k => ⟨a1, a2, ys, a3, p, fs, fp, k p b1, b2, b3, b4, b5⟩⟩
/-- the dict at a: its keys as data, where each key stands, its values -/
abbrev DRow := PyData × Addr × V
def keyed (L : List DRow) : List NRow := L.map fun r => (nk r.1, r.2.1, r.2.2)
def KeyAt (K : PySem.W.Frag) (H : Hp) (b : Addr) (d : PyData) : Prop := Dp K H (.ref b) d ∧ pureD d = true ∧ d.depth ≤ 7
def DN (P : Program) (w : World) (K : PySem.W.Frag) (H : Hp) (a : Addr) (L : List DRow) : Prop := H a = some (dictN P w a (keyed L)) ∧ ∀ r ∈ L, KeyAt K H r.2.1 r.1
/-- .. while it is locked -/
def DNf (P : Program) (w : World) (K : PySem.W.Frag) (H : Hp) (a : Addr) (o : Obj) (L : List DRow) : Prop := H a = some (.frz o (dictN P w a (keyed L))) ∧ ∀ r ∈ L, KeyAt K H r.2.1 r.1
def dget (L : List DRow) (d : PyData) : Option V := (L.find? fun r => decide (nk r.1 = nk d)).map (·.2.2)
def dput (L : List DRow) (d : PyData) (b : Addr) (v : V) : List DRow := if (dget L d).isSome then L.map fun r => if nk r.1 = nk d then (r.1, r.2.1, v) else r else L ++ [(d, b, v)]
theorem dput_len (L : List DRow) (d : PyData) (b : Addr) (v : V) : (dput L d b v).length ≤ L.length + 1 := by
  unfold dput; split <;> simp
theorem KeyAt.ex {K : PySem.W.Frag} {H H' : Hp} {b : Addr} {d : PyData} (h : KeyAt K H b d) (e : Same H H') : KeyAt K H' b d := ⟨dp_ex e _ _ h.1, h.2⟩
theorem KeyAt.but {K : PySem.W.Frag} {H H' : Hp} {b l : Addr} {d : PyData} (h : KeyAt K H b d) (e : But l H H') (n : NoTup H l) : KeyAt K H' b d := ⟨dp_but e n _ _ h.2.1 h.1, h.2⟩
section
variable {P : Program} {w : World} {K : PySem.W.Frag} {H H' : Hp} {a l : Addr} {L : List DRow}
theorem DN.ex (h : DN P w K H a L) (e : Same H H') : DN P w K H' a L := ⟨e _ _ h.1, fun r hr => (h.2 r hr).ex e⟩
theorem DN.but (h : DN P w K H a L) (e : But l H H') (n : a ≠ l) (t : NoTup H l) : DN P w K H' a L := ⟨e _ _ n h.1, fun r hr => (h.2 r hr).but e t⟩
theorem noTup_d {rows : List NRow} (h : H l = some (dictN P w l rows)) : NoTup H l := by
  rintro u (h2 | ⟨o, h2⟩)
  · rw [h] at h2; cases h2
  · rw [h] at h2; cases h2
theorem DN.noTup (h : DN P w K H a L) : NoTup H a := noTup_d h.1
def RelD (p : DRow) (q : NestedKey × Addr × Value) : Prop := nk p.1 = q.1 ∧ p.2.1 = q.2.1 ∧ RelV p.2.2 q.2.2
theorem keyed_to : ∀ {L : List DRow} {xs : List (NestedKey × Addr × Value)}, Paired RelR (keyed L) xs → Paired RelD L xs
  | [], _, h => by cases h; exact .nil
  | r :: L, _, h => by
    cases h with
    | cons h1 h2 => exact .cons h1 (keyed_to h2)
theorem keyed_of : ∀ {L : List DRow} {xs : List (NestedKey × Addr × Value)}, Paired RelD L xs → Paired RelR (keyed L) xs
  | [], _, h => by cases h; exact .nil
  | r :: L, _, h => by
    cases h with
    | cons h1 h2 => exact .cons h1 (keyed_of h2)
theorem dget_nil (d : PyData) : dget [] d = none := rfl
theorem dget_pos {r : DRow} {L : List DRow} {d : PyData} (e : nk r.1 = nk d) : dget (r :: L) d = some r.2.2 := by
  unfold dget; rw [List.find?_cons, decide_eq_true e]; rfl
theorem dget_neg {r : DRow} {L : List DRow} {d : PyData} (e : ¬ nk r.1 = nk d) : dget (r :: L) d = dget L d := by
  unfold dget; rw [List.find?_cons, decide_eq_false e]
theorem dget_rel {xs : List (NestedKey × Addr × Value)} (r : Paired RelD L xs) (d : PyData) : RelO (dget L d) ((atKey xs (nk d)).map (·.2)) := by
  induction r with
  | nil => exact True.intro
  | @cons p q ps qs h t ih =>
    obtain ⟨h1, _, h2⟩ := h
    by_cases e : nk p.1 = nk d
    · have b : atKey (q :: qs) (nk d) = some q.2 := by simp [atKey, List.find?_cons, h1.symm.trans e]
      rw [dget_pos e, b]; exact h2
    · have e' : ¬ q.1 = nk d := fun z => e (h1.trans z)
      have b : atKey (q :: qs) (nk d) = atKey qs (nk d) := by simp [atKey, List.find?_cons, e']
      rw [dget_neg e, b]; exact ih
theorem dput_rel {xs : List (NestedKey × Addr × Value)} (r : Paired RelD L xs) (d : PyData) {b : Addr} {y : V} {u : Value} (ry : RelV y u) : Paired RelD (dput L d b y) (storedH xs (nk d) b u) := by
  have e : (dget L d).isSome = (atKey xs (nk d)).isSome := by
    rw [(dget_rel r d).isSome_eq, Option.isSome_map]
  unfold dput storedH
  rw [e]
  by_cases q : (atKey xs (nk d)).isSome = true
  · rw [if_pos q, if_pos q]
    clear e q
    induction r with
    | nil => exact .nil
    | @cons p q ps qs h t ih =>
      rw [List.map_cons, List.map_cons]
      refine .cons ?_ ih
      obtain ⟨h1, h2, h3⟩ := h
      unfold putAt
      by_cases e : nk p.1 = nk d
      · rw [if_pos e, if_pos (h1.symm.trans e)]; exact ⟨h1, h2, ry⟩
      · rw [if_neg e, if_neg (fun z => e (h1.trans z))]; exact ⟨h1, h2, h3⟩
  · rw [if_neg q, if_neg q]; exact Paired.snoc r ⟨rfl, rfl, ry⟩
end
section
variable {X : Cx} {pins : List (Addr × Obj)} {σ : L2.St} {H : Hp} {s : Shared} {a b : Addr} {L : List DRow} {d : PyData} {A : Around} {E : Value → Shared → Prop}
theorem KeyAt.is (h : KeyAt X.K H b d) (I : Inv X pins σ H s) : (nestedKind X.prog X.w).is s.heap (nk d) b := ⟨nk_is I d (.ref b) (.ref b) h.2.1 h.1 rfl, by rw [nk_depth d h.2.1]; have := h.2.2; omega⟩
/-- the dict as it is laid -/
theorem DN.raw (h : DN X.prog X.w X.K H a L) (I : Inv X pins σ H s) : (a == sysModules) = false ∧ L.length ≤ sizeLine ∧ ∃ xs, Paired RelD L xs ∧ s.heap.DictOfH (nestedKind X.prog X.w) a xs := by
  obtain ⟨h1, hk⟩ := h
  obtain ⟨⟨a1, a2, xs, a3, o, es, ep, b1, b2, b3, b4, b5⟩, _, _⟩ := (show ObjOk X.prog X.w H s.heap a (dictN X.prog X.w a (keyed L)) from I.hok a _ h1)
  have r := keyed_to a3
  refine ⟨a1, by simpa [keyed] using a2, xs, r, o, es, ep, b1, b2, b3, b4, ?_, b5⟩
  have key : ∀ {L : List DRow} {xs : List (NestedKey × Addr × Value)}, Paired RelD L xs → (∀ r ∈ L, KeyAt X.K H r.2.1 r.1) → ∀ x ∈ xs, (nestedKind X.prog X.w).is s.heap x.1 x.2.1 := by
    intro L xs r
    induction r with
    | nil => intro _ x hx; cases hx
    | @cons p q ps qs h t ih =>
      intro hk x hx
      rcases List.mem_cons.mp hx with rfl | hx
      · obtain ⟨e1, e2, _⟩ := h
        rw [← e1, ← e2]
        exact (hk p List.mem_cons_self).is I
      · exact ih (fun r hr => hk r (List.mem_cons_of_mem _ hr)) x hx
  exact key r hk
theorem DN.is (h : DN X.prog X.w X.K H a L) (I : Inv X pins σ H s) : s.TypeIs (.ref a) "dict" ∧ (∀ b, Value.ref a = .ref b → ∃ ob, s.heap.get? b = some ob ∧ ob.dict = none) := by
  obtain ⟨_, _, xs, _, o, es, ep, b1, b2, _⟩ := h.raw I
  exact ⟨⟨o, b1, b2.1⟩, fun b q => by cases q; exact ⟨o, b1, b2.2.1⟩⟩
theorem dn_get2 {Q : Value → Shared → Prop} {z : V} {r : Value} (hu : A.units + 64 < cLine) (I : Inv X pins σ H s) (g : DN X.prog X.w X.K H a L) (k : KeyAt X.K H b d) (rd : RelV z r) (h : ∀ w' s', Inv X pins σ H s' → RelV ((dget L d).getD z) w' → Q w' s') :
    wpAny (model X.prog X.w) A (call (.builtin "dict.get") [.ref a, .ref b, r]) Q E s := by
  obtain ⟨hd, _, xs, rel, dd⟩ := g.raw I
  refine call_meetsIn PySem.F.slot_dict_get dd.typeIs PySem.F.entry_dict_get (PySem.F.args_dict_get_3 _ _ _) (meetsH_dict_get_default (nestedKind X.prog X.w) a b hd r) ⟨(show A.in1.units + 8 < cLine by show A.units + 1 + 8 < cLine; omega), nk d, xs, k.is I, dd, h _ _ (I.tok _) ?_⟩
  exact (dget_rel rel d).getD rd
theorem dn_put {Q : Unit → Shared → Prop} {v : V} {r : Value} (hu : A.units + 64 < cLine) (I : Inv X pins σ H s) (g : DN X.prog X.w X.K H a L) (k : KeyAt X.K H b d) (rv : RelV v r) (hl : L.length < sizeLine)
    (h : ∀ s', Inv X pins σ (upd H a (dictN X.prog X.w a (keyed (dput L d b v)))) s' → Q () s') : wpAny (model X.prog X.w) A (setItem (.ref a) (.ref b) r) Q E s := by
  obtain ⟨hd, z, xs, rel, dd⟩ := g.raw I
  have hz : xs.length ≤ sizeLine := by rw [← Paired.length rel]; exact z
  refine wpAny_setItem_heap (hsz := hz) (show A.in1.units + 8 < cLine by show A.units + 1 + 8 < cLine; omega) (k.is I) dd fun h' dd' hs => h _ ?_
  obtain ⟨q, es, ep, hq, h2, h3, h4, _, h5⟩ := dd'
  refine d_write I (by rw [g.1]; exact True.intro) hs ⟨q, hq⟩ (dictN_ok hd ?_ (keyed_of (dput_rel rel d rv)) hq h2 h3 h4 h5)
  have := dput_len L d b v
  simp only [keyed, List.length_map]
  omega
theorem dn_len {Q : Value → Shared → Prop} (I : Inv X pins σ H s) (g : DN X.prog X.w X.K H a L) (h : ∀ t s', Inv X pins σ H s' → Q (.int L.length t) s') : wpAny (model X.prog X.w) A (call (.builtin "len") [.ref a]) Q E s := by
  obtain ⟨hd, z, xs, rel, dd⟩ := g.raw I
  have hz := sizeLine_eq
  have hl : L.length = xs.length := Paired.length rel
  refine Calls.call_function_entry kind_len plain_len entry_len (args_len1 _) ?_
  unfold Builtin.«len»
  refine wpAny_bind (m := oneArg "len" _) (wpAny_pure ?_)
  refine wpAny_bind (m := callSpecial? (.ref a) (Str.ofString "__len__")) (wpAny_callSpecial?_slot (name := Str.ofString "__len__") dd.typeIs PySem.F.slot_dict_len
    (len_keyed (knd := nestedKind X.prog X.w) (kvs := pairsH xs) hd ⟨xs, dd, rfl⟩ ?_))
  rw [pairsH_length, ← hl]
  refine wpAny_bind (wpAny_holding (wpAny_pure ?_))
  refine wpAny_bind (wpAny_letGo ?_)
  show wpAny _ _ (if ((L.length : Nat) : Int) < 0 then _ else _) _ _ _
  rw [if_neg (by omega)]
  show wpAny _ _ (if ((L.length : Nat) : Int) ≥ 2 ^ 63 then _ else _) _ _ _
  rw [if_neg (by omega)]
  exact wpAny_bind (wpAny_mkInt (wpAny_pure ⟨_, rfl, h _ _ (I.tok _)⟩))
end
/-! ### readings -/
section
variable {X : Cx} {o i e f value : Expr} {pos pos' apos cpos : Pos} {td ty tx tv : TE}
def tDNew (P : Program) (w : World) : TE := fun _ H Q => ∀ p, H p = none → Q (.ref p) (upd H p (dictN P w p []))
theorem pe_dnew : PE X (.Dict [] [] pos) (tDNew X.prog X.w) := ⟨fun pins s σ H Q I h =>
  wpAny_Dict_empty ⟨.ref s.heap.objs.size, _, I.laid (a := s.heap.objs.size) (o := dictN X.prog X.w s.heap.objs.size []) (t' := s.toks) (fun _ _ q => Heap.get?_push_of_some _ q) (Nat.le_refl _)
    (dictN_ok (beq_eq_false_iff_ne.mpr (Ne.symm (Nat.ne_of_lt I.big))) (Nat.zero_le _) .nil (es := #[]) (ep := 0) (Heap.get?_push_size _ rfl) ⟨rfl, rfl, rfl⟩ rfl rfl List.nodup_nil), rfl, h _ (I.hok.fresh (Nat.le_refl _))⟩⟩
theorem r_dnew {P : Program} {w : World} {K : PySem.W.Frag} {σ : L2.St} {H : Hp} {Q : VK} (q : ∀ p H2, H p = none → Same H H2 → DN P w K H2 p [] → Q (.ref p) H2) : tDNew P w σ H Q := fun p hp => q p _ hp (ex_new hp) ⟨upd_same, fun _ h => nomatch h⟩
def DGet2R (P : Program) (w : World) (K : PySem.W.Frag) (x y z : V) (H : Hp) (Q : VK) : Prop := ∃ a b L d, x = .ref a ∧ y = .ref b ∧ DN P w K H a L ∧ KeyAt K H b d ∧ Q ((dget L d).getD z) H
def DIs (P : Program) (w : World) (K : PySem.W.Frag) (x : V) (H : Hp) : Prop := ∃ a L, x = .ref a ∧ DN P w K H a L
def tDNGet2 (P : Program) (w : World) (K : PySem.W.Frag) (td ty tx : TE) : TE := fun σ H Q => td σ H fun x H1 => DIs P w K x H1 ∧ ty σ H1 fun y H2 => tx σ H2 fun z H3 => DGet2R P w K x y z H3 Q
theorem pe_dnget2 (hu : X.A.units + 64 < cLine) (ho : PE X o td) (he : PE X e ty) (hf : PE X f tx) (m : M2 X o "get" apos e f cpos) : PE X (.Call (.Attribute o "get" apos) [e, f] [] cpos) (tDNGet2 X.prog X.w X.K td ty tx) := by
  refine ⟨fun pins s σ H Q I h => ?_⟩
  refine wpAny_Call_method m.base m.few m.line PySem.F.plainAttrs_dict PySem.F.slot_dict_get PySem.F.type_dict_get (thn (ho.run pins s σ H _ I h) fun u s1 ⟨x, H1, I1, rx, ⟨a, L, ex, hD⟩, q1⟩ => ?_)
  subst ex
  obtain rfl : u = Value.ref a := rx
  obtain ⟨t1, t2⟩ := hD.is I1
  refine ⟨t1, t2, ?_⟩
  rw [m.trees]
  refine Calls.callWith_builtin rfl (Calls.evalArgs_plain (Calls.spliced_cons (thn (he.run pins s1 σ H1 _ I1 q1) fun iv s2 ⟨y, H2, I2, ry, q2⟩ =>
    Calls.spliced_cons (thn (hf.run pins s2 σ H2 _ I2 q2) fun fv s3 ⟨z, H3, I3, rz, a', b, L', d, ea, eb, hD', hk, q3⟩ => Calls.spliced_nil ?_))))
  cases ea
  subst eb
  obtain rfl : iv = Value.ref b := ry
  exact dn_get2 hu I3 hD' hk rz fun w' s4 I4 rw' => ⟨_, H3, I4, rw', q3⟩
theorem r_dnget2 {P : Program} {w : World} {K : PySem.W.Frag} {σ : L2.St} {H : Hp} {Q : VK} (h : td σ H fun x H1 => DIs P w K x H1 ∧ ty σ H1 fun y H2 => tx σ H2 fun z H3 => DGet2R P w K x y z H3 Q) : tDNGet2 P w K td ty tx σ H Q := h
theorem r_dis {P : Program} {w : World} {K : PySem.W.Frag} {H : Hp} {a : Addr} {L : List DRow} {R : Prop} (h : DN P w K H a L) (q : R) : DIs P w K (.ref a) H ∧ R := ⟨⟨a, L, rfl, h⟩, q⟩
theorem r_dget2 {P : Program} {w : World} {K : PySem.W.Frag} {H : Hp} {Q : VK} {a b : Addr} {L : List DRow} {d : PyData} {z : V} (h : DN P w K H a L) (k : KeyAt K H b d) (q : Q ((dget L d).getD z) H) : DGet2R P w K (.ref a) (.ref b) z H Q := ⟨a, b, L, d, rfl, rfl, h, k, q⟩
def DPutR (P : Program) (w : World) (K : PySem.W.Frag) (x y v : V) (H : Hp) (N : Hp → Prop) : Prop := ∃ a b L d, x = .ref a ∧ y = .ref b ∧ DN P w K H a L ∧ KeyAt K H b d ∧ L.length < sizeLine ∧ N (upd H a (dictN P w a (keyed (dput L d b v))))
def sDNPut (P : Program) (w : World) (K : PySem.W.Frag) (td ty tv : TE) : TS := fun D σ H => tv σ H fun v H1 => td σ H1 fun x H2 => ty σ H2 fun y H3 => DPutR P w K x y v H3 (D.nx σ)
theorem ps_dnput (hu : X.A.units + 64 < cLine) (ho : PE X o td) (hi : PE X i ty) (hv : PE X value tv) (hs : swapsWith value (some (.Subscript o i pos')) pos.line X.env = pure false) :
    PS X (.Assign [.Subscript o i pos'] value pos) (sDNPut X.prog X.w X.K td ty tv) := by
  refine ⟨fun pins s σ H D I h => ?_⟩
  refine wpAny_Assign_Subscript (thn (hv.run pins s σ H _ I h) fun r s1 ⟨v, H1, I1, rv, q1⟩ => thn (ho.run pins s1 σ H1 _ I1 q1) fun u s2 ⟨x, H2, I2, rx, q2⟩ => thn (hi.run pins s2 σ H2 _ I2 q2) fun iv s3 ⟨y, H3, I3, ry, a, b, L, d, ex, ey, hD, hk, hl, q3⟩ => ?_) hs
  subst ex ey
  obtain rfl : u = Value.ref a := rx
  obtain rfl : iv = Value.ref b := ry
  exact dn_put hu I3 hD hk rv hl fun s4 I4 => ⟨σ, _, I4, q3⟩
theorem r_dnput {P : Program} {w : World} {K : PySem.W.Frag} {σ : L2.St} {H : Hp} {D : Ends} (h : tv σ H fun v H1 => td σ H1 fun x H2 => ty σ H2 fun y H3 => DPutR P w K x y v H3 (D.nx σ)) : sDNPut P w K td ty tv D σ H := h
theorem dput_mem {L : List DRow} {d : PyData} {b : Addr} {v : V} {r : DRow} (h : r ∈ dput L d b v) : (∃ r0 ∈ L, r.1 = r0.1 ∧ r.2.1 = r0.2.1) ∨ (r.1 = d ∧ r.2.1 = b) := by
  unfold dput at h
  split at h
  · obtain ⟨r0, h0, rfl⟩ := List.mem_map.mp h
    refine .inl ⟨r0, h0, ?_⟩
    split <;> exact ⟨rfl, rfl⟩
  · rcases List.mem_append.mp h with h | h
    · exact .inl ⟨r, h, rfl, rfl⟩
    · rw [List.mem_singleton.mp h]; exact .inr ⟨rfl, rfl⟩
theorem r_dput {P : Program} {w : World} {K : PySem.W.Frag} {H : Hp} {N : Hp → Prop} {a b : Addr} {L : List DRow} {d : PyData} {v : V} (h : DN P w K H a L) (k : KeyAt K H b d) (hl : L.length ≤ 100000) (q : ∀ H2, But a H H2 → DN P w K H2 a (dput L d b v) → N H2) : DPutR P w K (.ref a) (.ref b) v H N := by
  refine ⟨a, b, L, d, rfl, rfl, h, k, Nat.lt_of_le_of_lt hl (by decide), q _ But.upd ⟨upd_same, fun r hr => ?_⟩⟩
  have e : But a H (upd H a (dictN P w a (keyed (dput L d b v)))) := But.upd
  rcases dput_mem hr with ⟨r0, h0, e1, e2⟩ | ⟨e1, e2⟩
  · rw [e1, e2]; exact (h.2 r0 h0).but e h.noTup
  · rw [e1, e2]; exact k.but e h.noTup
def rLenN (P : Program) (w : World) (K : PySem.W.Frag) : List V → Hp → VK → Prop := fun xs H Q => ∃ a L, xs = [.ref a] ∧ DN P w K H a L ∧ Q (.int (L.length : Nat)) H
theorem cr_lenN : CallR X (.builtin "len") (rLenN X.prog X.w X.K) := by
  intro pins s σ H xs us Q I r h
  obtain ⟨a, L, rfl, hD, q⟩ := h
  obtain ⟨u, rfl, ru⟩ := vals1 r
  obtain rfl : u = Value.ref a := ru
  exact dn_len I hD fun t s' I' => ⟨.int (L.length : Nat), H, I', ⟨t, rfl⟩, q⟩
theorem r_lenN {P : Program} {w : World} {K : PySem.W.Frag} {H : Hp} {Q : VK} {a : Addr} {L : List DRow} (h : DN P w K H a L) (q : Q (.int (L.length : Nat)) H) : rLenN P w K [.ref a] H Q := ⟨a, L, rfl, h, q⟩
end
/-! ### for .. in d.items() -/
section
variable {X : Cx} {pins : List (Addr × Obj)} {σ : L2.St} {H : Hp} {s : Shared} {a : Addr} {L : List DRow} {o : Obj}
/-- the locked dict as it is laid -/
theorem frzN (I : Inv X pins σ H s) (h : H a = some (.frz o (dictN X.prog X.w a (keyed L)))) : (a == sysModules) = false ∧ s.heap.get? a = some o ∧ o.ExactDict ∧ ∃ es ep xs, o.data = .dict es ep ∧ es.size = L.length ∧ Paired RelD L xs ∧ es.toList = xs.map (entryOfKey (nestedKind X.prog X.w)) := by
  obtain ⟨hd, ⟨a1, a2, xs, a3, o', es, ep, b1, b2, b3, b4, b5⟩, _, _⟩ := (show ObjOk X.prog X.w H s.heap a (.frz o (dictN X.prog X.w a (keyed L))) from I.hok a _ h)
  rw [hd] at b1
  cases b1
  have r := keyed_to a3
  refine ⟨a1, hd, b2, es, ep, xs, b3, ?_, r, b4⟩
  rw [← Array.length_toList, b4, List.length_map]
  exact (Paired.length r).symm
theorem row_at {xs : List (NestedKey × Addr × Value)} {es : Array DictEntry} {P : Program} {w : World} (r : Paired RelD L xs) (he : es.toList = xs.map (entryOfKey (nestedKind P w))) {i : Nat} {p : DRow} (hp : L[i]? = some p) : ∃ e, es[i]? = some e ∧ e.key = .ref p.2.1 ∧ RelV p.2.2 e.val := by
  obtain ⟨q, hq, _, h2, h3⟩ := paired_get r hp
  refine ⟨entryOfKey (nestedKind P w) q, ?_, ?_, h3⟩
  · rw [← Array.getElem?_toList, he, List.getElem?_map, hq]; rfl
  · rw [h2]; rfl
end
/-- the pairs of the locked dict at a, each a new tuple -/
def ItN (P : Program) (w : World) (a : Addr) (o : Obj) (L : List DRow) : It :=
  ⟨fun i H => H a = some (.frz o (dictN P w a (keyed L))) ∧ i < L.length, fun i H x H' => ∃ T r, L[i]? = some r ∧ x = .ref T ∧ H T = none ∧ H' = upd H T (.tup [.ref r.2.1, r.2.2]), fun i H => H a = some (.frz o (dictN P w a (keyed L))) ∧ L.length ≤ i⟩
section
variable {P : Program} {w : World} {K : PySem.W.Frag} {a : Addr} {o : Obj} {es : Array DictEntry} {ep : Nat}
theorem turn_itemsN {L : List DRow} {elts : List Expr} {kk : Nat} {tpos : Pos} (it : Addr) (hod : o.data = .dict es ep) :
    Turn P w K (.Tuple elts kk tpos) (ItN P w a o L) [it] it (fun i h => ∃ ok ov, h.get? it = some (DVw.itmOb a .none i L.length ep ok ov)) where
  mem := by simp
  obj := fun i h st b hb => by
    have e : b = it := by simpa using hb
    subst e
    obtain ⟨ok, ov, e⟩ := st
    exact ⟨_, e, fun v z => nomatch z⟩
  keep := fun i h h' st k => let ⟨ok, ov, e⟩ := st; ⟨ok, ov, k it (by simp) _ e⟩
  item := by
    intro X hP hw hK hc i pins s σ H E I hf st hg
    subst hP hw hK
    obtain ⟨hd, hi⟩ := hg
    obtain ⟨hs, hgd, hx, es', ep', xs, hdt, hsz, rel, hes⟩ := frzN I hd
    obtain ⟨rfl, rfl⟩ := dict_ep hod hdt
    obtain ⟨r, hr⟩ : ∃ p, L[i]? = some p := ⟨L[i], List.getElem?_eq_getElem hi⟩
    obtain ⟨e, he, hkey, ru⟩ := row_at rel hes hr
    obtain ⟨ok, ov, hit⟩ := st
    have hlt : it < s.heap.objs.size := Heap.lt_size hit
    refine DVw.itm_item hit hgd hdt hsz he fun h' b1 b2 b3 b4 => ?_
    refine ⟨_, rfl, wpAny_letOwnedTupleGo_items (s := { s with heap := h' }) (d := a) (i := i + 1) (n := L.length) (ep := ep') (ok := e.key) (ov := e.val) b1 fun h'' he' sb => ?_⟩
    have hT2 : h''.get? s.heap.objs.size = some { cls := .type "tuple", data := .seq #[e.key, e.val] } := (sb.2 _ (Nat.ne_of_gt hlt)).trans b2
    have new : ObjOk X.prog X.w (upd H s.heap.objs.size (.tup [.ref r.2.1, r.2.2])) h'' s.heap.objs.size (.tup [.ref r.2.1, r.2.2]) :=
      ⟨by show 2 ≤ sizeLine; decide, [e.key, e.val], .cons hkey (.cons ru .nil), ⟨_, hT2, rfl, _, rfl⟩⟩
    have I1 : Inv X pins σ (upd H s.heap.objs.size (.tup [.ref r.2.1, r.2.2])) { s with heap := h'' } :=
      I.turnedNew (t' := s.toks) (ch := [it]) (fun b ob hb z => (sb.2 b (by simpa using hb)).trans (b4 b ob (by simpa using hb) z)) hf (Nat.le_refl _) new
    refine ⟨.ref s.heap.objs.size, _, I1, rfl, ⟨_, r, hr, rfl, I.hok.fresh (Nat.le_refl _), rfl⟩, ⟨e.key, e.val, he'⟩, fun b hb => ?_⟩
    have z : b = it := by simpa using hb
    rw [z, upd_ne (Nat.ne_of_lt hlt)]
    exact (hf it (by simp)).1
  done := by
    intro X hP hw hK hc i pins s σ H E I hf st hg
    subst hP hw hK
    obtain ⟨hd, hi⟩ := hg
    obtain ⟨f0, f1, f2, f3, f4, f5⟩ := hf it (by simp)
    obtain ⟨hs, hgd, hx, es', ep', xs, hdt, hsz, rel, hes⟩ := frzN I hd
    obtain ⟨rfl, rfl⟩ := dict_ep hod hdt
    obtain ⟨ok, ov, hit⟩ := st
    have he : es'[i]? = none := Array.getElem?_eq_none (by rw [hsz]; exact hi)
    exact DVw.itm_end (I.ok.hd hc) hit hgd hdt hsz he fun h' eb => ⟨rfl, I.turned (t' := s.toks) (fun b ob hb e => eb b ob hb e) f0 f1 f3 f4 f5⟩
  self := fun A i s Q E st h => let ⟨_, _, e⟩ := st; PySem.W.kcp_self e h
end
section
variable {X : Cx} {e : Expr} {td : TE} {apos cpos : Pos}
def iItemsN (P : Program) (w : World) (td : TE) : TI := fun σ H R => td σ H fun x H1 => ∃ a o L, x = .ref a ∧ H1 a = some (.frz o (dictN P w a (keyed L))) ∧ R (ItN P w a o L) H1
theorem pi_itemsN {elts : List Expr} {kk : Nat} {tpos : Pos} (he : PE X e td) (hbase : attributeBase e "items" X.env (eval e X.env) = eval e X.env := by rfl) (hline : (apos.endLine == cpos.line) = true := by rfl) :
    PI X (.Tuple elts kk tpos) (.Call (.Attribute e "items" apos) [] [] cpos) (iItemsN X.prog X.w td) := by
  refine ⟨fun pins s σ H R I h => ?_⟩
  refine wpAny_Call_method (T := "dict") (id := "dict.items") hbase rfl hline F.plainAttrs_dict F.slot_dict_items F.type_dict_items (thn (he.run pins s σ H _ I h) fun u s1 ⟨x, H1, I1, rx, a, o, L, ex, hd, q⟩ => ?_)
  subst ex
  obtain rfl : u = Value.ref a := rx
  obtain ⟨hs, hgd, hx, es, ep, xs, hdt, hsz, rel, hes⟩ := frzN I1 hd
  have raw : DT.Raw s1.heap a es ep := ⟨o, hgd, hx, hdt⟩
  refine ⟨raw.typeIs, fun b q => by cases q; exact ⟨o, hgd, hx.2.1⟩, ?_⟩
  have I2 : Inv X pins σ H1 { s1 with heap := s1.heap.push { cls := .type "dict_items", data := .fields #[.ref a] } } := I1.kept (t' := s1.toks) fun b ob q => Heap.get?_push_of_some _ q
  refine Calls.callWith_builtin rfl (PySem.evalArgs_none ?_)
  refine DT.callItems hs raw ?_
  refine DT.iterI ⟨_, Heap.get?_push_size _ rfl, rfl, rfl⟩ (raw.push _) ?_
  refine pi_one (tk := s1.toks) I2 _ (turn_itemsN _ hdt) ⟨.none, .none, ?_⟩ q
  rw [← hsz]
  exact Heap.get?_push_size _ rfl
end
/-! ### in a comprehension -/
section
variable {X : Cx} {K : PySem.W.Frag} {es : List Expr} {k n : Nat} {t : TGs} {pos : Pos}
theorem pg_kTup (hK : X.K = K) (hc : X.calm = true) (h : PGs X es t) (hn : (assignEach es X.env).length = n := by rfl) (hst : (assignEach es X.env).findIdx? (·.1) = none := by rfl) : PG X (.Tuple es k pos) (gTup K n t) := hK ▸ pg_tup hc h hn hst
end
theorem r_lockE {t : TE} {σ : L2.St} {H : Hp} {Q : VK} (h : ∃ d u, H d = some u ∧ Mut (some u) ∧ ∀ od, t σ (upd H d (.frz od u)) fun v H' => H' d = some (.frz od u) ∧ Q v (upd H' d u)) : tLockE t σ H Q := h
section
variable {P : Program} {w : World} {K : PySem.W.Frag} {H H1 H' : Hp} {a : Addr} {o : Obj} {L : List DRow}
theorem walk_N : Walk (ItN P w a o L) L.length (fun H => H a = some (.frz o (dictN P w a (keyed L)))) (fun i H x H' => ∃ T r, L[i]? = some r ∧ x = .ref T ∧ H T = none ∧ H' = upd H T (.tup [.ref r.2.1, r.2.2])) :=
  ⟨fun _ _ hi q => ⟨q, hi⟩, fun _ q => ⟨q, Nat.le_refl _⟩, fun _ _ _ _ _ _ y => y⟩
/-- the dict locked, and back -/
theorem DN.lock (h : DN P w K H a L) {t : TE} {σ : L2.St} {Q : VK} (k : ∀ od H1, But a H H1 → H1 a = some (.frz od (dictN P w a (keyed L))) → t σ H1 fun v H' => H' a = some (.frz od (dictN P w a (keyed L))) ∧ Q v (upd H' a (dictN P w a (keyed L)))) : tLockE t σ H Q :=
  r_lockE ⟨a, _, h.1, True.intro, fun od => k od _ But.upd upd_same⟩
theorem unlock_same {u : HO} (h : H a = some u) (b : But a H H1) (e : Same H1 H') : Same H (upd H' a u) := fun c o hc => by
  by_cases hca : c = a
  · subst hca; rw [h] at hc; cases hc; exact upd_same
  · rw [upd_ne hca]; exact e c o (b c o hca hc)
theorem noTup_f {u : HO} {od : Obj} (hu : ∀ xs, u ≠ .tup xs) (h : H a = some (.frz od u)) : NoTup H a := by
  rintro xs (h2 | ⟨o, h2⟩)
  · rw [h] at h2; cases h2
  · rw [h] at h2; cases h2; exact hu _ rfl
theorem KeyAt.lock {b : Addr} {d : PyData} (h : DN P w K H a L) (e : But a H H1) (k : KeyAt K H b d) : KeyAt K H1 b d := k.but e h.noTup
/-- [.. for (k, v) in d.items() ..] -/
theorem lcN {g : TG} {tt : TT} {te : TE} {vs : List Nat} {Q : VK} {σ : L2.St} (Pv : Addr → Nat → Hp → Prop) (h0 : ∀ D H2, H D = none → Same H H2 → H2 D = some (.lst []) → Pv D 0 H2) (hl : ∀ D i H', i ≤ L.length → Pv D i H' → H' a = some (.frz o (dictN P w a (keyed L))))
    (hs : ∀ D i r T H' H2, L[i]? = some r → Pv D i H' → H' T = none → Same H' H2 → H2 T = some (.tup [.ref r.2.1, r.2.2]) → g (.ref T) (wipe σ vs) H2 fun σ2 H2 => wipe σ2 vs = wipe σ vs ∧ tt σ2 H2 fun b H3 => if b = true then te σ2 H3 fun y H4 => Yield D (Pv D (i + 1)) y H4 else Pv D (i + 1) H3)
    (hd : ∀ D H', Pv D L.length H' → Q (.ref D) H') : LcR (ItN P w a o L) g tt te vs Q σ H := fun D hD =>
  lc_it walk_N (Pv D) (h0 D _ hD (ex_new hD) upd_same) (hl D) (fun i x H H' hi p y => by obtain ⟨T, r, hr, rfl, hT, rfl⟩ := y; exact hs D i r T H _ hr p hT (ex_new hT) upd_same) (hd D)
end
def ItemsR (P : Program) (w : World) (x : V) (H1 : Hp) (R : It → Prop) : Prop := ∃ a o L, x = .ref a ∧ H1 a = some (.frz o (dictN P w a (keyed L))) ∧ R (ItN P w a o L)
theorem r_itemsN {P : Program} {w : World} {td : TE} {σ : L2.St} {H : Hp} {R : It → Hp → Prop} (h : td σ H fun x H1 => ItemsR P w x H1 fun J => R J H1) : iItemsN P w td σ H R := h
theorem r_itemsN1 {P : Program} {w : World} {a : Addr} {o : Obj} {L : List DRow} {H : Hp} {R : It → Prop} (h : H a = some (.frz o (dictN P w a (keyed L)))) (q : R (ItN P w a o L)) : ItemsR P w (.ref a) H R := ⟨a, o, L, rfl, h, q⟩
/-! ### small things -/
theorem int_asc {i : Int} (h : 0 ≤ i) : Asc (Str.ofString (toString i)) := by
  obtain ⟨n, rfl⟩ := Int.eq_ofNat_of_zero_le h
  intro c hc
  have e : (Str.ofString (toString ((n : Nat) : Int))).cps.toList = TL.numL n := TL.tl_num n
  rw [e] at hc
  have := TL.numL_digits n c hc
  omega
theorem oPow4 {X : Cx} : OpR X (binaryOp .Pow) (rPow 10 4) := by
  intro pins s σ H x y v u Q I rx ry h
  obtain ⟨rfl, rfl, q⟩ := h
  exact op_pow pins s σ H _ _ v u Q I rx ry ⟨10, 4, rfl, rfl, ⟨by decide, by decide, by decide⟩, q⟩
theorem r_pow4 {H : Hp} {Q : VK} (q : Q (.int 10000) H) : rPow 10 4 (.int 10) (.int 4) H Q := ⟨rfl, rfl, q⟩
theorem log_small {i : Int} (h : -1000000000000 ≤ i ∧ i ≤ 1000000000000) : i.natAbs.log2 < 1920 := by
  by_cases h0 : i.natAbs = 0
  · rw [h0]; decide +kernel
  · exact (Nat.log2_lt h0).mpr (Nat.lt_of_le_of_lt (m := 1000000000000) (by omega) (by decide +kernel))
def rStrI : List V → Hp → VK → Prop := fun xs H Q => ∃ i : Int, xs = [.int i] ∧ i.natAbs.log2 < 1920 ∧ Q (.str (toString i)) H
theorem cStrI {X : Cx} : CallR X (.type "str") rStrI := call_str_int
/-- str(i) -/
theorem r_strI {i : Int} {H : Hp} {Q : VK} (h : 0 ≤ i ∧ i ≤ 1000000000000) (q : ∀ z : Str, Asc z → z.length ≤ 20 → Q (.str z) H) : rStrI [.int i] H Q := ⟨i, rfl, log_small ⟨by omega, h.2⟩, q _ (int_asc h.1) (int_len ⟨by omega, h.2⟩)⟩
theorem r_bm0 {K : PySem.W.Frag} {T : String} {r : V → List V → Hp → VK → Prop} {to : TE} {σ : L2.St} {H : Hp} {Q : VK} (h : to σ H fun x H1 => tyV K T x H1 ∧ r x [] H1 Q) : tBM0 K T r to σ H Q := h
theorem r_reverse {K : PySem.W.Frag} {l : Addr} {xs : List V} {H : Hp} {Q : VK} (h : H l = some (.lst xs)) (q : ∀ H2, But l H H2 → H2 l = some (.lst xs.reverse) → Q .non H2) : tyV K "list" (.ref l) H ∧ rReverse (.ref l) [] H Q := ⟨.inl ⟨rfl, _, SqL.of h⟩, l, xs, rfl, rfl, h, q _ But.upd upd_same⟩
theorem isiL_of {K : PySem.W.Frag} {H : Hp} {a : Addr} {xs : List V} (h : H a = some (.lst xs)) : TyX K H (.ref a) (.type "list") := .base (.lst h)
theorem r_isiLt {K : PySem.W.Frag} {H : Hp} {Q : VK} {a : Addr} {xs : List V} {T : String} (hx : H a = some (.lst xs)) (h : kitB "list" T = some true) (q : Q (.bl true) H) : rIsi K [.ref a, .ty T] H Q := ⟨_, _, _, _, true, rfl, .ty T, isiL_of hx, kit_ty h, q⟩
theorem r_isiPt {K : PySem.W.Frag} {H : Hp} {Q : VK} {a : Addr} {ds : List PyData} {T : String} (hx : Dp K H (.ref a) (.tuple ds)) (h : kitB "tuple" T = some true) (q : Q (.bl true) H) : rIsi K [.ref a, .ty T] H Q := by
  obtain ⟨_, e, us, h1, _⟩ := dp_pt hx
  cases e
  exact r_isiTt h1 h q
theorem nox_P {CX : CXT} {P : Program} {w : World} {K : PySem.W.Frag} {mg : Str → Option Value} {base : Heap} {N : List Str} {q : Str} {sc : Scope} {f : Addr} {cdv : Value} {A : Around} {outer : List PySem.Env} {s : Shared} {H : Hp} {E : XK} : (cxOf CX P w K mg base N q sc f cdv A outer s H E).nox.prog = P := rfl
theorem nox_w {CX : CXT} {P : Program} {w : World} {K : PySem.W.Frag} {mg : Str → Option Value} {base : Heap} {N : List Str} {q : Str} {sc : Scope} {f : Addr} {cdv : Value} {A : Around} {outer : List PySem.Env} {s : Shared} {H : Hp} {E : XK} : (cxOf CX P w K mg base N q sc f cdv A outer s H E).nox.w = w := rfl
theorem cx_P {CX : CXT} {P : Program} {w : World} {K : PySem.W.Frag} {mg : Str → Option Value} {base : Heap} {N : List Str} {q : Str} {sc : Scope} {f : Addr} {cdv : Value} {A : Around} {outer : List PySem.Env} {s : Shared} {H : Hp} {E : XK} : (cxOf CX P w K mg base N q sc f cdv A outer s H E).prog = P := rfl
theorem cx_w {CX : CXT} {P : Program} {w : World} {K : PySem.W.Frag} {mg : Str → Option Value} {base : Heap} {N : List Str} {q : Str} {sc : Scope} {f : Addr} {cdv : Value} {A : Around} {outer : List PySem.Env} {s : Shared} {H : Hp} {E : XK} : (cxOf CX P w K mg base N q sc f cdv A outer s H E).w = w := rfl
end My

set_option Elab.async false
set_option linter.all false
set_option maxRecDepth 100000
set_option maxHeartbeats 4000000
namespace My
open PySem PySem.Spec PyProof.Rows L2
/-! ### wider tables: up to 511 -/
def MaskW (m : Nat) : Prop := MaskOk m ∨ m = 511
def orb : Nat → Nat → List Nat
  | 0, _ => []
  | k + 1, x => x :: orb k ((x * 5 + 1) % 512)
theorem orb_get : ∀ (n a : Nat) {x : Nat}, x ∈ orb n (lcgN 511 a) → ∃ b, b < a + n ∧ lcgN 511 b = x
  | 0, _, _, h => by cases h
  | n + 1, a, x, h => by
    rcases List.mem_cons.mp h with rfl | h
    · exact ⟨a, by omega, rfl⟩
    · obtain ⟨b, hb, e⟩ := orb_get n (a + 1) (x := x) h
      exact ⟨b, by omega, e⟩
theorem orb_all : ((List.range 512).all fun j => (orb 512 0).contains j) = true := by decide +kernel
theorem round511 : lcgN 511 512 = 0 := by decide +kernel
theorem full511 {j : Nat} (h : j ≤ 511) : ∃ b, b ≤ 511 ∧ lcgN 511 b = j := by
  have h1 := List.all_eq_true.mp orb_all j (List.mem_range.mpr (by omega))
  obtain ⟨b, hb, e⟩ := orb_get 512 0 (List.contains_iff_mem.mp h1)
  exact ⟨b, by omega, e⟩
theorem again511 : ∀ k, lcgN 511 (512 + k) = lcgN 511 k
  | 0 => round511
  | k + 1 => by
    have ih := again511 k
    show (lcgN 511 (512 + k) * 5 + 1) % 512 = (lcgN 511 k * 5 + 1) % 512
    rw [ih]
/-- each slot begins a run, early enough -/
theorem runs {m : Nat} (hm : MaskW m) (h : Int) {j : Nat} (hj : j ≤ m) : ∃ n, n ≤ m + 12 ∧ runI m (SetTable.bits h) n = j := by
  rcases hm with hm | rfl
  · exact run_meets hm h hj
  · obtain ⟨a, ha, ea⟩ := full511 (runI_le 511 (SetTable.bits h) 12)
    obtain ⟨b, hb, eb⟩ := full511 hj
    have step : ∀ k, runI 511 (SetTable.bits h) (12 + k) = lcgN 511 (a + k) := fun k => by rw [runI_tail (bits_lt h), ← ea, lcgN_add]
    by_cases c : a ≤ b
    · refine ⟨12 + (b - a), by omega, ?_⟩
      rw [step, show a + (b - a) = b by omega, eb]
    · refine ⟨12 + (b + 512 - a), by omega, ?_⟩
      rw [step, show a + (b + 512 - a) = 512 + b by omega, again511, eb]
theorem oddW {m : Nat} (h : MaskW m) : m % 2 = 1 := by
  rcases h with h | rfl
  · exact mask_odd h
  · rfl
theorem way_in {m : Nat} {h : Int} {k : Nat} : way m h k ≤ m := by
  have hi : SetTable.bits h % (m + 1) ≤ m := Nat.le_of_lt_succ (Nat.mod_lt _ (Nat.succ_pos _))
  have r := runEnd_bd hi
  have q := nth_in k (runAt m (SetTable.bits h % (m + 1)) (SetTable.bits h)) (show SetTable.bits h % (m + 1) + (SetTable.runEnd m (SetTable.bits h % (m + 1)) - SetTable.bits h % (m + 1)) ≤ m by omega)
  exact Nat.le_trans (Nat.le_add_right _ _) q
/-- where each hash sits, and that its way to there is full -/
def Sits (m : Nat) (place : List Nat) (z : List (Nat × Int)) : Prop := ∀ q ∈ z, ∃ k, way m q.2 k = q.1 ∧ ∀ k', k' < k → way m q.2 k' ∈ place
structure TabW (t : SetTable) (hs : List Int) : Prop where
  ris : Ris t.place.toList
  dm : t.dummies = #[]
  sz : t.place.size = hs.length
  mok : MaskW t.mask
  sits : Sits t.mask t.place.toList (t.place.toList.zip hs)
theorem TabW.first {t : SetTable} {hs : List Int} (T : TabW t hs) (hl : hs.length ≤ t.mask) (h : Int) : ∃ K, K < 10 * SetTable.turns t.mask ∧ way t.mask h K ∉ t.place.toList ∧ ∀ k, k < K → way t.mask h k ∈ t.place.toList := by
  obtain ⟨j, hj, hn⟩ := st_missing t.place.toList (t.mask + 1) (by rw [Array.length_toList, T.sz]; omega)
  obtain ⟨n, n1, n2⟩ := runs T.mok h (j := j) (by omega)
  obtain ⟨k, k1, k2⟩ := run_nth t.mask (SetTable.bits h) n
  have kj : way t.mask h k = j := by
    show (nth t.mask (runAt t.mask _ _) k).j = j
    rw [k2]
    exact n2
  obtain ⟨K, q1, q2, q3⟩ := st_least (p := fun k => way t.mask h k ∉ t.place.toList) k (by rw [kj]; exact hn)
  exact ⟨K, by unfold SetTable.turns; omega, q2, fun k' hk' => Classical.byContradiction fun c => q3 k' hk' c⟩
theorem TabW.before {t : SetTable} {hs : List Int} (T : TabW t hs) {h : Int} {K i j : Nat} (hK : way t.mask h K ∉ t.place.toList) (hi : hs[i]? = some h) (hj : t.place.toList[i]? = some j) : ∃ k, k < K ∧ way t.mask h k = j := by
  have hm : (j, h) ∈ t.place.toList.zip hs := List.mem_iff_getElem?.mpr ⟨i, List.getElem?_zip_eq_some.mpr ⟨hj, hi⟩⟩
  obtain ⟨k, e, hb⟩ := T.sits _ hm
  refine ⟨k, Classical.byContradiction fun c => ?_, e⟩
  rcases Nat.lt_or_ge K k with d | d
  · exact hK (hb K d)
  · have : k = K := by omega
    subst this
    exact hK (by rw [e]; exact List.mem_of_getElem? hj)
theorem zip_ins {α β : Type} : ∀ (l : List α) (r : List β) (p : Nat) (x : α) (y : β), l.length = r.length → p ≤ l.length → (l.take p ++ x :: l.drop p).zip (r.take p ++ y :: r.drop p) = (l.zip r).take p ++ (x, y) :: (l.zip r).drop p
  | l, r, 0, x, y, _, _ => by simp
  | [], _, _ + 1, _, _, _, h => by simp at h
  | a :: l, [], _ + 1, _, _, h, _ => by simp at h
  | a :: l, b :: r, p + 1, x, y, h, hp => by
    simp only [List.take_succ_cons, List.drop_succ_cons, List.cons_append, List.zip_cons_cons]
    rw [zip_ins l r p x y (by simpa using h) (by simpa using hp)]
theorem TabW.put {t : SetTable} {hs : List Int} (T : TabW t hs) {h : Int} {K : Nat} (hK : way t.mask h K ∉ t.place.toList) (hb : ∀ k, k < K → way t.mask h k ∈ t.place.toList) :
    (t.put (way t.mask h K)).2 = SetTable.below t.place (way t.mask h K) ∧ SetTable.below t.place (way t.mask h K) ≤ hs.length ∧
    TabW (t.put (way t.mask h K)).1 (hs.take (SetTable.below t.place (way t.mask h K)) ++ h :: hs.drop (SetTable.below t.place (way t.mask h K))) ∧
    (t.put (way t.mask h K)).1.mask = t.mask ∧ (t.put (way t.mask h K)).1.led = t.led ∧ (t.put (way t.mask h K)).1.plain = t.plain ∧ (t.put (way t.mask h K)).1.moves = t.moves ∧ (t.put (way t.mask h K)).1.finger = t.finger ∧
    (t.put (way t.mask h K)).1.fill = hs.length + 1 := by
  obtain ⟨j, hj⟩ : ∃ j, j = way t.mask h K := ⟨_, rfl⟩
  rw [← hj] at hK ⊢
  have cut := (below_cut T.ris j).1
  have hp := put_place t j
  obtain ⟨p, ep⟩ : ∃ p, p = SetTable.below t.place j := ⟨_, rfl⟩
  rw [← ep] at cut hp ⊢
  have len : t.place.toList.length = hs.length := by rw [Array.length_toList]; exact T.sz
  have p1 : p ≤ t.place.toList.length := by rw [Array.length_toList]; exact cut
  have p2 : p ≤ hs.length := by omega
  have new : t.place[SetTable.below t.place j]? ≠ some j := fun e => hK (List.mem_of_getElem? (by rw [Array.getElem?_toList]; exact e))
  have size : (t.put j).1.place.size = hs.length + 1 := by rw [← Array.length_toList, hp, len_ins _ p1, len]
  refine ⟨ep ▸ rfl, p2, ⟨ris_insert T.ris new, put_dm T.dm j, by rw [len_ins _ p2]; exact size, T.mok, ?_⟩, rfl, rfl, rfl, rfl, rfl, ?_⟩
  · intro q hq
    rw [hp, zip_ins _ _ p j h len p1] at hq
    show ∃ k, way t.mask q.2 k = q.1 ∧ ∀ k', k' < k → way t.mask q.2 k' ∈ (t.put j).1.place.toList
    have up : ∀ {x : Nat}, x ∈ t.place.toList → x ∈ (t.put j).1.place.toList := fun {x} hx => by rw [hp]; exact mem_ins.2 (.inr hx)
    rcases mem_ins.1 hq with rfl | hq
    · exact ⟨K, hj.symm, fun k' hk' => up (hb k' hk')⟩
    · obtain ⟨k, e, z⟩ := T.sits q hq
      exact ⟨k, e, fun k' hk' => up (z k' hk')⟩
  · show (t.put j).1.place.size + (t.put j).1.dummies.size = _
    rw [size, put_dm T.dm j]
    rfl
/-! ### laid anew -/
theorem find_free {m : Nat} (hm : MaskW m) (owner : Array (Option Nat)) (h : Int) {j : Nat} (hj : j ≤ m) (hf : oAt owner j = none) :
    ∃ K, SetTable.layClean.free m owner (SetTable.turns m) (SetTable.bits h % (m + 1)) (SetTable.bits h) = some (way m h K) ∧ oAt owner (way m h K) = none ∧ ∀ k, k < K → oAt owner (way m h k) ≠ none := by
  obtain ⟨n, n1, n2⟩ := runs hm h hj
  obtain ⟨o, eo⟩ : ∃ o, o = off m (SetTable.bits h % (m + 1)) (SetTable.bits h) n := ⟨_, rfl⟩
  have ho : way m h o = j := by
    show (nth m (runAt m _ _) o).j = j
    rw [eo, nth_off, itL_run]
    exact n2
  obtain ⟨K, k1, k2, k3⟩ := st_least (p := fun k => oAt owner (way m h k) = none) o (by rw [ho]; exact hf)
  refine ⟨K, free_spec m owner (SetTable.turns m) n _ _ K (by unfold SetTable.turns; omega) (by rw [← eo]; exact k1) (fun k hk => ?_) ?_, k2, k3⟩
  · have := k3 k hk
    cases e : oAt owner (nth m (runAt m (SetTable.bits h % (m + 1)) (SetTable.bits h)) k).j with
    | none => exact absurd e this
    | some _ => rfl
  · have e : oAt owner (nth m (runAt m (SetTable.bits h % (m + 1)) (SetTable.bits h)) K).j = none := k2
    rw [e]
    rfl
theorem own_more {m : Nat} (hm : MaskW m) {done : List Int} {owner : Array (Option Nat)} (W : Own m done owner) (hl : done.length ≤ m) (h : Int) :
    ∃ j, SetTable.layClean.free m owner (SetTable.turns m) (SetTable.bits h % (m + 1)) (SetTable.bits h) = some j ∧ Own m (done ++ [h]) (owner.setIfInBounds j (some done.length)) := by
  obtain ⟨ps, z1, z2⟩ := W.ps
  obtain ⟨j0, y1, y2⟩ := st_missing ps (m + 1) (by omega)
  have y3 : oAt owner j0 = none := Classical.byContradiction fun c => y2 (z2 j0 (by omega) c)
  obtain ⟨K, e1, e2, e3⟩ := find_free hm owner h (j := j0) (by omega) y3
  obtain ⟨w, ew⟩ : ∃ w, w = way m h K := ⟨_, rfl⟩
  have wm : w ≤ m := by rw [ew]; exact way_in
  rw [← ew] at e1 e2
  have here := oAt_set_self (some done.length) (show w < owner.size by rw [W.sz]; omega)
  have keep : ∀ i, oAt owner i ≠ none → oAt (owner.setIfInBounds w (some done.length)) i ≠ none := fun i hi => by
    by_cases c : i = w
    · rw [c, here]; intro z; cases z
    · rw [oAt_set_ne _ c]; exact hi
  refine ⟨w, e1, ⟨by rw [Array.size_setIfInBounds]; exact W.sz, fun j k hj e => ?_, fun k hk => ?_, w :: ps, by simp [z1], fun j hj e => ?_⟩⟩
  · by_cases c : j = w
    · rw [c, here] at e
      cases e
      exact ⟨h, K, by simp, by rw [c, ew], fun k' hk' => keep _ (e3 k' hk')⟩
    · rw [oAt_set_ne _ c] at e
      obtain ⟨h', K', a1, a2, a3⟩ := W.at_ j k hj e
      exact ⟨h', K', by rw [List.getElem?_append_left (List.getElem?_eq_some_iff.mp a1).1]; exact a1, a2, fun k' hk' => keep _ (a3 k' hk')⟩
  · by_cases c : k < done.length
    · obtain ⟨j, hj, e⟩ := W.all k c
      refine ⟨j, hj, ?_⟩
      rw [oAt_set_ne _ (fun z => by rw [z, e2] at e; cases e)]
      exact e
    · have : k = done.length := by simp at hk; omega
      rw [this]
      exact ⟨w, wm, here⟩
  · by_cases c : j = w
    · rw [c]; exact List.mem_cons_self
    · rw [oAt_set_ne _ c] at e
      exact List.mem_cons_of_mem _ (z2 j hj e)
theorem own_fold {m : Nat} (hm : MaskW m) : ∀ (rest done : List Int) (owner : Array (Option Nat)), Own m done owner → done.length + rest.length ≤ m →
    ∃ owner', rest.foldl (stepF m) (some (owner, done.length)) = some (owner', (done ++ rest).length) ∧ Own m (done ++ rest) owner'
  | [], done, owner, W, _ => ⟨owner, by simp, by simpa using W⟩
  | h :: rest, done, owner, W, hl => by
    rw [List.length_cons] at hl
    obtain ⟨j, e, W'⟩ := own_more hm W (by omega) h
    have n1 : (done ++ [h]).length = done.length + 1 := by simp
    obtain ⟨o, f1, f2⟩ := own_fold hm rest (done ++ [h]) _ W' (by omega)
    rw [List.append_assoc, List.singleton_append] at f1 f2
    rw [n1] at f1
    exact ⟨o, by rw [List.foldl_cons, stepF_some e]; exact f1, f2⟩
theorem relay_W (t : SetTable) {hs : Array Int} {wanted M : Nat} (hw : SetTable.sizeAbove wanted - 1 = M) (hM : MaskW M) (hn : hs.size ≤ M) :
    ∃ t' order, t.relaid hs wanted = some (t', order) ∧ order.toList.Perm (List.range hs.size) ∧ TabW t' (order.toList.map fun i => hs.getD i 0) ∧ t'.mask = M ∧ t'.led = t.led ∧ t'.plain = t.plain ∧ t'.dummies = #[] := by
  obtain ⟨owner, f, W⟩ := own_fold hM hs.toList [] _ (Own.init M) (by rw [Array.length_toList]; show 0 + hs.size ≤ M; omega)
  rw [List.nil_append] at f W
  have lay : SetTable.layClean M hs = some owner := by
    rw [layClean_eq]
    have f' : hs.toList.foldl (stepF M) (some (Array.replicate (M + 1) none, 0)) = some (owner, hs.toList.length) := f
    rw [f']
    rfl
  have hr : t.relaid hs wanted = some (tabOf t M owner, ((liveOf M owner).map (·.2)).toArray) := by
    rw [relaid_eq, hw, lay]
    rfl
  have ris := ris_live (fun j => owner.getD j none) (List.range (M + 1)) (by
    unfold Ris
    first | exact List.pairwise_lt_range | exact List.pairwise_lt_range _)
  have r1 : Ris ((liveOf M owner).map (·.1)) := ris.1
  have nd : ((liveOf M owner).map (·.1)).Nodup := List.Pairwise.imp (fun h => Nat.ne_of_lt h) r1
  have mem := fun {j k : Nat} => mem_live (m := M) (j := j) (k := k) W.sz
  have all : ∀ k, k < hs.size → k ∈ (liveOf M owner).map (·.2) := fun k hk => by
    obtain ⟨j, b1, b2⟩ := W.all k (by rw [Array.length_toList]; exact hk)
    exact List.mem_map.mpr ⟨(j, k), mem.2 ⟨b1, b2⟩, rfl⟩
  have len : (liveOf M owner).length = hs.size := by
    obtain ⟨ps, p1, p2⟩ := W.ps
    have a := nat_nodup_len _ ps nd fun x hx => by
      obtain ⟨⟨y, k⟩, hq, rfl⟩ := List.mem_map.mp hx
      obtain ⟨b1, b2⟩ := mem.1 hq
      exact p2 y b1 (by rw [b2]; intro z; cases z)
    have b := nat_nodup_len (List.range hs.size) _ List.nodup_range fun k hk => all k (List.mem_range.mp hk)
    have hz : hs.toList.length = hs.size := Array.length_toList
    rw [List.length_map, p1] at a
    rw [List.length_map, List.length_range] at b
    omega
  refine ⟨tabOf t M owner, _, hr, perm_range hs.size _ (by show ((liveOf M owner).map (·.2)).length = _; rw [List.length_map]; exact len) fun k hk => all k hk, ⟨r1, rfl, ?_, hM, ?_⟩, rfl, rfl, rfl, rfl⟩
  · show ((liveOf M owner).map (·.1)).toArray.size = (((liveOf M owner).map (·.2)).map fun i => hs.getD i 0).length
    simp
  · intro q hq
    have hq' : q ∈ ((liveOf M owner).map (·.1)).zip (((liveOf M owner).map (·.2)).map fun i => hs.getD i 0) := hq
    rw [List.map_map, List.zip_map'] at hq'
    obtain ⟨⟨y, k⟩, hm, rfl⟩ := List.mem_map.mp hq'
    obtain ⟨b1, b2⟩ := mem.1 hm
    obtain ⟨h0, K, a1, a2, a3⟩ := W.at_ y k b1 b2
    have e0 : hs.getD k 0 = h0 := by
      rw [Array.getD_eq_getD_getElem?, ← Array.getElem?_toList, a1]
      rfl
    show ∃ K, way M (hs.getD k 0) K = y ∧ ∀ k', k' < K → way M (hs.getD k 0) k' ∈ (liveOf M owner).map (·.1)
    rw [e0]
    refine ⟨K, a2, fun k' hk' => ?_⟩
    cases z : oAt owner (way M h0 k') with
    | none => exact absurd z (a3 k' hk')
    | some k2 => exact List.mem_map.mpr ⟨(way M h0 k', k2), mem.2 ⟨way_in, z⟩, rfl⟩
theorem size_308 : SetTable.sizeAbove (SetTable.grown 77) = 512 := by decide +kernel
end My

set_option Elab.async false
set_option linter.all false
set_option maxRecDepth 100000
set_option maxHeartbeats 4000000
namespace My
open PySem PySem.Spec PyProof.Rows L2
open PySem.W (EachIs)
/-! ### sets of nested tuples, up to 299 of them -/
section
variable {P : Program} {w : World}
structure SetX (w : World) (h : Heap) (a : Addr) (L : List KV) (es : Array (Int × Value)) (ep : Nat) (t : SetTable) : Prop where
  ob : ∃ o, h.get? a = some o ∧ o.ExactSet ∧ o.data = .set es ep t
  rw : es.toList = rowK w L
  tab : TabW t (L.map (hashK w))
  nd : (L.map Prod.fst).Nodup
  ok : ∀ p ∈ L, TupK h p.1 p.2
  led : w.params.followText "set-order" = true ∨ t.led = true
  free : L.length * 5 < t.mask * 3
  few : L.length < 300
section
variable {A : Around} {E : Value → Shared → Prop} {s : Shared} {a : Addr} {L : List KV} {es : Array (Int × Value)} {ep : Nat} {t : SetTable}
theorem SetX.len {h : Heap} (R : SetX w h a L es ep t) : es.size = L.length := by
  rw [← Array.length_toList, R.rw]
  simp [rowK]
theorem SetX.fit {h : Heap} (R : SetX w h a L es ep t) : t.fits es.size = true := by
  have z1 : t.place.size = L.length := by have := R.tab.sz; simpa using this
  have z2 := R.free
  unfold SetTable.fits SetTable.fill
  rw [R.tab.dm, R.len, Bool.and_eq_true, beq_iff_eq, decide_eq_true_iff]
  refine ⟨z1, ?_⟩
  show t.place.size + 0 ≤ _
  omega
theorem SetX.row {h : Heap} (R : SetX w h a L es ep t) {i : Nat} {p : KV} (hp : L[i]? = some p) : es[i]? = some (hashK w p, p.2) := by
  rw [← Array.getElem?_toList, R.rw]
  unfold rowK
  rw [List.getElem?_map, hp]
  rfl
theorem lookX_go (R : SetX w s.heap a L es ep t) {x : Value} {k : NestedKey} (hx : TupK s.heap k x) (hu : A.units + 16 < cLine) {K : Nat} (hK0 : K < 10 * SetTable.turns t.mask)
    (hK : way t.mask (k.hash w) K ∉ t.place.toList) (hK1 : ∀ c, c < K → way t.mask (k.hash w) c ∈ t.place.toList) {Q : SetFound → Shared → Prop}
    (yes : k ∈ L.map Prod.fst → Q (.there none) s) (no : k ∉ L.map Prod.fst → Q (.free (way t.mask (k.hash w) K) false) s) :
    ∀ (f c : Nat) (st : Option SetTable.Probe), st.getD (t.probeStart (k.hash w)) = posK t (k.hash w) c → c ≤ K → K - c < f →
      (∀ (i : Nat) (p : KV), L[i]? = some p → p.1 = k → ∃ c', c ≤ c' ∧ c' < K ∧ t.place.toList[i]? = some (way t.mask (k.hash w) c')) →
      wpAny (model P w) A (setSearchFrom a x (k.hash w) true f st) Q E s := by
  intro f
  induction f with
  | zero => intro c st _ _ h; exact absurd h (Nat.not_lt_zero _)
  | succ f ih =>
    intro c st e0 hc hf ahead
    obtain ⟨o, ho, hex, hd⟩ := R.ob
    have hgw : ¬ t.gaveWay = true := by
      unfold SetTable.gaveWay
      rw [oddW R.tab.mok]
      decide
    rw [setSearchFrom_succ]
    refine wpAny_bind (wpAny_setState_of ho hd R.fit ?_)
    dsimp only
    refine wp_if_neg hgw ?_
    try refine wpAny_bind (wpAny_pure ?_)
    have shift : ∀ q, nth t.mask (posK t (k.hash w) c) q = posK t (k.hash w) (c + q) := fun q => (nth_add _ _ _ _).symm
    have hashes : ∀ (i : Nat) (p : KV), L[i]? = some p → (es[i]?.map (·.1)).getD 0 = p.1.hash w := fun i p hp => by
      rw [R.row hp]
      rfl
    have met := go_spec t R.tab.ris R.tab.dm (fun i => (es[i]?.map (·.1)).getD 0) (k.hash w) (10 * SetTable.turns t.mask) (K - c) (posK t (k.hash w) c) (pos_dummy t _ c) (by omega)
      (fun q hq => by rw [shift]; exact hK1 (c + q) (by omega)) (by rw [shift, show c + (K - c) = K by omega]; exact hK)
    rcases met with ⟨q, i, hq, hi, hh, hno, hpr⟩ | ⟨hno, hpr⟩
    · rw [shift] at hi hpr
      rw [shift] at hpr
      have hpr : t.probe (fun i => (es[i]?.map (·.1)).getD 0) (k.hash w) (st.getD (t.probeStart (k.hash w))) = some (.candidate (way t.mask (k.hash w) (c + q)) i (posK t (k.hash w) (c + (q + 1)))) := by
        rw [e0]
        exact hpr
      rw [hpr]
      dsimp only
      have hi2 : i < L.length := by
        have z1 := (List.getElem?_eq_some_iff.mp hi).1
        have z2 := R.tab.sz
        rw [List.length_map] at z2
        rw [Array.length_toList] at z1
        omega
      obtain ⟨p, hp⟩ : ∃ p, L[i]? = some p := ⟨_, List.getElem?_eq_getElem hi2⟩
      have hm := List.mem_of_getElem? hp
      obtain ⟨y1, y2, b, hb⟩ := R.ok p hm
      have cmp : wpAny (model P w) A (searchRest a x (k.hash w) true f es t (way t.mask (k.hash w) (c + q)) i (posK t (k.hash w) (c + (q + 1)))) Q E s := by
        unfold searchRest
        rw [R.row hp]
        dsimp only
        refine wpAny_bind (wpAny_holding (eqAt_key p.1 k A s p.2 x y1 hx.1 (by have := hx.2.1; omega) _ _ _ _ ?_))
        refine wpAny_bind (wpAny_setState_of ho hd R.fit ?_)
        dsimp only
        rw [← NestedKey.decide_eq]
        by_cases same : p.1 = k
        · rw [decide_eq_true same]
          refine wp_if_pos rfl (wpAny_pure (yes ?_))
          exact List.mem_map.mpr ⟨p, hm, same⟩
        · rw [decide_eq_false same]
          refine wp_if_neg (by decide) ?_
          try refine wpAny_bind (wpAny_pure ?_)
          rw [sameMem]
          dsimp only
          have live : t.slot (way t.mask (k.hash w) (c + q)) = .live i := slot_live R.tab.ris hi
          simp only [if_true, live, R.row hp]
          rw [hb]
          refine wpAny_bind (wpAny_isSame_ref_self (wpAny_bind (wpAny_pure ?_)))
          simp only [if_true]
          refine wp_if_neg (by decide) ?_
          refine ih (c + (q + 1)) _ rfl (by omega) (by omega) fun i0 p0 h0 hk0 => ?_
          obtain ⟨c', a1, a2, a3⟩ := ahead i0 p0 h0 hk0
          refine ⟨c', ?_, a2, a3⟩
          have z1 : ¬ c' < c + q := fun z => hno (c' - c) i0 (by omega) (by rw [shift, show c + (c' - c) = c' by omega]; exact a3) (by rw [hashes i0 p0 h0, hk0])
          have z2 : c' ≠ c + q := fun z => by
            rw [z] at a3
            have live0 := slot_live R.tab.ris a3
            rw [live] at live0
            cases live0
            rw [hp] at h0
            cases h0
            exact same hk0
          omega
      by_cases hl : t.led = true
      · refine wp_if_neg (by simp [hl]) ?_
        try refine wpAny_bind (wpAny_pure ?_)
        exact cmp
      · refine wp_if_pos (by simp [hl]) ?_
        refine wpAny_bind (seen_no hx (fun y hy => ?_) ?_)
        · obtain ⟨e, he, ee⟩ := List.mem_map.mp hy
          have he1 : e ∈ es.toList := by
            have : e ∈ es ∧ e.1 = k.hash w := by simpa using he
            simpa using this.1
          rw [R.rw] at he1
          obtain ⟨p2, hp2, e2⟩ := List.mem_map.mp he1
          refine ⟨p2.1, ?_⟩
          rw [← ee, ← e2]
          exact R.ok p2 hp2
        · refine wp_if_neg (by decide) ?_
          try refine wpAny_bind (wpAny_pure ?_)
          exact cmp
    · rw [shift, show c + (K - c) = K by omega] at hpr
      have hpr : t.probe (fun i => (es[i]?.map (·.1)).getD 0) (k.hash w) (st.getD (t.probeStart (k.hash w))) = some (.empty (way t.mask (k.hash w) K) none) := by
        rw [e0]
        exact hpr
      rw [hpr]
      dsimp only
      refine wpAny_pure (no fun hm => ?_)
      obtain ⟨p0, h0, hk0⟩ := List.mem_map.mp hm
      obtain ⟨i0, hi0⟩ := List.mem_iff_getElem?.mp h0
      obtain ⟨c', a1, a2, a3⟩ := ahead i0 p0 hi0 hk0
      exact hno (c' - c) i0 (by omega) (by rw [shift, show c + (c' - c) = c' by omega]; exact a3) (by rw [hashes i0 p0 hi0, hk0])
theorem lookX (R : SetX w s.heap a L es ep t) {x : Value} {k : NestedKey} (hx : TupK s.heap k x) (hu : A.units + 16 < cLine) {Q : SetFound → Shared → Prop} (yes : k ∈ L.map Prod.fst → Q (.there none) s)
    (no : ∀ K, k ∉ L.map Prod.fst → way t.mask (k.hash w) K ∉ t.place.toList → (∀ c, c < K → way t.mask (k.hash w) c ∈ t.place.toList) → Q (.free (way t.mask (k.hash w) K) false) s) : wpAny (model P w) A (setSearch a x (k.hash w) true) Q E s := by
  have hfree := R.free
  have hm : (L.map (hashK w)).length ≤ t.mask := by rw [List.length_map]; omega
  obtain ⟨K, h1, h2, h3⟩ := R.tab.first hm (k.hash w)
  have hturn : 10 * SetTable.turns t.mask ≤ 5260 := by
    unfold SetTable.turns
    rcases R.tab.mok with (e | e | e) | e <;> omega
  unfold setSearch
  refine lookX_go R hx hu h1 h2 h3 yes (fun n => no K n h2 h3) 100000 0 none rfl (Nat.zero_le _) (by omega) fun i p hp hk => ?_
  have hh : (L.map (hashK w))[i]? = some (k.hash w) := by
    rw [List.getElem?_map, hp, ← hk]
    rfl
  have hi : i < t.place.toList.length := by
    have z := (List.getElem?_eq_some_iff.mp hh).1
    rw [Array.length_toList, R.tab.sz]
    exact z
  have hj := List.getElem?_eq_getElem hi
  obtain ⟨c, hc, e⟩ := R.tab.before h2 hh hj
  exact ⟨c, Nat.zero_le _, hc, by rw [hj, e]⟩
/-! adding -/
/-- the table is laid anew -/
theorem widerX {o : Obj} (ho : s.heap.get? a = some o) (hex : o.ExactSet) (hd : o.data = .set es ep t) (hr : es.toList = rowK w L) (sz : t.place.size = es.size) (dm : t.dummies = #[]) (fl : es.size ≤ t.mask) (nd : (L.map Prod.fst).Nodup) (ok : ∀ p ∈ L, TupK s.heap p.1 p.2)
    (led : w.params.followText "set-order" = true ∨ t.led = true) (few : L.length < 300) {wanted M : Nat} (hw : SetTable.sizeAbove wanted - 1 = M) (hM : MaskW M) (h128 : SetTable.sizeAbove wanted ≤ 512) (room : L.length * 5 < M * 3) {Q : Unit → Shared → Prop}
    (q : ∀ h' L' es' ep' t', Heap.SameBut a s.heap h' → SetX w h' a L' es' ep' t' → L'.Perm L → Q () { s with heap := h' }) : wpAny (model P w) A (setRelay a wanted) Q E s := by
  have n1 : es.size = L.length := by
    rw [← Array.length_toList, hr]
    simp [rowK]
  have fit : t.fits es.size = true := by
    unfold SetTable.fits SetTable.fill
    rw [dm, Bool.and_eq_true, beq_iff_eq, decide_eq_true_iff]
    refine ⟨sz, ?_⟩
    show t.place.size + 0 ≤ _
    omega
  obtain ⟨t2, order, e, hp, T2, em, el, _, _⟩ := relay_W t (hs := es.map (·.1)) (wanted := wanted) hw hM (by rw [Array.size_map]; omega)
  rw [Array.size_map, n1] at hp
  obtain ⟨L2, r1, r2, r3⟩ := in_order (w := w) hr hp
  rw [← r3] at T2
  have n2 : (order.filterMap (es[·]?)).size = es.size := by
    rw [← Array.length_toList, r1, n1, ← r2.length_eq]
    simp [rowK]
  rw [setRelay_eq]
  refine wpAny_bind (wpAny_setState_of ho hd fit ?_)
  dsimp only
  refine wp_if_neg (by rw [sizeLine_eq]; omega) ?_
  try refine wpAny_bind (wpAny_pure ?_)
  rw [e]
  dsimp only
  refine wpAny_bind ?_
  refine wp_if_neg (by rw [n2]; simp) ?_
  try refine wpAny_bind (wpAny_pure ?_)
  refine wpAny_pure ?_
  dsimp only
  refine wpAny_storeSet_of ho hd ?_ (by rw [n2, n1, sizeLine_eq]; omega)
  have sb : Heap.SameBut a s.heap (s.heap.update a (Obj.putSet (order.filterMap (es[·]?)) t2)) := Heap.SameBut.update ..
  refine q _ L2 _ (ep + 1) t2 sb ⟨⟨_, store_at ho hd, hex, rfl⟩, r1, T2, (r2.map _).nodup_iff.mpr nd, fun p hm => (ok p (r2.mem_iff.mp hm)).but ho hd sb, by rw [el]; exact led, by rw [r2.length_eq, em]; exact room, by rw [r2.length_eq]; exact few⟩ r2
theorem addX (R : SetX w s.heap a L es ep t) {x : Value} {k : NestedKey} (hx : TupK s.heap k x) (hu : A.units + 16 < cLine) (few : L.length + 1 < 300) {Q : Bool → Shared → Prop}
    (q : ∀ b h' L' es' ep' t', Heap.SameBut a s.heap h' → SetX w h' a L' es' ep' t' → (k ∈ L.map Prod.fst → L' = L) → (k ∉ L.map Prod.fst → L'.Perm ((k, x) :: L)) → Q b { s with heap := h' }) : wpAny (model P w) A (setAddHashed a x (k.hash w)) Q E s := by
  obtain ⟨o, ho, hex, hd⟩ := R.ob
  have n1 := R.len
  have fr := R.free
  obtain ⟨i1, i2, b0, hb0⟩ := id hx
  unfold setAddHashed
  refine wpAny_holding ?_
  rw [show (100000 : Nat) = 99999 + 1 from rfl, setAddHashedIn_succ]
  refine wpAny_bind (wpAny_setState_of ho hd R.fit ?_)
  dsimp only
  refine wp_if_neg (by rw [hb0]; simp [byScan, Value.scannable]) ?_
  try refine wpAny_bind (wpAny_pure ?_)
  refine wpAny_bind (lookX R hx hu (fun yes => ?_) fun K no hK hK1 => ?_)
  · dsimp only
    exact wpAny_pure (q false s.heap L es ep t (Heap.SameBut.refl a s.heap) R (fun _ => rfl) fun z => absurd yes z)
  · dsimp only
    refine wpAny_bind (wpAny_setState_of ho hd R.fit ?_)
    dsimp only
    obtain ⟨q1, q2, q3, q4, q5, q6, q7, q8, q9⟩ := R.tab.put hK hK1
    obtain ⟨pt, ept⟩ : ∃ pt, pt = t.put (way t.mask (k.hash w) K) := ⟨_, rfl⟩
    rw [← ept] at q1 q3 q4 q5 q6 q9 ⊢
    obtain ⟨t1, pl⟩ := pt
    dsimp only at q1 q3 q4 q5 q6 q9 ⊢
    subst q1
    have ins : (SetTable.insertAt es (SetTable.below t.place (way t.mask (k.hash w) K)) (k.hash w, x)).toList = rowK w (L.take (SetTable.below t.place (way t.mask (k.hash w) K)) ++ (k, x) :: L.drop (SetTable.below t.place (way t.mask (k.hash w) K))) := by
      rw [SetTable.toList_insertAt, R.rw]
      unfold rowK
      rw [List.map_append, List.map_cons, List.map_take, List.map_drop]
      rfl
    obtain ⟨pl, epl⟩ : ∃ pl, pl = SetTable.below t.place (way t.mask (k.hash w) K) := ⟨_, rfl⟩
    rw [← epl] at q2 q3 ins ⊢
    have pm : (L.take pl ++ (k, x) :: L.drop pl).Perm ((k, x) :: L) := put_perm L pl (k, x)
    obtain ⟨L1, eL1⟩ : ∃ L1, L1 = L.take pl ++ (k, x) :: L.drop pl := ⟨_, rfl⟩
    have eh : L1.map (hashK w) = (L.map (hashK w)).take pl ++ k.hash w :: (L.map (hashK w)).drop pl := by
      rw [eL1, List.map_append, List.map_cons, List.map_take, List.map_drop]
      rfl
    rw [← eh] at q3
    rw [← eL1] at ins pm
    have n2 : L1.length = L.length + 1 := pm.length_eq
    obtain ⟨es1, ees⟩ : ∃ es1, es1 = SetTable.insertAt es pl (k.hash w, x) := ⟨_, rfl⟩
    rw [← ees] at ins ⊢
    have n3 : es1.size = L.length + 1 := by
      rw [← Array.length_toList, ins, ← n2]
      simp [rowK]
    have nd1 : (L1.map Prod.fst).Nodup := (pm.map _).nodup_iff.mpr (List.nodup_cons.mpr ⟨no, R.nd⟩)
    have rest : ∀ t2 : SetTable, t2.place = t1.place → t2.dummies = t1.dummies → t2.mask = t1.mask → t2.led = t1.led → t2.tooFull = t1.tooFull → TabW t2 (L1.map (hashK w)) →
        wpAny (model P w) A (do
          storeSet a es1 t2
          if !false && t2.tooFull then setRelay a (SetTable.grown (es.size + 1))
          return true) Q E s := by
      intro t2 u1 u2 u3 u4 u5 T2
      refine wpAny_bind (wpAny_storeSet_of ho hd ?_ (by rw [n3, sizeLine_eq]; omega))
      have sb : Heap.SameBut a s.heap (s.heap.update a (Obj.putSet es1 t2)) := Heap.SameBut.update ..
      have ho1 := store_at (es' := es1) (t' := t2) ho hd
      obtain ⟨h1, eh1⟩ : ∃ h1, h1 = s.heap.update a (Obj.putSet es1 t2) := ⟨_, rfl⟩
      rw [← eh1] at sb ho1 ⊢
      have ok1 : ∀ p ∈ L1, TupK h1 p.1 p.2 := fun p hp => by
        rcases List.mem_cons.mp (pm.mem_iff.mp hp) with z | z
        · rw [z]; exact hx.but ho hd sb
        · exact (R.ok p z).but ho hd sb
      have led1 : w.params.followText "set-order" = true ∨ t2.led = true := by rw [u4, q5]; exact R.led
      by_cases full : t2.tooFull = true
      · have big : (L.length + 1) * 5 ≥ t.mask * 3 := by
          have z := full
          rw [u5] at z
          unfold SetTable.tooFull at z
          rw [decide_eq_true_iff, q9, List.length_map, q4] at z
          exact z
        have which : (t.mask = 7 ∧ L.length = 4) ∨ (t.mask = 31 ∧ L.length = 18) ∨ (t.mask = 127 ∧ L.length = 76) := by
          rcases R.tab.mok with (e | e | e) | e
          · exact .inl ⟨e, by omega⟩
          · exact .inr (.inl ⟨e, by omega⟩)
          · exact .inr (.inr ⟨e, by omega⟩)
          · omega
        have go : ∀ M, SetTable.sizeAbove (SetTable.grown (L.length + 1)) - 1 = M → MaskW M → SetTable.sizeAbove (SetTable.grown (L.length + 1)) ≤ 512 → (L.length + 1) * 5 < M * 3 →
            wpAny (model P w) A (setRelay a (SetTable.grown (L.length + 1))) (fun _ s' => wpAny (model P w) A (pure true) Q E s') E { s with heap := h1 } := fun M m1 m2 m3 m4 => by
          refine widerX (s := { s with heap := h1 }) ho1 hex rfl ins (by have := T2.sz; rw [List.length_map, n2] at this; rw [this, n3]) T2.dm (by rw [n3, u3, q4]; rcases which with ⟨z, z2⟩ | ⟨z, z2⟩ | ⟨z, z2⟩ <;> omega) nd1 ok1 led1 (by omega) m1 m2 m3 (by rw [n2]; exact m4) fun h2 L2 es2 ep2 t3 sb2 R2 pm2 => ?_
          exact wpAny_pure (q true h2 L2 es2 ep2 t3 (sb.trans sb2) R2 (fun z => absurd z no) fun _ => pm2.trans pm)
        rw [n1]
        first
          | (refine wpAny_bind ?_; refine wp_if_pos (by simp [full]) ?_)
          | (refine wp_if_pos (by simp [full]) ?_; refine wpAny_bind ?_)
        rcases which with ⟨_, z⟩ | ⟨_, z⟩ | ⟨_, z⟩
        · exact go 31 (by rw [z, size_20]) (.inl (.inr (.inl rfl))) (by rw [z, size_20]; decide) (by omega)
        · exact go 127 (by rw [z, size_76]) (.inl (.inr (.inr rfl))) (by rw [z, size_76]; decide) (by omega)
        · exact go 511 (by rw [z, size_308]) (.inr rfl) (by rw [z, size_308]; decide) (by omega)
      · first
          | refine wp_if_neg (by simp [full]) ?_
          | (refine wpAny_bind ?_; refine wp_if_neg (by simp [full]) ?_; refine wpAny_pure ?_)
        refine wpAny_pure (q true h1 L1 es1 (ep + 1) t2 sb ⟨⟨_, ho1, hex, rfl⟩, ins, T2, nd1, ok1, led1, ?_, by omega⟩ (fun z => absurd z no) fun _ => pm)
        have z := full
        rw [u5] at z
        unfold SetTable.tooFull at z
        rw [decide_eq_true_iff, q9, List.length_map] at z
        rw [u3, n2]
        omega
    have T1b : ∀ b, TabW { t1 with plain := b } (L1.map (hashK w)) := fun b => ⟨q3.ris, q3.dm, q3.sz, q3.mok, q3.sits⟩
    by_cases pp : t1.plain = true
    · first
        | (refine wpAny_bind ?_; refine wp_if_pos pp ?_)
        | (refine wp_if_pos pp ?_; refine wpAny_bind ?_)
      refine byValue_some 8 k x s i1 A _ _ fun b => ?_
      cases b
      · simp only [Bool.false_eq_true, if_false]
        exact rest { t1 with plain := false } rfl rfl rfl rfl rfl (T1b false)
      · simp only [if_true]
        exact rest t1 rfl rfl rfl rfl rfl q3
    · first
        | (refine wpAny_bind ?_; refine wp_if_neg pp ?_; refine wpAny_pure ?_)
        | (refine wp_if_neg pp ?_; refine wpAny_bind ?_; refine wpAny_pure ?_)
      simp only [if_true]
      exact rest t1 rfl rfl rfl rfl rfl q3
end
end
end My

set_option Elab.async false
set_option linter.all false
set_option maxRecDepth 100000
set_option maxHeartbeats 4000000
namespace My
open PySem PySem.Spec PyProof.Rows L2
open PySem.W (EachIs)
/-! ### what a kind of set must answer -/
def freshSet (w : World) : Obj := { cls := .type "set", dict := none, data := .set #[] 0 (.fresh 0 0 (!w.params.followText "set-order")) }
theorem led_fresh (w : World) : w.params.followText "set-order" = true ∨ (SetTable.fresh 0 0 (!w.params.followText "set-order")).led = true := by
  show _ ∨ (!w.params.followText "set-order") = true
  cases w.params.followText "set-order"
  · exact .inr rfl
  · exact .inl rfl
structure SetI (P : Program) (w : World) where
  key : Heap → NestedKey → Value → Prop
  st : Heap → Addr → List KV → Prop
  most : Nat
  isKey : ∀ {h : Heap} {k : NestedKey} {v : Value}, key h k v → NestedIs h k v ∧ k.depth ≤ 7
  nodup : ∀ {h : Heap} {a : Addr} {L : List KV}, st h a L → (L.map Prod.fst).Nodup
  keep : ∀ {h h' : Heap} {a : Addr} {L : List KV}, st h a L → (∀ o, h.get? a = some o → h'.get? a = some o) → (∀ p ∈ L, key h' p.1 p.2) → st h' a L
  fresh : ∀ {h : Heap} {a : Addr}, h.get? a = some (freshSet w) → st h a []
  add : ∀ {A : Around} {E : Value → Shared → Prop} {s : Shared} {a : Addr} {L : List KV} {x : Value} {k : NestedKey} {Q : Bool → Shared → Prop}, st s.heap a L → key s.heap k x → A.units + 16 < cLine → L.length + 1 < most →
    (∀ b h' L', Heap.SameBut a s.heap h' → st h' a L' → (k ∈ L.map Prod.fst → L' = L) → (k ∉ L.map Prod.fst → L'.Perm ((k, x) :: L)) → Q b { s with heap := h' }) → wpAny (model P w) A (setAddHashed a x (k.hash w)) Q E s
  out : ∀ {h : Heap} {a : Addr} {L : List KV}, st h a L → ∃ (es : Array (Int × Value)) (ep : Nat) (t : SetTable), SetAt h a es ep t ∧ es.toList.map (·.2) = L.map Prod.snd ∧ t.fits es.size = true ∧ es.size < scanBound ∧ Ris t.place.toList ∧ (w.params.followText "set-order" = true ∨ t.led = true)
/-! ### sets of tuples -/
def tupI (P : Program) (w : World) : SetI P w where
  key := TupK
  st := fun h a L => ∃ es ep t, SetX w h a L es ep t
  most := 300
  isKey := fun h => ⟨h.1, h.2.1⟩
  nodup := fun ⟨_, _, _, R⟩ => R.nd
  keep := fun {h h' a L} ⟨es, ep, t, R⟩ k ok => by
    obtain ⟨o, ho, r⟩ := R.ob
    exact ⟨es, ep, t, ⟨o, k o ho, r⟩, R.rw, R.tab, R.nd, ok, R.led, R.free, R.few⟩
  fresh := fun {h a} ho => ⟨#[], 0, _, ⟨_, ho, ⟨rfl, rfl, rfl⟩, rfl⟩, rfl, ⟨List.Pairwise.nil, rfl, rfl, .inl (.inl rfl), fun q hq => (by cases hq)⟩, List.nodup_nil, fun p hp => (by cases hp), led_fresh w, by show 0 * 5 < 7 * 3; decide, by show 0 < 300; decide⟩
  add := fun ⟨es, ep, t, R⟩ hx hu few q => addX R hx hu few fun b h' L' es' ep' t' sb R' c1 c2 => q b h' L' sb ⟨es', ep', t', R'⟩ c1 c2
  out := fun {h a L} ⟨es, ep, t, R⟩ => by
    obtain ⟨o, ho, hex, hd⟩ := R.ob
    refine ⟨es, ep, t, ⟨o, ho, hex.1, hd⟩, ?_, R.fit, ?_, R.tab.ris, R.led⟩
    · rw [R.rw]
      unfold rowK
      rw [List.map_map]
      rfl
    · have := R.few
      rw [R.len]
      unfold scanBound
      omega
/-! ### sets whose members are looked through -/
/-- a row's image, rearranged, is the image of the row rearranged -/
theorem lift_perm {α β : Type} (f : α → β) : ∀ (L : List α) (l : List β), l.Perm (L.map f) → ∃ L' : List α, l = L'.map f ∧ L'.Perm L
  | [], l, h => ⟨[], by simpa using h.eq_nil, .refl _⟩
  | x :: L, l, h => by
    have hm : f x ∈ l := h.mem_iff.mpr (by simp)
    obtain ⟨l1, l2, rfl⟩ := List.append_of_mem hm
    have h2 : (l1 ++ l2).Perm (L.map f) := by
      have : (f x :: (l1 ++ l2)).Perm (f x :: L.map f) := List.perm_middle.symm.trans h
      exact List.Perm.cons_inv this
    obtain ⟨L', e, p⟩ := lift_perm f L _ h2
    obtain ⟨A, B, rfl, rfl, rfl⟩ := List.map_eq_append_iff.mp e.symm
    exact ⟨A ++ x :: B, by rw [List.map_append, List.map_cons], List.perm_middle.trans (p.cons x)⟩
section
variable {P : Program} {w : World} {Ky : Type} [DecidableEq Ky]
/-- the member v is the key q -/
def KeyS (knd : PySem.KeyKind P w Ky) (emb : Ky → NestedKey) (q : NestedKey) (v : Value) : Prop := ∃ k, q = emb k ∧ knd.is k v = true ∧ v.scannable = true
structure Emb (knd : PySem.KeyKind P w Ky) (emb : Ky → NestedKey) : Prop where
  hash : ∀ k, (emb k).hash w = knd.hash k
  inj : ∀ k j, emb k = emb j → k = j
  is : ∀ (h : Heap) k v, knd.is k v = true → NestedIs h (emb k) v
  flat : ∀ k, (emb k).depth ≤ 7
structure SetL (knd : PySem.KeyKind P w Ky) (emb : Ky → NestedKey) (h : Heap) (a : Addr) (L : List KV) (es : Array (Int × Value)) (ep : Nat) (t : SetTable) : Prop where
  ob : ∃ o, h.get? a = some o ∧ o.ExactSet ∧ o.data = .set es ep t
  rw : es.toList = rowK w L
  ok : ∀ p ∈ L, KeyS knd emb p.1 p.2
  nd : (L.map Prod.fst).Nodup
  few : L.length < scanBound
  fit : t.fits es.size = true
  ris : Ris t.place.toList
  led : w.params.followText "set-order" = true ∨ t.led = true
variable {knd : PySem.KeyKind P w Ky} {emb : Ky → NestedKey} {A : Around} {E : Value → Shared → Prop} {s : Shared} {a : Addr} {L : List KV} {es : Array (Int × Value)} {ep : Nat} {t : SetTable}
theorem SetL.len {h : Heap} (R : SetL knd emb h a L es ep t) : es.size = L.length := by
  rw [← Array.length_toList, R.rw]
  simp [rowK]
theorem elems_of (e : Emb knd emb) (L : List KV) (ok : ∀ p ∈ L, KeyS knd emb p.1 p.2) : ElemsOf knd (rowK w L) := fun r hr => by
  obtain ⟨p, hp, rfl⟩ := List.mem_map.mp hr
  obtain ⟨k, h1, h2, h3⟩ := ok p hp
  exact ⟨⟨k, h2, by show p.1.hash w = _; rw [h1, e.hash]⟩, h3⟩
theorem scan_tail (e : Emb knd emb) {g : Bool → Sem Unit} (hg : ∀ (b : Bool) (s₁ : Shared) (Q' : Unit → Shared → Prop), Q' () s₁ → wpAny (model P w) A (g b) Q' E s₁)
    {o : Obj} (ho : s.heap.get? a = some o) (hex : o.ExactSet) (hd : o.data = .set es ep t) {es1 : Array (Int × Value)} {t2 : SetTable} {L1 : List KV} (rw1 : es1.toList = rowK w L1) (ok1 : ∀ p ∈ L1, KeyS knd emb p.1 p.2) (nd1 : (L1.map Prod.fst).Nodup)
    (few1 : L1.length < scanBound) (hf2 : t2.fits es1.size = true) (hr : Ris t2.place.toList) (hl : w.params.followText "set-order" = true ∨ t2.led = true) {wasDummy : Bool} {R : Option Bool → Shared → Prop}
    (hR : ∀ h' L' es' ep' t', Heap.SameBut a s.heap h' → SetL knd emb h' a L' es' ep' t' → L'.Perm L1 → R (some true) { s with heap := h' }) :
    wpAny (model P w) A (do
        storeSet a es1 t2
        if (!wasDummy && t2.tooFull) = true then do
            g (relayAll t2 es1 (SetTable.grown es1.size)).2.2
            storeSet a (relayAll t2 es1 (SetTable.grown es1.size)).1 (relayAll t2 es1 (SetTable.grown es1.size)).2.1
            pure (some true)
          else pure (some true)) R E s := by
  have n1 : es1.size = L1.length := by
    rw [← Array.length_toList, rw1]
    simp [rowK]
  have hb1 : es1.size < scanBound := by rw [n1]; exact few1
  refine wpAny_bind (wpAny_storeSet_of ho hd ?_ (fits_of_scanBound hb1))
  have ho1 := store_at (es' := es1) (t' := t2) ho hd
  have sb1 := Heap.SameBut.update s.heap a (Obj.putSet es1 t2)
  split
  · have pm := relayAll_perm t2 es1 (SetTable.grown es1.size)
    have hf3 := relayAll_fits t2 es1 (SetTable.grown es1.size)
    have hr3 := relayAll_ris t2 es1 (SetTable.grown es1.size)
    have hl3 := relayAll_led t2 es1 (SetTable.grown es1.size)
    generalize relayAll t2 es1 (SetTable.grown es1.size) = Z at pm hf3 hr3 hl3 ⊢
    obtain ⟨es2, t3, gave⟩ := Z
    dsimp only at pm hf3 hr3 hl3 ⊢
    rw [rw1] at pm
    obtain ⟨L2, e2, p2⟩ := lift_perm _ _ _ pm
    have n2 : es2.size = L1.length := by
      rw [← Array.length_toList, e2, List.length_map, p2.length_eq]
    have hb2 : es2.size < scanBound := by rw [n2]; exact few1
    refine wpAny_bind (hg _ _ _ ?_)
    refine wpAny_bind (wpAny_storeSet_of ho1 rfl ?_ (fits_of_scanBound hb2))
    have ho2 := store_at (es' := es2) (t' := t3) ho1 rfl
    refine wpAny_pure (hR _ L2 _ _ _ (sb1.trans (Heap.SameBut.update _ a _)) ⟨⟨_, ho2, hex, rfl⟩, e2, fun p hp => ok1 p (p2.mem_iff.mp hp), (p2.map _).nodup_iff.mpr nd1, by rw [p2.length_eq]; exact few1, hf3, hr3, hl.imp id fun z => by rw [hl3]; exact z⟩ p2)
  · exact wpAny_pure (hR _ L1 _ _ _ sb1 ⟨⟨_, ho1, hex, rfl⟩, rw1, ok1, nd1, few1, hf2, hr, hl⟩ (.refl _))
theorem scan_add (e : Emb knd emb) (R : SetL knd emb s.heap a L es ep t) {x : Value} {q : NestedKey} (hx : KeyS knd emb q x) (room : L.length + 1 < scanBound) {Q : Bool → Shared → Prop}
    (hQ : ∀ b h' L' es' ep' t', Heap.SameBut a s.heap h' → SetL knd emb h' a L' es' ep' t' → (q ∈ L.map Prod.fst → L' = L) → (q ∉ L.map Prod.fst → L'.Perm ((q, x) :: L)) → Q b { s with heap := h' }) :
    wpAny (model P w) A (setAddHashed a x (q.hash w)) Q E s := by
  obtain ⟨o, ho, hex, hd⟩ := R.ob
  obtain ⟨k, rfl, hkey, hsc⟩ := id hx
  rw [e.hash]
  have hf := R.fit
  have hb : es.size < scanBound := by rw [R.len]; exact R.few
  have hel : ElemsOf knd es.toList := by rw [R.rw]; exact elems_of e L R.ok
  unfold setAddHashed setAddHashedIn
  refine wpAny_holding (wpAny_bind (wpAny_setState_of ho hd hf ?_))
  dsimp only
  rw [byScan_of hsc hb hel]
  simp only [↓reduceIte]
  unfold setAddByScan
  refine wpAny_bind ?_
  refine wpAny_bind (wpAny_rule ?_)
  refine wpAny_bind (wpAny_setScan_of hkey ho hd hf hel ?_)
  cases hfi : List.findIdx? (fun e => knd.is k e.2) es.toList with
  | some j =>
    dsimp only
    obtain ⟨hj, pj, _⟩ := List.findIdx?_eq_some_iff_getElem.mp hfi
    have hmem : es.toList[j] ∈ rowK w L := by rw [← R.rw]; exact List.getElem_mem hj
    obtain ⟨p, hp, ep'⟩ := List.mem_map.mp hmem
    obtain ⟨k', h1, h2, _⟩ := R.ok p hp
    have : es.toList[j].2 = p.2 := by rw [← ep']
    rw [this] at pj
    have ek : k' = k := knd.inj _ _ _ h2 pj
    refine wpAny_pure (wpAny_pure ?_)
    exact hQ false s.heap L es ep t (Heap.SameBut.refl a s.heap) R (fun _ => rfl) fun z => absurd (List.mem_map.mpr ⟨p, hp, by rw [h1, ek]⟩) z
  | none =>
    dsimp only
    have hnk : emb k ∉ L.map Prod.fst := fun z => by
      obtain ⟨p, hp, e1⟩ := List.mem_map.mp z
      obtain ⟨k', h1, h2, _⟩ := R.ok p hp
      have ek : k' = k := e.inj _ _ (h1.symm.trans e1)
      subst ek
      have c := List.findIdx?_eq_none_iff.mp hfi (hashK w p, p.2) (by rw [R.rw]; exact List.mem_map.mpr ⟨p, hp, rfl⟩)
      rw [h2] at c
      cases c
    have hgw : ∀ (b : Bool) {s₁ : Shared} {Q' : Unit → Shared → Prop}, Q' () s₁ → wpAny (model P w) A (match b with | true => rule "set.scan.the-table-gave-way" | false => pure ()) Q' E s₁ :=
      fun b s₁ Q' q => by cases b <;> first | exact wpAny_pure q | exact wpAny_rule q
    have pm := layNew_perm t es (knd.hash k) x
    have hf1 := layNew_fits t es (knd.hash k) x
    have hr1 := layNew_ris t es (knd.hash k) x R.ris
    have hl1 := layNew_led t es (knd.hash k) x
    generalize layNew t es (knd.hash k) x = Z at pm hf1 hr1 hl1 ⊢
    obtain ⟨es1, t1, wasDummy, gave⟩ := Z
    dsimp only at pm hf1 hr1 hl1 ⊢
    rw [Array.toList_push, R.rw] at pm
    have pc : es1.toList.Perm (rowK w ((emb k, x) :: L)) := by
      have : rowK w ((emb k, x) :: L) = (knd.hash k, x) :: rowK w L := by
        unfold rowK
        rw [List.map_cons]
        show ((emb k).hash w, x) :: _ = _
        rw [e.hash]
      rw [this]
      exact pm.trans (List.perm_append_singleton _ _)
    obtain ⟨L1, e1, p1⟩ := lift_perm _ _ _ pc
    have ok1 : ∀ p ∈ L1, KeyS knd emb p.1 p.2 := fun p hp => by
      rcases List.mem_cons.mp (p1.mem_iff.mp hp) with z | z
      · rw [z]; exact hx
      · exact R.ok p z
    have nd1 : (L1.map Prod.fst).Nodup := (p1.map _).nodup_iff.mpr (List.nodup_cons.mpr ⟨hnk, R.nd⟩)
    have few1 : L1.length < scanBound := by rw [p1.length_eq]; exact room
    have hled : w.params.followText "set-order" = true ∨ t1.led = true := R.led.imp id fun z => by rw [hl1]; exact z
    have fin : ∀ h' L' es' ep' t', Heap.SameBut a s.heap h' → SetL knd emb h' a L' es' ep' t' → L'.Perm L1 → Q true { s with heap := h' } := fun h' L' es' ep' t' sb r pl => hQ true h' L' es' ep' t' sb r (fun z => absurd z hnk) fun _ => pl.trans p1
    refine wpAny_bind (hgw _ ?_)
    split
    · refine wpAny_bind ?_
      rw [hashByValue_scannable 8 hsc]
      refine wpAny_pure ?_
      refine scan_tail e ?_ ho hex hd e1 ok1 nd1 few1 ?_ ?_ ?_ ?_
      · intro b s₁ Q' q; cases b <;> first | exact wpAny_pure q | exact wpAny_rule q
      · first | (split <;> first | exact hf1 | exact SetTable.fits_plain_off hf1) | exact hf1
      · first | (split <;> exact hr1) | exact hr1
      · first | (split <;> exact hled) | exact hled
      · intro h' L' es' ep' t' sb r pl; dsimp only; exact wpAny_pure (fin h' L' es' ep' t' sb r pl)
    · refine wpAny_bind (wpAny_pure ?_)
      simp only [↓reduceIte]
      refine scan_tail e ?_ ho hex hd e1 ok1 nd1 few1 hf1 hr1 hled ?_
      · intro b s₁ Q' q; cases b <;> first | exact wpAny_pure q | exact wpAny_rule q
      · intro h' L' es' ep' t' sb r pl; dsimp only; exact wpAny_pure (fin h' L' es' ep' t' sb r pl)
def scanI (knd : PySem.KeyKind P w Ky) (emb : Ky → NestedKey) (e : Emb knd emb) : SetI P w where
  key := fun _ => KeyS knd emb
  st := fun h a L => ∃ es ep t, SetL knd emb h a L es ep t
  most := scanBound
  isKey := fun {h q v} hx => by
    obtain ⟨k, rfl, h1, _⟩ := hx
    exact ⟨e.is h k v h1, e.flat k⟩
  nodup := fun ⟨_, _, _, R⟩ => R.nd
  keep := fun {h h' a L} ⟨es, ep, t, R⟩ k ok => by
    obtain ⟨o, ho, r⟩ := R.ob
    exact ⟨es, ep, t, ⟨o, k o ho, r⟩, R.rw, R.ok, R.nd, R.few, R.fit, R.ris, R.led⟩
  fresh := fun {h a} ho => ⟨#[], 0, _, ⟨_, ho, ⟨rfl, rfl, rfl⟩, rfl⟩, rfl, fun p hp => (by cases hp), List.nodup_nil, by decide, rfl, List.Pairwise.nil, led_fresh w⟩
  add := fun ⟨es, ep, t, R⟩ hx hu few q => scan_add e R hx few fun b h' L' es' ep' t' sb R' c1 c2 => q b h' L' sb ⟨es', ep', t', R'⟩ c1 c2
  out := fun {h a L} ⟨es, ep, t, R⟩ => by
    obtain ⟨o, ho, hex, hd⟩ := R.ob
    refine ⟨es, ep, t, ⟨o, ho, hex.1, hd⟩, ?_, R.fit, by rw [R.len]; exact R.few, R.ris, R.led⟩
    rw [R.rw]
    unfold rowK
    rw [List.map_map]
    rfl
end
theorem emb_int (P : Program) (w : World) : Emb (intKind P w) NestedKey.num where
  hash := fun k => by simp only [NestedKey.hash]; rfl
  inj := fun k j h => NestedKey.num.inj h
  is := fun h k v hv => by
    obtain ⟨t, rfl⟩ := Value.isInt_shape hv
    exact .int k t
  flat := fun k => by simp [NestedKey.depth]
theorem emb_str (P : Program) (w : World) : Emb (PySem.strKind P w) NestedKey.text where
  hash := fun k => by simp only [NestedKey.hash]; rfl
  inj := fun k j h => NestedKey.text.inj h
  is := fun h k v hv => by
    obtain ⟨t, rfl⟩ := Value.isStrOf_shape hv
    exact .text k t
  flat := fun k => by simp [NestedKey.depth]
end My

set_option Elab.async false
set_option linter.all false
set_option maxRecDepth 100000
set_option maxHeartbeats 4000000
namespace My
open PySem PySem.Spec PyProof.Rows L2
open PySem.W (EachIs)
section
variable {P : Program} {w : World} {A : Around} {E : Value → Shared → Prop} {s : Shared}
/-- of the first i of these, each key once -/
structure Met (ks : List KV) (i : Nat) (L : List KV) : Prop where
  sub : ∀ p ∈ L, p ∈ ks.take i
  all : ∀ p ∈ ks.take i, p.1 ∈ L.map Prod.fst
  len : L.length ≤ i
theorem Met.zero (ks : List KV) : Met ks 0 [] := ⟨fun p h => (by cases h), fun p h => (by simp at h), Nat.le_refl _⟩
theorem Met.next {ks L L' : List KV} {i : Nat} {x : KV} (g : Met ks i L) (h : ks[i]? = some x) (c1 : x.1 ∈ L.map Prod.fst → L' = L) (c2 : x.1 ∉ L.map Prod.fst → L'.Perm (x :: L)) : Met ks (i + 1) L' := by
  have ht : ks.take (i + 1) = ks.take i ++ [x] := by rw [List.take_add_one, h]; rfl
  by_cases c : x.1 ∈ L.map Prod.fst
  · rw [c1 c]
    refine ⟨fun p hp => by rw [ht]; exact List.mem_append_left _ (g.sub p hp), fun p hp => ?_, Nat.le_succ_of_le g.len⟩
    rw [ht] at hp
    rcases List.mem_append.mp hp with hp | hp
    · exact g.all p hp
    · rw [List.mem_singleton.mp hp]; exact c
  · have pm := c2 c
    refine ⟨fun p hp => ?_, fun p hp => ?_, by rw [pm.length_eq]; exact Nat.succ_le_succ g.len⟩
    · rw [ht]
      rcases List.mem_cons.mp (pm.mem_iff.mp hp) with z | z
      · rw [z]; exact List.mem_append_right _ List.mem_cons_self
      · exact List.mem_append_left _ (g.sub p z)
    · rw [(pm.map _).mem_iff, List.map_cons]
      rw [ht] at hp
      rcases List.mem_append.mp hp with hp | hp
      · exact List.mem_cons_of_mem _ (g.all p hp)
      · rw [List.mem_singleton.mp hp]; exact List.mem_cons_self
/-- set.update's loop, for any kind of set -/
theorem update_I (S : SetI P w) {It : Addr} {fp wr : List Addr} {G : Array GenState → Array GenState → Prop} {n : Nat} {Pv : Nat → Value → Prop} {St : Nat → Shared → Prop} {R : Result → Shared → Prop}
    (W : WalksS P w A.in1 It fp wr G n Pv St) (a : Addr) (hSf : a ∉ fp) (ks : List KV) (hn : n = ks.length) (hfew : ks.length < S.most) (hval : ∀ i v, Pv i v → ∃ p, ks[i]? = some p ∧ v = p.2)
    (h0 : Heap) (hk : ∀ h' : Heap, (∀ b o, h0.get? b = some o → h'.get? b = some o) → ∀ p ∈ ks, S.key h' p.1 p.2) (hS0 : h0.get? a = none) (hw0 : ∀ b ∈ wr, h0.get? b = none) (hu : A.in1.units + 16 < cLine) :
    ∀ (k i : Nat) (s : Shared), n - i = k → i ≤ n → St i s → (∀ b o, h0.get? b = some o → s.heap.get? b = some o) → (∃ L, S.st s.heap a L ∧ Met ks i L) →
      (∀ s' L, Moved (a :: wr) G s s' → S.st s'.heap a L → Met ks n L → (∀ b o, h0.get? b = some o → s'.heap.get? b = some o) → R (.ok (.ret .none)) s') →
      codeAny (model P w) A (.builtin "set.update.loop" ⟨[.ref a, .ref It], []⟩) R s := by
  have hSw : a ∉ wr := fun h => hSf (W.sub _ h)
  have hsub : ∀ b ∈ wr, b ∈ a :: wr := fun b hb => List.mem_cons_of_mem _ hb
  have keepM : ∀ {s s' : Shared}, Moved wr G s s' → (∀ b o, h0.get? b = some o → s.heap.get? b = some o) → ∀ b o, h0.get? b = some o → s'.heap.get? b = some o := fun hm hkp b o e =>
    hm.heap b o (fun hb => by rw [hw0 b hb] at e; cases e) (hkp b o e)
  intro k
  induction k with
  | zero =>
    intro i s hk' hi hst hkp ⟨L, hS, g⟩ hR
    have hin : i = n := by omega
    subst hin
    refine codeAny_builtin F.entry_set_update_loop ?_
    rw [Around.under_plainId F.plain_set_update_loop _]
    show wpAny _ A.in1 (pyNext (.ref It) >>= _) _ _ s
    refine wpAny_bind (W.done s _ _ hst fun s' hm => ?_)
    show wpAny _ A.in1 (ret Value.none) _ _ s'
    have hkp' := keepM hm hkp
    have sub : ∀ p ∈ L, p ∈ ks := fun p hp => List.mem_of_mem_take (g.sub p hp)
    exact wpAny_pure (hR s' L (hm.mono hsub) (S.keep hS (fun o e => hm.heap a o hSw e) fun p hp => hk _ hkp' p (sub p hp)) g hkp')
  | succ k ih =>
    intro i s hk' hi hst hkp ⟨L, hS, g⟩ hR
    have hlt : i < n := by omega
    refine codeAny_builtin F.entry_set_update_loop ?_
    rw [Around.under_plainId F.plain_set_update_loop _]
    show wpAny _ A.in1 (pyNext (.ref It) >>= _) _ _ s
    refine wpAny_bind (W.item i s _ _ hlt hst fun v s' hP hst' hm => ?_)
    obtain ⟨p, hp, rfl⟩ := hval i v hP
    have hkp' := keepM hm hkp
    have sub : ∀ p ∈ L, p ∈ ks := fun p hp => List.mem_of_mem_take (g.sub p hp)
    have hS' : S.st s'.heap a L := S.keep hS (fun o e => hm.heap a o hSw e) fun q hq => hk _ hkp' q (sub q hq)
    have hx : S.key s'.heap p.1 p.2 := hk _ hkp' p (List.mem_of_getElem? hp)
    have hkk := S.isKey hx
    show wpAny _ A.in1 (holding [p.2] (setAdd a p.2) >>= _) _ _ s'
    refine wpAny_bind (wpAny_holding ?_)
    unfold setAdd
    refine wpAny_holding ?_
    refine wpAny_bind (pyHash_key p.1 p.2 A.in1 s' _ hkk.1 (by have := hkk.2; omega) ?_)
    refine S.add (s := { s' with toks := s'.toks + p.1.draws }) hS' hx hu (by have := g.len; omega) fun b h' L' hsb hS2 c1 c2 => ?_
    have g' : Met ks (i + 1) L' := g.next hp c1 c2
    have hkp2 : ∀ b o, h0.get? b = some o → h'.get? b = some o := fun b o e => (hsb.2 b (fun z => by rw [z, hS0] at e; cases e)).trans (hkp' b o e)
    refine wpAny_pure ⟨plainId_quiet F.plain_set_update_loop _, ih (i + 1) _ (by omega) hlt (W.frame _ s' _ _ hst' (Nat.le_add_right _ _) fun b hb o e => ?_) hkp2 ⟨L', hS2, g'⟩ fun s'' L2 hm'' hS'' g'' hkp'' => ?_⟩
    · rw [hsb.2 b (fun h : b = a => hSf (by rw [← h]; exact hb))]; exact e
    · refine hR s'' L2 (Moved.trans W.gtrans ((hm.mono hsub).then_heap (Nat.le_add_right _ _) fun b o hb e => ?_) hm'') hS'' g'' hkp''
      rw [hsb.2 b (fun h : b = a => hb (by rw [h]; exact List.mem_cons_self))]; exact e

/-- set(xs) of a list -/
theorem call_set_IL (S : SetI P w) {l : Addr} {items : Array Value} (ks : List KV) {Q : Value → Shared → Prop} (hh : A.handled = none) (hl : s.heap.IsList l items) (hit : items.toList = ks.map Prod.snd)
    (hk : ∀ h' : Heap, (∀ b o, s.heap.get? b = some o → h'.get? b = some o) → ∀ p ∈ ks, S.key h' p.1 p.2) (hfew : ks.length < S.most) (hu : A.units + 24 < cLine)
    (h : ∀ (h' : Heap) (tk : Nat) L, S.st h' s.heap.objs.size L → Met ks ks.length L → (∀ b o, s.heap.get? b = some o → h'.get? b = some o) → Q (.ref s.heap.objs.size) { s with heap := h', toks := tk }) :
    wpAny (model P w) A (call (.type "set") [.ref l]) Q E s := by
  have hisz : items.size = ks.length := by
    have q := congrArg List.length hit
    rw [Array.length_toList, List.length_map] at q
    exact q
  obtain ⟨c, tl, hmro⟩ := F.called_set.mro
  have hmade := F.called_set.made
  have hsub := F.called_set.sub
  refine wpAny_call (codeAny_of_tree ?_)
  show wpAny _ _ (callAny (.type "set") _) _ _ _
  refine wpAny_pure ⟨Code.quiet_builtin _ (by decide +kernel), codeAny_builtin F.entry_type_call ?_⟩
  rw [Around.under_plain (weight_type_call_type "set" [.ref l] []) rfl]
  have h1 := F.called_set.notType
  have h2 := F.called_set.canCreate
  have hct := F.typeCall_set_1 (.ref l)
  repeat (any_goals (first | assumption | wp_step))
  refine codeAny_mono (code_set_led1 (.ref l) (E := E) (Q₁ := fun obj s₁ => obj = .ref s.heap.objs.size ∧ s₁ = { s with heap := s.heap.push (freshSet w) }) ⟨rfl, rfl⟩) fun r s₁ hr => ?_
  cases r with
  | error e => exact hr
  | ok fl =>
    cases fl with
    | ret obj =>
      obtain ⟨rfl, rfl⟩ := hr
      have hS : (s.heap.push (freshSet w)).get? s.heap.objs.size = some (freshSet w) := Heap.get?_push_size _ rfl
      have hT : Shared.TypeIs { s with heap := s.heap.push (freshSet w) } (.ref s.heap.objs.size) "set" := ⟨_, hS, rfl⟩
      have hli := F.called_set.init.lookup
      have hbi := F.called_set.init.bind (.ref s.heap.objs.size)
      repeat (any_goals (first | assumption | wp_step))
      refine codeAny_mono (codeAny_call_builtin (R := wants (fun r s₂ => r = .none ∧ ∃ h' tk L, s₂ = { s with heap := h', toks := tk } ∧ S.st h' s.heap.objs.size L ∧ Met ks ks.length L ∧
          (∀ b o, s.heap.get? b = some o → h'.get? b = some o)) E) F.called_set.init.plain F.entry_set_init (check_set_init_1 hT ?_)) fun r₂ s₂ hr₂ => ?_
      · obtain ⟨ol, hol, hcl, nl, hdl⟩ := hl
        obtain ⟨ocls, odict, odata, oslots⟩ := ol
        simp only at hcl hdl
        subst hcl; subst hdl
        have hol' : (s.heap.push (freshSet w)).get? l = some { cls := .type "list", dict := odict, data := .seq items nl, slots := oslots } := Heap.get?_push_of_some _ hol
        have hsls := F.sub_list_set
        have hslf := F.sub_list_frozenset
        have hne : (Value.type "list" == Value.type "dict") = false := by decide
        have hl1 : (s.heap.push (freshSet w)).IsList l items := ⟨_, hol', rfl, nl, rfl⟩
        unfold Builtin.«set.__init__» noKeywords Builtin.Frozenset.updateFrom
        generalize hPI : pyIter = PI
        wp_walk
        subst hPI
        refine wpAny_pyIter_list hl1 ?_
        refine wpAny_bind (wpAny_runValue ?_)
        have hlS : l < s.heap.objs.size := Heap.lt_size hol
        have hh3 : A.in1.in1.in1.handled = none := by simp [hh]
        have hneI : l ≠ (s.heap.push (freshSet w)).objs.size := by
          rw [Heap.size_push]; exact Nat.ne_of_lt (Nat.lt_succ_of_lt hlS)
        have hSf : s.heap.objs.size ∉ [(s.heap.push (freshSet w)).objs.size, l] := by
          rw [Heap.size_push]; simp only [List.mem_cons, List.mem_singleton, List.not_mem_nil, or_false, not_or]
          exact ⟨Nat.ne_of_lt (Nat.lt_succ_self _), Nat.ne_of_gt hlS⟩
        have hval : ∀ (i : Nat) (v : Value), items[i]? = some v → ∃ p, ks[i]? = some p ∧ v = p.2 := fun i v hv => by
          have q : items.toList[i]? = some v := by rw [Array.getElem?_toList]; exact hv
          rw [hit, List.getElem?_map] at q
          cases hq : ks[i]? with
          | none => rw [hq] at q; cases q
          | some p =>
            rw [hq] at q
            exact ⟨p, rfl, (Option.some.inj q).symm⟩
        have none_of : ∀ b, s.heap.objs.size ≤ b → s.heap.get? b = none := fun b hb => by
          cases q : s.heap.get? b with
          | none => rfl
          | some o => exact absurd (Nat.lt_of_lt_of_le (Heap.lt_size q) hb) (Nat.lt_irrefl _)
        refine update_I S ((Walks.list hh3 _ l hneI items).toS) s.heap.objs.size
          hSf ks hisz hfew hval s.heap hk (none_of _ (Nat.le_refl _)) (fun b hb => none_of b (by
            rw [List.mem_singleton.mp hb, Heap.size_push]
            exact Nat.le_succ _)) (by first | exact (by omega) | (simp only [Around.in1_units]; omega)) (items.size - 0) 0 _ (by omega) (Nat.zero_le _)
          ⟨⟨_, Heap.get?_push_size _ rfl, rfl, rfl⟩, (hl1.push _)⟩ (fun b o e => Heap.get?_push_of_some _ (Heap.get?_push_of_some _ e)) ?hS0 ?hR
        case hS0 =>
          exact ⟨[], S.fresh (Heap.get?_push_of_some _ hS), Met.zero ks⟩
        case hR =>
          intro s' L hm hS' g' hkp
          obtain ⟨h', g2, d', tk', os'⟩ := s'
          have eg : g2 = s.gens := hm.gens
          have ed : d' = s.drawn := hm.drawn
          have eo : os' = s.os := hm.os
          subst eg; subst ed; subst eo
          show wpAny _ _ _ _ _ _
          refine wpAny_pure ?_
          show wpAny _ _ (ret Value.none) _ _ _
          rw [hisz] at g'
          exact wpAny_pure ⟨rfl, h', tk', L, rfl, hS', g', hkp⟩
      · cases r₂ with
        | error e => exact hr₂
        | ok fl₂ =>
          cases fl₂ with
          | ret r =>
            obtain ⟨rfl, h', tk, L, rfl, hS', g', hk'⟩ := hr₂
            repeat (any_goals (first | assumption | wp_step))
            exact h _ _ _ hS' g' hk'
          | _ => exact hr₂.elim
    | _ => exact hr.elim

/-- set(xs) of a tuple -/
theorem call_set_IT (S : SetI P w) {l : Addr} {items : Array Value} (ks : List KV) {Q : Value → Shared → Prop} (hh : A.handled = none) (hl : s.heap.IsTuple l items) (hit : items.toList = ks.map Prod.snd)
    (hk : ∀ h' : Heap, (∀ b o, s.heap.get? b = some o → h'.get? b = some o) → ∀ p ∈ ks, S.key h' p.1 p.2) (hfew : ks.length < S.most) (hu : A.units + 24 < cLine)
    (h : ∀ (h' : Heap) (tk : Nat) L, S.st h' s.heap.objs.size L → Met ks ks.length L → (∀ b o, s.heap.get? b = some o → h'.get? b = some o) → Q (.ref s.heap.objs.size) { s with heap := h', toks := tk }) :
    wpAny (model P w) A (call (.type "set") [.ref l]) Q E s := by
  have hisz : items.size = ks.length := by
    have q := congrArg List.length hit
    rw [Array.length_toList, List.length_map] at q
    exact q
  obtain ⟨c, tl, hmro⟩ := F.called_set.mro
  have hmade := F.called_set.made
  have hsub := F.called_set.sub
  refine wpAny_call (codeAny_of_tree ?_)
  show wpAny _ _ (callAny (.type "set") _) _ _ _
  refine wpAny_pure ⟨Code.quiet_builtin _ (by decide +kernel), codeAny_builtin F.entry_type_call ?_⟩
  rw [Around.under_plain (weight_type_call_type "set" [.ref l] []) rfl]
  have h1 := F.called_set.notType
  have h2 := F.called_set.canCreate
  have hct := F.typeCall_set_1 (.ref l)
  repeat (any_goals (first | assumption | wp_step))
  refine codeAny_mono (code_set_led1 (.ref l) (E := E) (Q₁ := fun obj s₁ => obj = .ref s.heap.objs.size ∧ s₁ = { s with heap := s.heap.push (freshSet w) }) ⟨rfl, rfl⟩) fun r s₁ hr => ?_
  cases r with
  | error e => exact hr
  | ok fl =>
    cases fl with
    | ret obj =>
      obtain ⟨rfl, rfl⟩ := hr
      have hS : (s.heap.push (freshSet w)).get? s.heap.objs.size = some (freshSet w) := Heap.get?_push_size _ rfl
      have hT : Shared.TypeIs { s with heap := s.heap.push (freshSet w) } (.ref s.heap.objs.size) "set" := ⟨_, hS, rfl⟩
      have hli := F.called_set.init.lookup
      have hbi := F.called_set.init.bind (.ref s.heap.objs.size)
      repeat (any_goals (first | assumption | wp_step))
      refine codeAny_mono (codeAny_call_builtin (R := wants (fun r s₂ => r = .none ∧ ∃ h' tk L, s₂ = { s with heap := h', toks := tk } ∧ S.st h' s.heap.objs.size L ∧ Met ks ks.length L ∧
          (∀ b o, s.heap.get? b = some o → h'.get? b = some o)) E) F.called_set.init.plain F.entry_set_init (check_set_init_1 hT ?_)) fun r₂ s₂ hr₂ => ?_
      · obtain ⟨ol, hol, hcl, nl, hdl⟩ := hl
        obtain ⟨ocls, odict, odata, oslots⟩ := ol
        simp only at hcl hdl
        subst hcl; subst hdl
        have hol' : (s.heap.push (freshSet w)).get? l = some { cls := .type "tuple", dict := odict, data := .seq items nl, slots := oslots } := Heap.get?_push_of_some _ hol
        have hsls := F.sub_tuple_set
        have hslf := F.sub_tuple_frozenset
        have hne : (Value.type "tuple" == Value.type "dict") = false := by decide
        have hl1 : (s.heap.push (freshSet w)).IsTuple l items := ⟨_, hol', rfl, nl, rfl⟩
        unfold Builtin.«set.__init__» noKeywords Builtin.Frozenset.updateFrom
        generalize hPI : pyIter = PI
        wp_walk
        subst hPI
        refine wpAny_pyIter_tuple hl1 ?_
        refine wpAny_bind (wpAny_runValue ?_)
        have hlS : l < s.heap.objs.size := Heap.lt_size hol
        have hh3 : A.in1.in1.in1.handled = none := by simp [hh]
        have hneI : l ≠ (s.heap.push (freshSet w)).objs.size := by
          rw [Heap.size_push]; exact Nat.ne_of_lt (Nat.lt_succ_of_lt hlS)
        have hSf : s.heap.objs.size ∉ [(s.heap.push (freshSet w)).objs.size, l] := by
          rw [Heap.size_push]; simp only [List.mem_cons, List.mem_singleton, List.not_mem_nil, or_false, not_or]
          exact ⟨Nat.ne_of_lt (Nat.lt_succ_self _), Nat.ne_of_gt hlS⟩
        have hval : ∀ (i : Nat) (v : Value), items[i]? = some v → ∃ p, ks[i]? = some p ∧ v = p.2 := fun i v hv => by
          have q : items.toList[i]? = some v := by rw [Array.getElem?_toList]; exact hv
          rw [hit, List.getElem?_map] at q
          cases hq : ks[i]? with
          | none => rw [hq] at q; cases q
          | some p =>
            rw [hq] at q
            exact ⟨p, rfl, (Option.some.inj q).symm⟩
        have none_of : ∀ b, s.heap.objs.size ≤ b → s.heap.get? b = none := fun b hb => by
          cases q : s.heap.get? b with
          | none => rfl
          | some o => exact absurd (Nat.lt_of_lt_of_le (Heap.lt_size q) hb) (Nat.lt_irrefl _)
        refine update_I S ((Walks.tuple hh3 _ l hneI items).toS) s.heap.objs.size
          hSf ks hisz hfew hval s.heap hk (none_of _ (Nat.le_refl _)) (fun b hb => none_of b (by
            rw [List.mem_singleton.mp hb, Heap.size_push]
            exact Nat.le_succ _)) (by first | exact (by omega) | (simp only [Around.in1_units]; omega)) (items.size - 0) 0 _ (by omega) (Nat.zero_le _)
          ⟨⟨_, Heap.get?_push_size _ rfl, rfl, rfl⟩, (hl1.push _)⟩ (fun b o e => Heap.get?_push_of_some _ (Heap.get?_push_of_some _ e)) ?hS0 ?hR
        case hS0 =>
          exact ⟨[], S.fresh (Heap.get?_push_of_some _ hS), Met.zero ks⟩
        case hR =>
          intro s' L hm hS' g' hkp
          obtain ⟨h', g2, d', tk', os'⟩ := s'
          have eg : g2 = s.gens := hm.gens
          have ed : d' = s.drawn := hm.drawn
          have eo : os' = s.os := hm.os
          subst eg; subst ed; subst eo
          show wpAny _ _ _ _ _ _
          refine wpAny_pure ?_
          show wpAny _ _ (ret Value.none) _ _ _
          rw [hisz] at g'
          exact wpAny_pure ⟨rfl, h', tk', L, rfl, hS', g', hkp⟩
      · cases r₂ with
        | error e => exact hr₂
        | ok fl₂ =>
          cases fl₂ with
          | ret r =>
            obtain ⟨rfl, h', tk, L, rfl, hS', g', hk'⟩ := hr₂
            repeat (any_goals (first | assumption | wp_step))
            exact h _ _ _ hS' g' hk'
          | _ => exact hr₂.elim
    | _ => exact hr.elim
end
end My

set_option Elab.async false
set_option linter.all false
set_option maxRecDepth 100000
set_option maxHeartbeats 4000000
namespace My
open PySem PySem.Spec PyProof.Rows L2
open PySem.W (EachIs)
/-! ### sorted of a set -/
abbrev DV := PyData × Value
section
variable {P : Program} {w : World} {A : Around} {E : Value → Shared → Prop} {s : Shared}
theorem each_pairs {R : Value → PyData → Prop} : ∀ (T : List DV), (∀ q ∈ T, R q.2 q.1) → EachIs R (T.map Prod.snd) (T.map Prod.fst)
  | [], _ => .nil
  | q :: T, h => .cons (h q List.mem_cons_self) (each_pairs T fun r hr => h r (List.mem_cons_of_mem _ hr))
theorem sorted_I (S : SetI P w) {a : Addr} {L : List KV} {Q : Value → Shared → Prop} (R : S.st s.heap a L) (hh : A.handled = none) {T : List DV} (eT : L = T.map fun q => (nk q.1, q.2)) (er : ∀ q ∈ T, ∃ as, Reads s.heap q.2 q.1 as)
    (hal : PySem.W.AllAlike (T.map Prod.fst)) (hk : SortableT (T.map Prod.fst)) (hu : ∀ d ∈ T.map Prod.fst, A.units + 2 + d.depth < cLine) (hL : T.length ≤ 10000)
    (hQ : ∀ s' p (out : List Value) (c : Nat) (V3 : List DV), (∀ b o, s.heap.get? b = some o → s'.heap.get? b = some o) → s'.gens = s.gens → s'.os = s.os → s.heap.objs.size ≤ p →
      s'.heap.get? p = some (seqObj "list" out.toArray c) → V3.Perm T → EachIs (fun v d => (d, v) ∈ T) out ((V3.map Prod.fst).mergeSort (PySem.W.dataLe false id)) → Q (.ref p) s') :
    wpAny (model P w) A (call (.builtin "sorted") [.ref a]) Q E s := by
  obtain ⟨es, ep, t, hat, hes, hfit, hsz, hris, hled⟩ := S.out R
  refine Calls.call_function_entry kind_sorted plain_sorted entry_sorted (args_sorted1 _) ?_
  unfold Builtin.«sorted»
  refine wpAny_bind (m := checkCount "sorted" 1 1 _) (wpAny_pure ?_)
  refine wpAny_bind (collect_set (A := A.in1) hh hat hfit hsz hris hled fun s1 vs k1 hz g1 o1 pm => ?_)
  have e2 : L.map Prod.snd = T.map Prod.snd := by rw [eT, List.map_map]; rfl
  rw [hes, e2] at pm
  obtain ⟨V3, rfl, p3⟩ := lift_perm _ _ _ pm
  have hvl : (V3.map Prod.snd).length ≤ sizeLine := by rw [List.length_map, p3.length_eq, sizeLine_eq]; omega
  refine wpAny_bind (wpAny_newList ?_ hvl)
  have hoL : (s1.heap.push (seqObj "list" (V3.map Prod.snd).toArray 0)).get? s1.heap.objs.size = some (seqObj "list" (V3.map Prod.snd).toArray 0) := Heap.get?_push_size _ rfl
  have pd : ∀ d, d ∈ V3.map Prod.fst ↔ d ∈ T.map Prod.fst := fun d => (p3.map Prod.fst).mem_iff
  have hal3 : PySem.W.AllAlike ((V3.map Prod.fst).map id) := by
    rw [List.map_id]
    exact fun x hx y hy => hal x ((pd x).mp hx) y ((pd y).mp hy)
  have hk3 : SortableT (V3.map Prod.fst) := hk.imp (fun h d hd => h d ((pd d).mp hd)) fun h d hd => h d ((pd d).mp hd)
  have old : ∀ b o, s.heap.get? b = some o → (PySem.W.sortingHeap (s1.heap.push (seqObj "list" (V3.map Prod.snd).toArray 0)) s1.heap.objs.size (V3.map Prod.snd)).get? b = some o := fun b o e => by
    have q := k1 b o e
    exact PySem.W.sortingHeap_old (Nat.ne_of_lt (Heap.lt_size q)) (Heap.get?_push_of_some _ q)
  have er3 : EachIs (fun v d => ∃ as, Reads (PySem.W.sortingHeap (s1.heap.push (seqObj "list" (V3.map Prod.snd).toArray 0)) s1.heap.objs.size (V3.map Prod.snd)) v d as) (V3.map Prod.snd) (V3.map Prod.fst) := each_pairs V3 fun q hq => by
    obtain ⟨as, r⟩ := er q (p3.mem_iff.mp hq)
    exact ⟨as, PyProof.Rows.Reads.keeps old r⟩
  have sorts := sortsAt_data (prog := P) (w := w) (A := A.in1.in1) (s := { s1 with heap := PySem.W.sortingHeap (s1.heap.push (seqObj "list" (V3.map Prod.snd).toArray 0)) s1.heap.objs.size (V3.map Prod.snd) }) er3 (by rw [List.map_id] at hal3; exact hal3) hk3 fun d hd => by
    have := hu d ((pd d).mp hd)
    first | exact this | (show A.in1.in1.units + _ < _; exact this)
  refine wpAny_bind (wpAny_holding (wpAny_call_entry slot_list_sort ⟨_, hoL, rfl⟩ entry_list_sort (PySem.W.list_sort_vals (s := { s1 with heap := s1.heap.push (seqObj "list" (V3.map Prod.snd).toArray 0) }) hoL sorts hvl ⟨_, rfl, ?_⟩) (args_list_sort _)))
  obtain ⟨c, hc⟩ := sortedHeap_at (vs := V3.map Prod.snd) (out := (PySem.W.sortVals (PySem.W.dataKind (PySem.W.sortingHeap (s1.heap.push (seqObj "list" (V3.map Prod.snd).toArray 0)) s1.heap.objs.size (V3.map Prod.snd)) (V3.map Prod.fst)) false (V3.map Prod.snd) (V3.map Prod.snd)).toArray) hoL
  have srt := PySem.W.sortVals_data (h' := PySem.W.sortingHeap (s1.heap.push (seqObj "list" (V3.map Prod.snd).toArray 0)) s1.heap.objs.size (V3.map Prod.snd)) (R := fun v d => (d, v) ∈ T) (enc := id) false (each_pairs V3 fun q hq => p3.mem_iff.mp hq) er3 hal3
  rw [List.map_id] at srt
  refine wpAny_pure ⟨_, rfl, hQ _ s1.heap.objs.size _ c V3 (fun b u e => ?_) g1 o1 hz hc p3 srt⟩
  have q := k1 b u e
  have hlt := Heap.lt_size q
  show (sortedHeap (s1.heap.push (seqObj "list" (V3.map Prod.snd).toArray 0)) s1.heap.objs.size (V3.map Prod.snd) _).get? b = some u
  rw [sortedHeap_old (Nat.ne_of_lt hlt) (by rw [size_push']; exact Nat.lt_succ_of_lt hlt)]
  exact Heap.get?_push_of_some _ q
end
end My

set_option Elab.async false
set_option linter.all false
set_option maxRecDepth 100000
set_option maxHeartbeats 4000000
namespace My
open PySem PySem.Spec PyProof.Rows L2
open PySem.W (EachIs)
/-! ### sorted(set(xs)) of pure data -/
/-- ints, or texts, or tuples that are alike -/
structure SetOk (ds : List PyData) : Prop where
  pure : ∀ d ∈ ds, pureD d = true ∧ d.depth ≤ 7
  alike : PySem.W.AllAlike ds
  kind : ((∀ d ∈ ds, ∃ i, d = .int i) ∧ ds.length ≤ 1000) ∨ ((∀ d ∈ ds, ∃ x, d = .str x) ∧ ds.length ≤ 1000) ∨ ((∀ d ∈ ds, ∃ xs, d = .tuple xs) ∧ ds.length < 300)
theorem SetOk.sorts {ds es : List PyData} (h : SetOk ds) (m : ∀ d ∈ es, d ∈ ds) : SortableT es := by
  rcases h.kind with ⟨h, _⟩ | ⟨h, _⟩ | ⟨h, _⟩
  · exact .inr fun d hd => by
      obtain ⟨i, rfl⟩ := h d (m d hd)
      exact ⟨(by intro z; cases z), (by intro xs z; cases z)⟩
  · exact .inr fun d hd => by
      obtain ⟨i, rfl⟩ := h d (m d hd)
      exact ⟨(by intro z; cases z), (by intro xs z; cases z)⟩
  · exact .inl fun d hd => h d (m d hd)
theorem SetOk.len {ds : List PyData} (h : SetOk ds) : ds.length ≤ 1000 := by
  rcases h.kind with ⟨_, h⟩ | ⟨_, h⟩ | ⟨_, h⟩ <;> omega
theorem zip_left {R : Value → PyData → Prop} : ∀ {us : List Value} {ds : List PyData}, EachIs R us ds → (ds.zip us).map Prod.fst = ds ∧ (ds.zip us).map Prod.snd = us ∧ ∀ q ∈ ds.zip us, R q.2 q.1
  | _, _, .nil => ⟨rfl, rfl, fun q hq => by cases hq⟩
  | _, _, .cons h t => by
    obtain ⟨e1, e2, e3⟩ := zip_left t
    refine ⟨by rw [List.zip_cons_cons, List.map_cons, e1], by rw [List.zip_cons_cons, List.map_cons, e2], fun q hq => ?_⟩
    rw [List.zip_cons_cons] at hq
    rcases List.mem_cons.mp hq with z | z
    · rw [z]; exact h
    · exact e3 q z
/-- members of an image come from a list -/
theorem lift_mem {α β : Type} (f : α → β) (Z : List α) : ∀ L : List β, (∀ p ∈ L, p ∈ Z.map f) → ∃ T : List α, L = T.map f ∧ ∀ q ∈ T, q ∈ Z
  | [], _ => ⟨[], rfl, fun q hq => by cases hq⟩
  | p :: L, h => by
    obtain ⟨q, hq, e⟩ := List.mem_map.mp (h p List.mem_cons_self)
    obtain ⟨T, e2, hT⟩ := lift_mem f Z L fun r hr => h r (List.mem_cons_of_mem _ hr)
    exact ⟨q :: T, by rw [List.map_cons, e, e2], fun r hr => by
      rcases List.mem_cons.mp hr with z | z
      · rw [z]; exact hq
      · exact hT r z⟩
section
variable {X : Cx} {pins : List (Addr × Obj)} {σ : L2.St} {H : Hp} {s : Shared}
/-- what a kind of set asks of the data, told of this heap and every later one -/
def KeysOk (S : SetI X.prog X.w) (s : Shared) (Z : List DV) : Prop := ∀ h' : Heap, (∀ b o, s.heap.get? b = some o → h'.get? b = some o) → ∀ q ∈ Z, S.key h' (nk q.1) q.2
theorem keys_of (I : Inv X pins σ H s) {us : List Value} {ds : List PyData} (e : EachIs (fun v d => ∃ y, RelV y v ∧ Dp X.K H y d) us ds) (ok : SetOk ds) : ∃ S : SetI X.prog X.w, KeysOk S s (ds.zip us) ∧ ds.length < S.most := by
  obtain ⟨e1, e2, e3⟩ := zip_left e
  have md : ∀ q ∈ ds.zip us, q.1 ∈ ds := fun q hq => by rw [← e1]; exact List.mem_map.mpr ⟨q, hq, rfl⟩
  rcases ok.kind with ⟨h, hl⟩ | ⟨h, hl⟩ | ⟨h, hl⟩
  · refine ⟨scanI (intKind X.prog X.w) _ (emb_int X.prog X.w), fun h' k q hq => ?_, by show _ < scanBound; unfold scanBound; omega⟩
    obtain ⟨y, r, hd⟩ := e3 q hq
    obtain ⟨i, hi⟩ := h q.1 (md q hq)
    rw [hi] at hd
    cases hd
    obtain ⟨t, ht⟩ := r
    exact ⟨i, by rw [hi]; rfl, by rw [ht]; exact intKind_is _ _ i t, by rw [ht]; rfl⟩
  · refine ⟨scanI (PySem.strKind X.prog X.w) _ (emb_str X.prog X.w), fun h' k q hq => ?_, by show _ < scanBound; unfold scanBound; omega⟩
    obtain ⟨y, r, hd⟩ := e3 q hq
    obtain ⟨x, hx⟩ := h q.1 (md q hq)
    rw [hx] at hd
    cases hd
    obtain ⟨t, ht⟩ := r
    exact ⟨x, by rw [hx]; rfl, by rw [ht]; exact strKind_is _ _ x t, by rw [ht]; rfl⟩
  · refine ⟨tupI X.prog X.w, fun h' k q hq => ?_, hl⟩
    obtain ⟨y, r, hd⟩ := e3 q hq
    have p := ok.pure q.1 (md q hq)
    have hn := nk_is I q.1 y q.2 p.1 hd r
    obtain ⟨xs, hx⟩ := h q.1 (md q hq)
    refine ⟨NestedIs.at (fun b u vs n hb _ => k b u hb) _ _ hn, by rw [nk_depth q.1 p.1]; exact p.2, ?_⟩
    rw [hx] at hd
    cases hd
    exact ⟨_, r⟩
def rSortSet (K : PySem.W.Frag) : V → Hp → VK → Prop := fun x H Q => ∃ (l : Addr) (xs : List V) (ds : List PyData), x = .ref l ∧ (SqL K H l xs ∨ SqT K H l xs) ∧ DpAll K H xs ds ∧ SetOk ds ∧
  ∀ (es : List PyData) (ys : List V) (p : Addr), es.Nodup → (∀ d, d ∈ es ↔ d ∈ ds) → DpAll K H ys (es.mergeSort (PySem.W.dataLe false id)) → H p = none → Q (.ref p) (upd H p (.lst ys))
def tSortSet (K : PySem.W.Frag) (ta : TE) : TE := fun σ H Q => ta σ H fun x H1 => rSortSet K x H1 Q
theorem r_sortSetT {K : PySem.W.Frag} {ta : TE} {Q : VK} (h : ta σ H fun x H1 => rSortSet K x H1 Q) : tSortSet K ta σ H Q := h
theorem pe_sortSet {a : Expr} {ta : TE} {p p2 q pos : Pos} (hc : X.calm = true) (hu : X.A.units + 64 < cLine) (hg : Gl X "sorted") (hm : X.mg "sorted" = none) (hg2 : Gl X "set") (hm2 : X.mg "set" = none) (ha : PE X a ta)
    (na : starEach [a] X.env = (false, eval a X.env) :: starEach [] X.env := by rfl) : PE X (.Call (.Name "sorted" p) [.Call (.Name "set" p2) [a] [] q] [] pos) (tSortSet X.K ta) := by
  refine ⟨fun pins s σ H Q I h => ?_⟩
  refine Call_ (ld_blt I hg hm boot_sorted ?_)
  refine PyProof.Rows.callWith_builtin1 (PyProof.Rows.args_cons ?_ rfl) rfl rfl
  refine Call_ (ld_blt I hg2 hm2 PyProof.Rows.boot_set ?_)
  refine PyProof.Rows.callWith_type1 (PyProof.Rows.args_cons (thn (ha.run pins s σ H _ I h) fun v s1 ⟨x, H1, I1, r1, q1⟩ => PyProof.Rows.args_nil ?_) na) na rfl
  obtain ⟨l, xs, ds, rfl, hq, hd, ok, q1⟩ := q1
  cases r1
  obtain ⟨its, rv, hat⟩ : ∃ its : List Value, Vals xs its ∧ (s1.heap.IsList l its.toArray ∨ s1.heap.IsTuple l its.toArray) := by
    rcases hq with hq | hq
    · obtain ⟨its, rv, pl, _⟩ := I1.list hq
      exact ⟨its, rv, .inl pl.isList⟩
    · obtain ⟨its, rv, ⟨o, ho, hc, n, hd⟩, _⟩ := I1.tuple hq
      exact ⟨its, rv, .inr ⟨o, ho, hc, n, hd⟩⟩
  have ev := each_of_vals rv hd
  obtain ⟨e1, e2, e3⟩ := zip_left ev
  obtain ⟨S, hS, hmost⟩ := keys_of I1 ev ok
  have hlen : (ds.zip its).length = ds.length := by
    have := congrArg List.length e1
    rwa [List.length_map] at this
  rcases hat with hat | hat
  · refine call_set_IL S ((ds.zip its).map fun q => (nk q.1, q.2)) (I1.ok.hd hc) hat (by rw [List.map_map]; show its = _; exact e2.symm) (fun h' k p hp => ?_) (by rw [List.length_map, hlen]; exact hmost) (by omega) fun h' tk L hst g k => ?_
    · obtain ⟨q, hq, rfl⟩ := List.mem_map.mp hp
      exact hS h' k q hq
    refine PyProof.Rows.args_nil ?_
    obtain ⟨T, eT, hT⟩ := lift_mem (fun q : DV => (nk q.1, q.2)) (ds.zip its) L fun p hp => List.mem_of_mem_take (g.sub p hp)
    have I2 : Inv X pins σ H1 { s1 with heap := h', toks := tk } := I1.kept fun b o e => k b o e
    have md : ∀ q ∈ T, q.1 ∈ ds := fun q hq => by rw [← e1]; exact List.mem_map.mpr ⟨q, hT q hq, rfl⟩
    have mT : ∀ d ∈ T.map Prod.fst, d ∈ ds := fun d hd => by
      obtain ⟨q, hq, rfl⟩ := List.mem_map.mp hd
      exact md q hq
    have lT : T.length ≤ ds.length := by
      have := g.len
      rw [eT, List.length_map, List.length_map, hlen] at this
      exact this
    have ndT : (T.map Prod.fst).Nodup := by
      have := S.nodup hst
      rw [eT, List.map_map] at this
      have h2 : T.map (Prod.fst ∘ fun q : DV => (nk q.1, q.2)) = (T.map Prod.fst).map nk := by rw [List.map_map]; rfl
      rw [h2] at this
      exact nodup_of_map this
    have allT : ∀ d ∈ ds, d ∈ T.map Prod.fst := fun d hd => by
      rw [← e1] at hd
      obtain ⟨q, hq, rfl⟩ := List.mem_map.mp hd
      have hm := g.all (nk q.1, q.2) (by rw [List.take_length]; exact List.mem_map.mpr ⟨q, hq, rfl⟩)
      rw [eT, List.map_map] at hm
      obtain ⟨q2, hq2, e4⟩ := List.mem_map.mp hm
      have e5 : q2.1 = q.1 := nk_inj _ _ (ok.pure _ (md q2 hq2)).1 (ok.pure _ (by rw [← e1]; exact List.mem_map.mpr ⟨q, hq, rfl⟩)).1 e4
      exact List.mem_map.mpr ⟨q2, hq2, e5⟩
    refine sorted_I S (s := { s1 with heap := h', toks := tk }) hst (I2.ok.hd hc) eT (fun q hq => ?_) (fun x hx y hy => ok.alike x (mT x hx) y (mT y hy)) (ok.sorts mT) (fun d hd => by have := (ok.pure d (mT d hd)).2; omega) (by have := ok.len; omega) fun s' p out c V3 k2 g2 o2 hp hg p3 srt => ?_
    · obtain ⟨y, r, hd⟩ := e3 q (hT q hq)
      exact Dp.reads I2 _ y _ hd r
    have srt2 : EachIs (fun v d => ∃ y, RelV y v ∧ Dp X.K H1 y d) out ((V3.map Prod.fst).mergeSort (PySem.W.dataLe false id)) := srt.mono fun v d hv => e3 (d, v) (hT _ hv)
    obtain ⟨ys, r2, h3⟩ := vals_of_each srt2
    have hn : H1 p = none := I2.hok.fresh hp
    have hyl : ys.length ≤ sizeLine := by
      have := ok.len
      have n3 := p3.length_eq
      have n4 := dpAll_len h3
      rw [List.length_mergeSort, List.length_map] at n4
      rw [sizeLine_eq]
      omega
    have J : Inv X pins σ (upd H1 p (.lst ys)) s' := I2.call' (ch := []) o2 (Un.laid k2 hp hn) (I2.hok.laid k2 hp ⟨hyl, out, c, r2, hg⟩) (by rw [g2]; exact I2.bare) (fun _ z => nomatch z)
    have pd : ∀ d, d ∈ V3.map Prod.fst ↔ d ∈ T.map Prod.fst := fun d => (p3.map Prod.fst).mem_iff
    exact ⟨.ref p, _, J, rfl, q1 (V3.map Prod.fst) ys p ((p3.map _).nodup_iff.mpr ndT) (fun d => (pd d).trans ⟨mT d, allT d⟩) h3 hn⟩
  · refine call_set_IT S ((ds.zip its).map fun q => (nk q.1, q.2)) (I1.ok.hd hc) hat (by rw [List.map_map]; show its = _; exact e2.symm) (fun h' k p hp => ?_) (by rw [List.length_map, hlen]; exact hmost) (by omega) fun h' tk L hst g k => ?_
    · obtain ⟨q, hq, rfl⟩ := List.mem_map.mp hp
      exact hS h' k q hq
    refine PyProof.Rows.args_nil ?_
    obtain ⟨T, eT, hT⟩ := lift_mem (fun q : DV => (nk q.1, q.2)) (ds.zip its) L fun p hp => List.mem_of_mem_take (g.sub p hp)
    have I2 : Inv X pins σ H1 { s1 with heap := h', toks := tk } := I1.kept fun b o e => k b o e
    have md : ∀ q ∈ T, q.1 ∈ ds := fun q hq => by rw [← e1]; exact List.mem_map.mpr ⟨q, hT q hq, rfl⟩
    have mT : ∀ d ∈ T.map Prod.fst, d ∈ ds := fun d hd => by
      obtain ⟨q, hq, rfl⟩ := List.mem_map.mp hd
      exact md q hq
    have lT : T.length ≤ ds.length := by
      have := g.len
      rw [eT, List.length_map, List.length_map, hlen] at this
      exact this
    have ndT : (T.map Prod.fst).Nodup := by
      have := S.nodup hst
      rw [eT, List.map_map] at this
      have h2 : T.map (Prod.fst ∘ fun q : DV => (nk q.1, q.2)) = (T.map Prod.fst).map nk := by rw [List.map_map]; rfl
      rw [h2] at this
      exact nodup_of_map this
    have allT : ∀ d ∈ ds, d ∈ T.map Prod.fst := fun d hd => by
      rw [← e1] at hd
      obtain ⟨q, hq, rfl⟩ := List.mem_map.mp hd
      have hm := g.all (nk q.1, q.2) (by rw [List.take_length]; exact List.mem_map.mpr ⟨q, hq, rfl⟩)
      rw [eT, List.map_map] at hm
      obtain ⟨q2, hq2, e4⟩ := List.mem_map.mp hm
      have e5 : q2.1 = q.1 := nk_inj _ _ (ok.pure _ (md q2 hq2)).1 (ok.pure _ (by rw [← e1]; exact List.mem_map.mpr ⟨q, hq, rfl⟩)).1 e4
      exact List.mem_map.mpr ⟨q2, hq2, e5⟩
    refine sorted_I S (s := { s1 with heap := h', toks := tk }) hst (I2.ok.hd hc) eT (fun q hq => ?_) (fun x hx y hy => ok.alike x (mT x hx) y (mT y hy)) (ok.sorts mT) (fun d hd => by have := (ok.pure d (mT d hd)).2; omega) (by have := ok.len; omega) fun s' p out c V3 k2 g2 o2 hp hg p3 srt => ?_
    · obtain ⟨y, r, hd⟩ := e3 q (hT q hq)
      exact Dp.reads I2 _ y _ hd r
    have srt2 : EachIs (fun v d => ∃ y, RelV y v ∧ Dp X.K H1 y d) out ((V3.map Prod.fst).mergeSort (PySem.W.dataLe false id)) := srt.mono fun v d hv => e3 (d, v) (hT _ hv)
    obtain ⟨ys, r2, h3⟩ := vals_of_each srt2
    have hn : H1 p = none := I2.hok.fresh hp
    have hyl : ys.length ≤ sizeLine := by
      have := ok.len
      have n3 := p3.length_eq
      have n4 := dpAll_len h3
      rw [List.length_mergeSort, List.length_map] at n4
      rw [sizeLine_eq]
      omega
    have J : Inv X pins σ (upd H1 p (.lst ys)) s' := I2.call' (ch := []) o2 (Un.laid k2 hp hn) (I2.hok.laid k2 hp ⟨hyl, out, c, r2, hg⟩) (by rw [g2]; exact I2.bare) (fun _ z => nomatch z)
    have pd : ∀ d, d ∈ V3.map Prod.fst ↔ d ∈ T.map Prod.fst := fun d => (p3.map Prod.fst).mem_iff
    exact ⟨.ref p, _, J, rfl, q1 (V3.map Prod.fst) ys p ((p3.map _).nodup_iff.mpr ndT) (fun d => (pd d).trans ⟨mT d, allT d⟩) h3 hn⟩
end
end My

set_option Elab.async false
set_option linter.all false
set_option maxRecDepth 100000
set_option maxHeartbeats 4000000
namespace My
open PySem PySem.Spec PyProof.Rows L2
open PySem.W (alike dataLt dataLe AllAlike keyToks)
/-! ### the order of alike data is strict and total -/
theorem dlt_irrefl (d : PyData) : dataLt d d = false := lex_irrefl _
theorem dlt_trans {a b c : PyData} (h1 : dataLt a b = true) (h2 : dataLt b c = true) : dataLt a c = true := lex_trans _ _ _ h1 h2
theorem dlt_asymm {a b : PyData} (h : dataLt a b = true) : dataLt b a = false := by
  cases e : dataLt b a with
  | false => rfl
  | true => have := dlt_trans h e; rw [dlt_irrefl] at this; cases this
theorem toks_inj {a b : PyData} (h : alike a b = true) (pa : pureD a = true) (pb : pureD b = true) (e : keyToks a = keyToks b) : a = b := by
  cases q : PyData.eqv a b with
  | true => exact (eqv_iff pa pb).mp q
  | false =>
    have f := (PySem.W.toks_eqv a b h).2 q
    have f2 := f [] [.inl 0]
    rw [e] at f2
    exfalso
    have f3 := PySem.W.lex_pre (keyToks b) [] [.inl 0]
    rw [f3, lex_irrefl] at f2
    cases f2
theorem dlt_total {a b : PyData} (h : alike a b = true) (pa : pureD a = true) (pb : pureD b = true) (ne : a ≠ b) : dataLt a b = true ∨ dataLt b a = true := by
  cases e1 : dataLt a b with
  | true => exact .inl rfl
  | false =>
    cases e2 : dataLt b a with
    | true => exact .inr rfl
    | false => exact absurd (toks_inj h pa pb (lex_total _ _ e1 e2)) ne
/-- each before the next -/
def AscD (ds : List PyData) : Prop := ds.Pairwise fun a b => dataLt a b = true
theorem AscD.nodup {ds : List PyData} (h : AscD ds) : ds.Nodup := h.imp fun {a b} q e => by rw [e, dlt_irrefl] at q; cases q
theorem asc_unique : ∀ {xs ys : List PyData}, AscD xs → AscD ys → (∀ d, d ∈ xs ↔ d ∈ ys) → xs = ys
  | [], [], _, _, _ => rfl
  | [], y :: ys, _, _, h => absurd ((h y).mpr List.mem_cons_self) (by simp)
  | x :: xs, [], _, _, h => absurd ((h x).mp List.mem_cons_self) (by simp)
  | x :: xs, y :: ys, hx, hy, h => by
    obtain ⟨hx1, hx2⟩ := List.pairwise_cons.mp hx
    obtain ⟨hy1, hy2⟩ := List.pairwise_cons.mp hy
    have e : x = y := by
      rcases List.mem_cons.mp ((h x).mp List.mem_cons_self) with z | z
      · exact z
      · rcases List.mem_cons.mp ((h y).mpr List.mem_cons_self) with u | u
        · exact u.symm
        · have := dlt_trans (hy1 x z) (hx1 y u)
          rw [dlt_irrefl] at this
          cases this
    subst e
    have nx : x ∉ xs := fun z => by have := hx1 x z; rw [dlt_irrefl] at this; cases this
    have ny : x ∉ ys := fun z => by have := hy1 x z; rw [dlt_irrefl] at this; cases this
    rw [asc_unique hx2 hy2 fun d => ⟨fun z => ?_, fun z => ?_⟩]
    · rcases List.mem_cons.mp ((h d).mp (List.mem_cons_of_mem _ z)) with u | u
      · exact absurd (u ▸ z) nx
      · exact u
    · rcases List.mem_cons.mp ((h d).mpr (List.mem_cons_of_mem _ z)) with u | u
      · exact absurd (u ▸ z) ny
      · exact u
theorem le_total : PySem.W.TotalLe (dataLe false (id : PyData → PyData)) := PySem.W.sortLe_total _ _ _
/-- sorted, without doubles: each before the next -/
theorem sort_asc {es : List PyData} (nd : es.Nodup) (al : AllAlike es) (pu : ∀ d ∈ es, pureD d = true) : AscD (es.mergeSort (dataLe false id)) := by
  have pm := List.mergeSort_perm es (dataLe false id)
  have pw := PySem.W.sort_pairwise le_total es
  have nd2 : (es.mergeSort (dataLe false id)).Nodup := pm.nodup_iff.mpr nd
  refine List.Pairwise.imp_of_mem (fun {a b} ha hb h => ?_) (pw.and nd2)
  obtain ⟨h1, h2⟩ := h
  have ma := pm.mem_iff.mp ha
  have mb := pm.mem_iff.mp hb
  have h1 : (!dataLt b a) = true := h1
  rcases dlt_total (al a ma b mb) (pu a ma) (pu b mb) h2 with z | z
  · exact z
  · rw [z] at h1; cases h1
/-- THE sorted list of the different ones -/
theorem sort_set {ds es : List PyData} (ok : SetOk ds) (nd : es.Nodup) (m : ∀ d, d ∈ es ↔ d ∈ ds) : AscD (es.mergeSort (dataLe false id)) ∧ ∀ d, d ∈ es.mergeSort (dataLe false id) ↔ d ∈ ds :=
  ⟨sort_asc nd (fun x hx y hy => ok.alike x ((m x).mp hx) y ((m y).mp hy)) fun d hd => (ok.pure d ((m d).mp hd)).1, fun d => (List.mergeSort_perm es (dataLe false id)).mem_iff.trans (m d)⟩
/-- one more, at its place; the law's own way to do it -/
def InsInv (es : List PyData) (d : PyData) (i : Nat) (g : Bool) (rs : List PyData) : Prop :=
  if g = true then AscD rs ∧ (∀ x, x ∈ rs ↔ x = d ∨ x ∈ es.take i) ∧ (∀ (k : Nat) (y : PyData), i ≤ k → es[k]? = some y → dataLt d y = true)
  else rs = es.take i ∧ ∀ y ∈ rs, dataLt y d = true
theorem asc_snoc {rs : List PyData} {x : PyData} (h : AscD rs) (hl : ∀ y ∈ rs, dataLt y x = true) : AscD (rs ++ [x]) :=
  List.pairwise_append.mpr ⟨h, List.pairwise_singleton _ _, fun a ha b hb => by rw [List.mem_singleton.mp hb]; exact hl a ha⟩
theorem asc_take {es : List PyData} (h : AscD es) (i : Nat) : AscD (es.take i) := List.Pairwise.sublist (List.take_sublist _ _) h
theorem asc_lt {es : List PyData} (h : AscD es) {i k : Nat} {x y : PyData} (hi : es[i]? = some x) (hk : es[k]? = some y) (l : i < k) : dataLt x y = true := by
  obtain ⟨h1, rfl⟩ := List.getElem?_eq_some_iff.mp hi
  obtain ⟨h2, rfl⟩ := List.getElem?_eq_some_iff.mp hk
  exact List.pairwise_iff_getElem.mp h i k h1 h2 l
theorem take_lt {es : List PyData} (h : AscD es) {i : Nat} {x y : PyData} (hy : y ∈ es.take i) (hi : es[i]? = some x) : dataLt y x = true := by
  obtain ⟨j, hj⟩ := List.mem_iff_getElem?.mp hy
  have hji : j < i := by
    have := (List.getElem?_eq_some_iff.mp hj).1
    rw [List.length_take] at this
    omega
  rw [List.getElem?_take, if_pos hji] at hj
  exact asc_lt h hj hi hji
end My

set_option Elab.async false
set_option linter.all false
set_option maxRecDepth 100000
set_option maxHeartbeats 4000000
namespace My
open PySem PySem.Spec PyProof.Rows L2
/-! ### enumerate of a tuple -/
section
open AutoSeq1 (wpAny_loadPart')
theorem new_enumT (l : Addr) (items : Array Value) (n : Nat) (dct : Option Addr) (sl : Array (Option Value)) :
    Meets (Builtin.«enumerate.__new__» ⟨[.type "enumerate", .ref l], []⟩) (fun _ R s => s.heap.get? l = some { cls := .type "tuple", dict := dct, data := .seq items n, slots := sl } ∧
      R (.ok (.ret (.ref (s.heap.push { cls := .type "tuple_iterator", data := .fields #[.ref l, .int 0 0] }).objs.size)))
        { s with heap := (s.heap.push { cls := .type "tuple_iterator", data := .fields #[.ref l, .int 0 0] }).push { cls := .type "enumerate", data := .fields #[.none, .bool false, .ref s.heap.objs.size, rawInt 0, .none, .none] } }) :=
  .of_wp fun prog w A R s h => by
    obtain ⟨hp, g, d, tk, os⟩ := s
    obtain ⟨hl, h⟩ := h
    have hsub := sub_enumerate
    have hL : Heap.IsTuple (Shared.heap ⟨hp, g, d, tk, os⟩) l items := ⟨_, hl, rfl, n, rfl⟩
    wp_walk using wpAny_loadPart' hl
    refine wpAny_stack_any fun st => wpAny_pure ?_
    split
    · rename_i c _ _ _ _ _
      cases (c == Value.type "enumerate")
      · wp_walk using wpAny_loadPart' hl, wpAny_pyIter_tuple hL
        exact ⟨_, rfl, h⟩
      · wp_walk using wpAny_loadPart' hl, wpAny_pyIter_tuple hL
        exact ⟨_, rfl, h⟩
    · wp_walk using wpAny_loadPart' hl, wpAny_pyIter_tuple hL
      exact ⟨_, rfl, h⟩
end
section
variable {prog : Program} {w : World} {A : Around} {E : Value → Shared → Prop} {s : Shared}
theorem call_enumT {l : Addr} {items : Array Value} {Q : Value → Shared → Prop} (hL : s.heap.IsTuple l items)
    (h : ∀ h', IsEnum h' (s.heap.objs.size + 1) s.heap.objs.size 0 .none → h'.IsTupleIter s.heap.objs.size l 0 → (∀ b o, s.heap.get? b = some o → h'.get? b = some o) → Q (.ref (s.heap.objs.size + 1)) { s with heap := h' }) :
    wpAny (model prog w) A (call (.type "enumerate") [.ref l]) Q E s := by
  obtain ⟨⟨c, dct, dt, sl⟩, hl, hc, n, hd⟩ := hL
  replace hc : c = .type "tuple" := hc
  replace hd : dt = .seq items n := hd
  subst hc hd
  refine callType_new F.called_enumerate (by decide) (F.typeCall_enumerate_1 _) (F.newCall_enumerate_1 _) (fun obj => F.args_object_init_2 obj _) F.entry_enumerate_new
    (new_enumT l items n dct sl) ⟨hl, ?_⟩
  have hz : (s.heap.push { cls := .type "tuple_iterator", data := .fields #[.ref l, .int 0 0] }).objs.size = s.heap.objs.size + 1 := Heap.size_push ..
  show _ ∧ _
  rw [hz]
  have he : IsEnum ((s.heap.push { cls := .type "tuple_iterator", data := .fields #[.ref l, .int 0 0] }).push
      { cls := .type "enumerate", data := .fields #[.none, .bool false, .ref s.heap.objs.size, rawInt 0, .none, .none] }) (s.heap.objs.size + 1) s.heap.objs.size 0 .none := by
    have := Heap.get?_push_size (s.heap.push { cls := .type "tuple_iterator", data := .fields #[.ref l, .int 0 0] })
      (o := { cls := .type "enumerate", data := .fields #[.none, .bool false, .ref s.heap.objs.size, rawInt 0, .none, .none] }) rfl
    rw [hz] at this; exact this
  exact ⟨⟨_, he, rfl⟩, h _ he ⟨_, Heap.get?_push_of_some _ (Heap.get?_push_size _ rfl), rfl, rfl⟩ fun b o x => Heap.get?_push_of_some _ (Heap.get?_push_of_some _ x)⟩
end
/-- the tuple at a, each item in a new pair with its place -/
def ItEt (K : PySem.W.Frag) (a : Addr) : It :=
  ⟨fun i H => ∃ (xs : List V) (x : V), SqT K H a xs ∧ xs[i]? = some x, fun i H v H' => ∃ T x, v = .ref T ∧ H T = none ∧ H' = upd H T (.tup [.int (i : Nat), x]) ∧ ∀ xs, SqT K H a xs → xs[i]? = some x, fun i H => ∃ xs : List V, SqT K H a xs ∧ xs.length = i⟩
theorem turn_enumT {P : Program} {w : World} {K : PySem.W.Frag} {elts : List Expr} {kk : Nat} {tpos : Pos} (a e it : Addr) :
    Turn P w K (.Tuple elts kk tpos) (ItEt K a) [e, it] e (fun i h => (∃ old, IsEnum h e it ((i : Nat) : Int) old) ∧ h.IsTupleIter it a i ∧ e ≠ it) where
  mem := by simp
  obj := fun i h st b hb => by
    obtain ⟨⟨old, he⟩, ⟨o, ho, hc, hd⟩, _⟩ := st
    have e' : b = e ∨ b = it := by simpa using hb
    rcases e' with z | z
    · rw [z]; exact ⟨_, he, fun v q => nomatch q⟩
    · rw [z]; exact ⟨o, ho, fun v q => by rw [hd] at q; cases q⟩
  keep := fun i h h' st k => let ⟨⟨old, he⟩, hi, hne⟩ := st; ⟨⟨old, k e (by simp) _ he⟩, hi.at fun o q => k it (by simp) o q, hne⟩
  item := by
    intro X hP hw hK hc i pins s σ H E I hf st hg
    subst hP hw hK
    obtain ⟨⟨old, he⟩, hit, hne⟩ := st
    obtain ⟨xs, x, hq, hx⟩ := hg
    obtain ⟨its, rv, p, hz⟩ := I.tuple hq
    obtain ⟨u, hu, ru⟩ := rv.get hx
    have hel : e < s.heap.objs.size := Heap.lt_size he
    have hil : it < s.heap.objs.size := by obtain ⟨_, q, _⟩ := hit; exact Heap.lt_size q
    have hp : s.heap.IsTuple a its.toArray := p
    have hea : e ≠ a := by
      rintro rfl
      obtain ⟨o, ho, hc', _⟩ := hp
      have q : some _ = some o := he.symm.trans ho
      cases q
      injection hc' with z
      exact absurd z (by decide)
    have hia : a ≠ it := by
      rintro rfl
      obtain ⟨o, ho, hc', _⟩ := hp
      obtain ⟨o2, ho2, hc2, _⟩ := hit
      rw [ho] at ho2
      cases ho2
      rw [hc'] at hc2
      injection hc2 with z
      exact absurd z (by decide)
    have D := PySem.Draws.tuple (prog := X.prog) (w := X.w) (A := X.A.in1) (by simp [I.ok.hd hc]) it a hia its.toArray
    have hlt : i < its.toArray.size := by
      have := (List.getElem?_eq_some_iff.mp hu).1
      simpa using this
    refine wpAny_pyNext_enum_itemD D he ⟨hit, hp⟩ hlt hne (by simp [hne, hea]) fun x' h' tk hx' ho st' hT hsz hk => ?_
    have ex : x' = u := by
      have h1 : its[i]? = some x' := by simpa using hx'
      rw [hu] at h1
      exact (Option.some.inj h1).symm
    subst ex
    have hit' : h'.IsTupleIter it a (i + 1) := st'.1
    refine ⟨_, rfl, wpAny_letOwnedTupleGo_enum (s := { s with heap := h', toks := tk + 1 }) ho fun h'' he' sb => ?_⟩
    have hT2 : h''.get? s.heap.objs.size = some { cls := .type "tuple", data := .seq #[.int i tk, x'] } := (sb.2 _ (Nat.ne_of_gt hel)).trans hT
    have new : ObjOk X.prog X.w (upd H s.heap.objs.size (.tup [.int (i : Nat), x])) h'' s.heap.objs.size (.tup [.int (i : Nat), x]) :=
      ⟨by show 2 ≤ sizeLine; decide, [.int i tk, x'], .cons ⟨_, rfl⟩ (.cons ru .nil), ⟨_, hT2, rfl, _, rfl⟩⟩
    have I1 : Inv X pins σ (upd H s.heap.objs.size (.tup [.int (i : Nat), x])) { s with heap := h'', toks := tk + 1 } :=
      I.turnedNew (ch := [e, it]) (fun b ob hb q => (sb.2 b (fun z => hb (by simp [z]))).trans (hk b ob (fun z => hb (by simp [z])) (fun z => hb (by simp [z])) q)) hf (Nat.le_refl _) new
    refine ⟨.ref s.heap.objs.size, _, I1, rfl, ⟨_, x, rfl, I.hok.fresh (Nat.le_refl _), rfl, fun ys hy => by rw [I.tuple_inj hy hq]; exact hx⟩, ⟨⟨x', ?_⟩, hit'.at fun o q => (sb.2 it (Ne.symm hne)).trans q, hne⟩, fun b hb => ?_⟩
    · have e1 : ((i + 1 : Nat) : Int) = (i : Int) + 1 := by omega
      rw [e1]; exact he'
    · have hb' : b < s.heap.objs.size := by
        have e' : b = e ∨ b = it := by simpa using hb
        rcases e' with z | z
        · rw [z]; exact hel
        · rw [z]; exact hil
      rw [upd_ne (Nat.ne_of_lt hb')]
      exact (hf b hb).1
  done := by
    intro X hP hw hK hc i pins s σ H E I hf st hg
    subst hP hw hK
    obtain ⟨⟨old, he⟩, hit, hne⟩ := st
    obtain ⟨xs, hq, hx⟩ := hg
    obtain ⟨its, rv, p, hz⟩ := I.tuple hq
    have hp : s.heap.IsTuple a its.toArray := p
    obtain ⟨f0, f1, f2, f3, f4, f5⟩ := hf it (by simp)
    have hl := rv.length
    have hia : a ≠ it := by
      rintro rfl
      obtain ⟨o, ho, hc', _⟩ := hp
      obtain ⟨o2, ho2, hc2, _⟩ := hit
      rw [ho] at ho2
      cases ho2
      rw [hc'] at hc2
      injection hc2 with z
      exact absurd z (by decide)
    have D := PySem.Draws.tuple (prog := X.prog) (w := X.w) (A := X.A.in1) (by simp [I.ok.hd hc]) it a hia its.toArray
    have ei : i = its.toArray.size := by simp; omega
    subst ei
    exact wpAny_pyNext_enum_endD D he ⟨hit, hp⟩ fun h' eb => ⟨rfl, I.turned (t' := s.toks) (fun b o hb q => eb b o hb q) f0 f1 f3 f4 f5⟩
  self := fun A i s Q E st h => let ⟨⟨_, he⟩, _⟩ := st; wpAny_pyIter_enum he h
def iEnumT (K : PySem.W.Frag) (te : TE) : TI := fun σ H R => te σ H fun x H1 => ∃ a xs, x = .ref a ∧ SqT K H1 a xs ∧ R (ItEt K a) H1
theorem pi_enumT {X : Cx} {e : Expr} {te : TE} {p pos tpos : Pos} {elts : List Expr} {kk : Nat} (hg : Gl X "enumerate") (hm : X.mg "enumerate" = none) (he : PE X e te) (hs : starEach [e] X.env = [(false, eval e X.env)] := by rfl) :
    PI X (.Tuple elts kk tpos) (.Call (.Name "enumerate" p) [e] [] pos) (iEnumT X.K te) := by
  refine ⟨fun pins s σ H R I h => ?_⟩
  refine Call_ (ld_blt I hg hm boot_enumerate (PyProof.Rows.callWith_type1 (PyProof.Rows.args_cons (thn (he.run pins s σ H _ I h) fun v s1 ⟨x, H1, I1, r1, q1⟩ => PyProof.Rows.args_nil ?_) hs) hs rfl))
  obtain ⟨a, xs, rfl, hq, q⟩ := q1
  cases r1
  obtain ⟨its, rv, p', hz⟩ := I1.tuple hq
  refine call_enumT (show s1.heap.IsTuple a its.toArray from p') fun h' he hit hk => wpAny_pyIter_enum he ?_
  have I2 : Inv X pins σ H1 { s1 with heap := h' } := I1.kept (t' := s1.toks) hk
  refine ⟨s1.heap.objs.size + 1, [s1.heap.objs.size + 1, s1.heap.objs.size], _, _, H1, rfl, I2, turn_enumT a (s1.heap.objs.size + 1) s1.heap.objs.size, ⟨⟨.none, he⟩, hit, Nat.succ_ne_self _⟩, fun b hb => ?_, q⟩
  have e' : b = s1.heap.objs.size + 1 ∨ b = s1.heap.objs.size := by simpa using hb
  have hle : s1.heap.objs.size ≤ b := by
    rcases e' with z | z
    · rw [z]; exact Nat.le_add_right _ _
    · rw [z]; exact Nat.le_refl _
  exact I1.fpOk hle (I1.hok.fresh hle)
theorem r_iEnumT {K : PySem.W.Frag} {te : TE} {σ : L2.St} {H : Hp} {R : It → Hp → Prop} (h : te σ H fun x H1 => ∃ a xs, x = .ref a ∧ SqT K H1 a xs ∧ R (ItEt K a) H1) : iEnumT K te σ H R := h
section
variable {K : PySem.W.Frag} {a : Addr} {xs : List V}
theorem walk_Et : Walk (ItEt K a) xs.length (fun H => SqT K H a xs) (fun i H x H' => ∃ T y, xs[i]? = some y ∧ x = .ref T ∧ H T = none ∧ H' = upd H T (.tup [.int (i : Nat), y])) :=
  ⟨fun i H hi q => ⟨xs, xs[i], q, List.getElem?_eq_getElem hi⟩, fun H q => ⟨xs, q, rfl⟩, fun i H x H' hi q y => by
    obtain ⟨T, z, e1, e2, e3, e4⟩ := y
    exact ⟨T, z, e4 xs q, e1, e2, e3⟩⟩
theorem lcEn {g : TG} {tt : TT} {te : TE} {vs : List Nat} {Q : VK} {σ : L2.St} {H : Hp} (Pv : Addr → Nat → Hp → Prop) (h0 : ∀ D H2, H D = none → Same H H2 → H2 D = some (.lst []) → Pv D 0 H2) (hl : ∀ D i H', i ≤ xs.length → Pv D i H' → SqT K H' a xs)
    (hs : ∀ D i y T H' H2, xs[i]? = some y → Pv D i H' → H' T = none → Same H' H2 → H2 T = some (.tup [.int (i : Nat), y]) → g (.ref T) (wipe σ vs) H2 fun σ2 H2 => wipe σ2 vs = wipe σ vs ∧ tt σ2 H2 fun b H3 => if b = true then te σ2 H3 fun y H4 => Yield D (Pv D (i + 1)) y H4 else Pv D (i + 1) H3)
    (hd : ∀ D H', Pv D xs.length H' → Q (.ref D) H') : LcR (ItEt K a) g tt te vs Q σ H := fun D hD =>
  lc_it walk_Et (Pv D) (h0 D _ hD (ex_new hD) upd_same) (hl D) (fun i x H H' hi p y => by obtain ⟨T, r, hr, rfl, hT, rfl⟩ := y; exact hs D i r T H _ hr p hT (ex_new hT) upd_same) (hd D)
theorem r_enumT1 {H : Hp} {R : It → Hp → Prop} (h : SqT K H a xs) (q : R (ItEt K a) H) : ∃ b ys, V.ref a = .ref b ∧ SqT K H b ys ∧ R (ItEt K b) H := ⟨a, xs, rfl, h, q⟩
theorem r_star {te : TE} {t : TA} {σ : L2.St} {H : Hp} {Q : List V → Hp → Prop} (h : te σ H fun x H1 => ∃ p xs, x = V.ref p ∧ (SqT K H1 p xs ∨ SqL K H1 p xs) ∧ t σ H1 fun ys H2 => Q (xs ++ ys) H2) : StX.tStar K te t σ H Q := h
end
section
variable {X : Cx} {K : PySem.W.Frag}
theorem op_in_seqK (hK : X.K = K) : OpR X (compareOp .In) (rIn K false) := hK ▸ op_in_seq
theorem r_ktA {xs : List V} {σ : L2.St} {H : Hp} {Q : VK} (q : ∀ a, (∀ H, SqT K H a xs) → KTy K a → Q (.ref a) H) : tKt K xs σ H Q := fun a h hy => q a (fun H => h.sq H) hy
end
/-! ### y = [e for ..], e may raise -/
section
variable {X : Cx}
theorem ps_setLcX {E : XK} {i : Nat} {y : Str} {py : Pos} {elt tg iter : Expr} {scope : Scope} {own : List (Str × Nat)} {pos spos : Pos} {wi : TI} {g : TG} {te : TE} (tk : Takes X fun c d _ H => E c d H) (calm : X.calm = true) (hs : X.stack = X.env :: X.outer) (hf : X.env.frame = some X.env.locals) (nd : X.N.Nodup)
    (hy : X.N[i]? = some y) (hyl : X.env.scope.names.lookup y = some .local) (hsw : swapsWith (.ListComp elt [⟨tg, iter, [], 0⟩] scope pos) (some (.Name y py)) spos.line X.env = pure true) (hi : PI X tg iter wi) (ok : BlkOk X.N X.env.scope scope own)
    (hg : ∀ (s : Shared) (H : Hp) (C : Addr) (cl : List (Str × Addr)) (fp : List Addr), PG (X.blk s H scope (compEnvC scope cl C X.env) fp) tg g)
    (he : PEx X E scope elt te) (hfold : ∀ x, foldedSetIterable iter X.env x = pure x := by intro _; rfl) : PS X (.Assign [.Name y py] (.ListComp elt [⟨tg, iter, [], 0⟩] scope pos) spos) (tAsg (tLc wi g tYes te (own.map (·.2))) (gName i)) := by
  refine ⟨fun pins s σ H D I h => ?_⟩
  rw [exec_Assign_Name_used _ _ _ _ hsw]
  refine wpAny_bind (wpAny_standAt (wpAny_bind ?_))
  show wpAny _ X.A (do let _ ← comprehension (.ListComp elt [⟨tg, iter, [], 0⟩] scope pos) scope X.env (firstIterPos [⟨tg, iter, [], 0⟩] pos) (newList []) false (eval iter X.env) (some (assign (.Name y py) X.env))) _ _ s
  have h : tLc wi g tYes te (own.map (·.2)) σ H (fun x H1 => gName i x σ H1 D.nx) := h
  refine wpAny_bind (thn (core_x (Qf := fun _ s' => SP X pins D .next s') calm hs hf tk nd I hi ok hg he hfold h fun L C t m H' J' q hn fk cenv ec => ?_) fun _ s' hq => wpAny_pure (wpAny_pure hq))
  subst ec
  show wpAny _ _ (assign (.Name y py) X.env (.ref L)) _ _ _
  refine wpAny_assign_Name (store_ok2 (v := V.ref L) J' nd hy (.inl hyl) rfl (fun s2 I2 ⟨a, sb, ha⟩ => ?_) (.inr hyl))
  obtain ⟨f0, f1, f2, f3, f4, f5⟩ := fk
  have haC : cenv.locals ≠ a := by
    rcases ha with z | z
    · rw [z]; exact f1
    · exact fun e => f4 y a z e.symm
  refine ⟨m, hn.sameBut sb haC, fun h3 sb3 => ?_⟩
  exact ⟨_, H', I2.turned (t' := s2.toks) (fun b o hb e => (sb3.2 b hb).trans e) f0 f1 f3 f4 f5, q⟩
end
end My

set_option Elab.async false
set_option linter.all false
set_option maxRecDepth 100000
set_option maxHeartbeats 4000000
/-! FNest: {t} in an f-string, t a nested tuple of ints and texts: some bounded text, whatever is under way. -/
namespace PySem
open PySem.Spec PyProof.Rows
section
variable {prog : Program} {w : World} {A : Around} {E : Value → Shared → Prop} {h₀ : Heap} {d N : Nat}
def ReprB (prog : Program) (w : World) (h₀ : Heap) (d N : Nat) (x : Value) : Prop :=
  ∀ base, base + N ≤ sizeLine → ∀ (A : Around) (E : Value → Shared → Prop) (s : Shared) (Q : Str → Shared → Prop), A.units + d < cLine → (∀ b o, h₀.get? b = some o → s.heap.get? b = some o) → (∀ t tk, t.length ≤ N → Q t { s with toks := tk }) → wpAny (model prog w) A (pyReprUnder base x) Q E s
theorem ReprB.of_is {x : Value} {t : Str} (h : ReprIs prog w x t) (hl : t.length ≤ N) : ReprB prog w h₀ d N x := fun base hb A E s Q _ _ q => h base (by omega) A E s Q fun tk => q t tk hl
theorem ReprB.mono {x : Value} {d' N' : Nat} (h : ReprB prog w h₀ d N x) (h1 : d ≤ d') (h2 : N ≤ N') : ReprB prog w h₀ d' N' x := fun base hb A E s Q hu hk q => h base (by omega) A E s Q (by omega) hk fun t tk ht => q t tk (by omega)
theorem foldB (hu : A.units + d < cLine) : ∀ (l : List Value) (acc : Array Str) (n : Nat) (s : Shared) (Q : (Array Str × Nat) → Shared → Prop), (∀ x ∈ l, ReprB prog w h₀ d N x) → n + l.length * (N + 2) ≤ sizeLine →
    (∀ b o, h₀.get? b = some o → s.heap.get? b = some o) → (∀ ts tk, List.length ts = l.length → piled ts ≤ l.length * (N + 2) → Q ⟨acc ++ ts.toArray, n + piled ts⟩ { s with toks := tk }) →
    wpAny (model prog w) A (forIn l (⟨acc, n⟩ : (Array Str × Nat)) tupBody) Q E s := by
  intro l
  induction l with
  | nil =>
    intro acc n s Q _ _ _ h
    have h0 := h [] s.toks rfl (by simp [piled])
    simp only [List.forIn_nil]
    exact wpAny_pure (by simpa [piled] using h0)
  | cons x l ih =>
    intro acc n s Q hT hn hk0 h
    have e0 : (x :: l).length * (N + 2) = l.length * (N + 2) + (N + 2) := by rw [List.length_cons, Nat.succ_mul]
    rw [e0] at hn
    rw [List.forIn_cons]
    refine wpAny_bind (wpAny_bind (hT x List.mem_cons_self (n + 1) (by omega) _ _ _ _ hu hk0 fun t tk ht => wpAny_pure ?_))
    refine ih (acc.push t) (n + (t.length + 2)) _ Q (fun y hy => hT y (List.mem_cons_of_mem _ hy)) (by omega) hk0 fun ts tk' hl hp => ?_
    have h1 := h (t :: ts) tk' (by rw [List.length_cons, List.length_cons, hl]) (by rw [piled_cons, e0]; omega)
    have e : n + piled (t :: ts) = n + (t.length + 2) + piled ts := by rw [piled_cons]; omega
    rw [e] at h1
    simpa using h1
theorem atB {base : Nat} {a : Addr} {o : Obj} {items : Array Value} {n : Nat} {s : Shared} {Q : Fin → Shared → Prop} (hu : A.units + d < cLine) (ha : s.heap.get? a = some o) (hd : o.data = .seq items n) (hT : ∀ x ∈ items.toList, ReprB prog w h₀ d N x)
    (hk0 : ∀ b o, h₀.get? b = some o → s.heap.get? b = some o) (hsz : base + (items.size * (N + 2) + 5) ≤ sizeLine) (h : ∀ (m : Str) u tk, m.length ≤ items.size * (N + 2) + 5 → Q (.done (.ret (.str m u))) { s with toks := tk }) :
    wpAny (model prog w) A (Builtin.tupleReprAt base ⟨[.ref a], []⟩) Q E s := by
  rw [tuple_repr_tree]
  refine wpAny_bind (fmt_underWay fun b => ?_)
  cases b with
  | true =>
    refine PySem.W.KFB.if_so rfl ?_
    refine wpAny_bind (wpAny_rule ?_)
    refine wpAny_bind (wpAny_mkStr (wpAny_pure ?_) (by decide +kernel))
    exact h "(...)" _ _ (Nat.le_trans fmt_way (by omega))
  | false =>
    refine PySem.W.KFB.if_not rfl ?_
    unfold tupleReprRest Builtin.Tuple.tupleItemsOf
    refine wpAny_bind (wpAny_bind (wpAny_seqItems ha hd (wpAny_pure ?_)))
    rw [← Array.forIn_toList]
    have el : items.toList.length = items.size := by simp
    refine wpAny_bind (foldB hu _ _ _ _ _ hT (by rw [el]; omega) hk0 fun ts tk hl hp => ?_)
    rw [el] at hl hp
    have ht := fmt_text ts
    have ht2 : (tupleText ts).length ≤ items.size * (N + 2) + 5 := by omega
    refine wpAny_bind (wpAny_mkStr (wpAny_pure ?_) (by have : (tupleText ts).length ≤ sizeLine := by omega
                                                       simpa [tupleText, hl] using this))
    have h1 := h (tupleText ts) tk (tk + 1) ht2
    simpa [tupleText, hl] using h1
theorem ReprB.tuple {a : Addr} {o : Obj} {items : Array Value} {n : Nat} (ha : h₀.get? a = some o) (hc : o.cls = .type "tuple") (hd : o.data = .seq items n) (hT : ∀ x ∈ items.toList, ReprB prog w h₀ d N x) : ReprB prog w h₀ (d + 1) (items.size * (N + 2) + 5) (.ref a) := by
  intro base hb A E s Q hu hk0 hQ
  refine wpAny_pyReprUnder_ref (by omega) (wpAny_pyReprObjUnder_twin (twin := "tuple.__repr__.under") ⟨o, hk0 _ _ ha, hc⟩ F.slot_tuple_repr rfl (by omega) ?_)
  refine call_twin_own (F.quiet_tuple_repr_under _) F.entry_tuple_repr_under F.check_tuple_repr_under ⟨o, hk0 _ _ ha, hc⟩ F.slot_tuple_repr (F.args_tuple_repr_1 _) (wpOwn_of_wpAny ?_)
  refine atB (N := N) (d := d) (by rw [units_under_tuple_repr_under]; omega) (hk0 _ _ ha) hd hT hk0 hb fun m u tk hm => ?_
  exact ⟨⟨_, _, rfl⟩, ⟨_, _, rfl, hQ m tk hm⟩⟩
/-- {t} -/
theorem fmtB {a : Addr} {o : Obj} {items : Array Value} {n : Nat} {s : Shared} {Q : Value → Shared → Prop} (hu : A.units + (d + 3) < cLine) (ha : s.heap.get? a = some o) (hc : o.cls = .type "tuple") (hd : o.data = .seq items n) (hT : ∀ x ∈ items.toList, ReprB prog w s.heap d N x) (hsz : items.size * (N + 2) + 5 ≤ sizeLine)
    (h : ∀ (m : Str) (u tk : Tok), m.length ≤ items.size * (N + 2) + 5 → Q (.str m u) { s with toks := tk }) : wpAny (model prog w) A (formatField (.ref a) Str.empty) Q E s := by
  refine wpAny_formatField_slot (fun _ _ => nofun) (by omega) ⟨o, ha, hc⟩ F.slot_tuple_format F.slot_tuple_str F.slot_tuple_repr ?_
  refine wpAny_call (codeAny_call_builtin_own (Code.quiet_builtin _ (by decide +kernel)) F.entry_tuple_repr (F.slot_tuple_repr.check _ _ _ _ _ _ _ _ ⟨o, ha, hc⟩ (F.args_tuple_repr_1 _) (wpOwn_of_wpAny ?_)))
  show wpAny _ _ (Builtin.tupleReprAt 0 ⟨[.ref a], []⟩) _ _ _
  refine atB (h₀ := s.heap) (N := N) (d := d) ?_ ha hd hT (fun _ _ e => e) (by omega) fun m u tk hm => ?_
  · rw [units_under_tuple_repr, units_in1, units_in1]
    omega
  · exact ⟨m, u, rfl, h m u tk hm⟩
end
end PySem
namespace My
open PySem PySem.Spec PyProof.Rows L2
/-- small data: what a message may show -/
inductive FitD : PyData → Prop
  | int (i : Int) : i.natAbs < 10 ^ 100 → FitD (.int i)
  | str (y : Str) : Asc y → y.length ≤ 200 → FitD (.str y)
  | tup (ds : List PyData) : ds.length ≤ 20 → (∀ d ∈ ds, FitD d) → FitD (.tuple ds)
def NB : Nat → Nat
  | 0 => 2010
  | k + 1 => 20 * (NB k + 2) + 5
theorem NB_ge : ∀ k, 2010 ≤ NB k
  | 0 => Nat.le_refl _
  | k + 1 => by
    have := NB_ge k
    unfold NB
    omega
theorem fit_int {i : Int} (h : i.natAbs < 10 ^ 100) : (Str.ofString (toString i)).length ≤ 2000 ∧ i.natAbs.log2 < 1920 := by
  constructor
  · rw [PySem.ofString_length]
    have := int_text_length_le10 (a := i) (k := 100) (by decide) h
    omega
  · by_cases h0 : i.natAbs = 0
    · rw [h0]; decide +kernel
    · exact (Nat.log2_lt h0).mpr (Nat.lt_of_lt_of_le h (by decide +kernel))
theorem fit_str {y : Str} (hA : Asc y) (hl : y.length ≤ 200) : (reprText y).length ≤ 2010 := by
  have := StrLaws.reprText_len y fun c hc => Nat.lt_of_lt_of_le (hA c hc) (by decide)
  omega
section
variable {X : Cx} {pins : List (Addr × Obj)} {σ : L2.St} {H : Hp} {s : Shared}
theorem reprD (I : Inv X pins σ H s) : ∀ (k : Nat) (d : PyData) (v : V) (y : Value), RelV v y → Dp X.K H v d → FitD d → d.depth ≤ k → ReprB X.prog X.w s.heap k (NB k) y := by
  intro k
  induction k with
  | zero =>
    intro d v y r hd hf hk
    cases hf with
    | int i h =>
      cases hd
      obtain ⟨t, rfl⟩ := r
      exact .of_is (ReprIs.int t (fit_int h).2) (Nat.le_trans (fit_int h).1 (by decide))
    | str z hA hl =>
      cases hd
      obtain ⟨t, rfl⟩ := r
      exact .of_is (ReprIs.str z t (Nat.le_trans (fit_str hA hl) (by decide))) (fit_str hA hl)
    | tup ds hl h => simp [PyData.depth] at hk
  | succ k ih =>
    intro d v y r hd hf hk
    have hge := NB_ge (k + 1)
    cases hf with
    | int i h =>
      cases hd
      obtain ⟨t, rfl⟩ := r
      exact .of_is (ReprIs.int t (fit_int h).2) (by have := (fit_int h).1; omega)
    | str z hA hl =>
      cases hd
      obtain ⟨t, rfl⟩ := r
      exact .of_is (ReprIs.str z t (Nat.le_trans (fit_str hA hl) (by decide))) (by have := fit_str hA hl; omega)
    | tup ds hl h =>
      obtain ⟨a, rfl, ⟨vs, hs, hall⟩⟩ := dp_pt hd
      cases r
      obtain ⟨its, rv, ⟨o, ho, hcl, n, hd2⟩, _⟩ := I.tuple hs
      have hvl := dpAll_len hall
      have hil : its.length = ds.length := by rw [← rv.length, hvl]
      refine (ReprB.tuple (N := NB k) ho hcl hd2 fun x hx => ?_).mono (d' := k + 1) (N' := NB (k + 1)) (Nat.le_refl _) ?_
      · obtain ⟨j, hj⟩ := List.mem_iff_getElem?.mp hx
        obtain ⟨dj, hdj⟩ : ∃ dj, ds[j]? = some dj := ⟨_, List.getElem?_eq_getElem (by rw [← hil]; exact (List.getElem?_eq_some_iff.mp hj).1)⟩
        obtain ⟨vj, hvj, hdv⟩ := dpAll_get hall hdj
        obtain ⟨u, hu, ru⟩ := rv.get hvj
        have e : u = x := by
          have hj2 : its[j]? = some x := hj
          rw [hu] at hj2
          exact Option.some.inj hj2
        subst e
        have hdm := List.mem_of_getElem? hdj
        refine ih dj vj u ru hdv (h dj hdm) ?_
        have := depth_mem hdm
        simp only [PyData.depth] at hk
        omega
      · show its.toArray.size * (NB k + 2) + 5 ≤ 20 * (NB k + 2) + 5
        have : its.toArray.size ≤ 20 := by simp; omega
        exact Nat.add_le_add_right (Nat.mul_le_mul_right _ this) 5
/-- {x}, x small data of ints, texts and tuples: some text -/
def tFmtD (K : PySem.W.Frag) (te : TE) : TE := fun σ H Q => te σ H fun x H1 => ∃ d, Dp K H1 x d ∧ FitD d ∧ d.depth ≤ 2 ∧ ∀ m : Str, m.length ≤ 1000000 → Q (.str m) H1
theorem pe_fmtD {e : Expr} {te : TE} {pos : Pos} (hu : X.A.units + 64 < cLine) (he : PE X e te) : PE X (.FormattedValue e (-1) none pos) (tFmtD X.K te) := by
  refine ⟨fun pins s σ H Q I h => ?_⟩
  refine wpAny_FormattedValue_plain (thn (he.run pins s σ H _ I h) fun v s1 hv => ?_)
  obtain ⟨x, H1, I1, r1, d, hd, hf, hk, q⟩ := hv
  cases hf with
  | int i h =>
    cases hd
    obtain ⟨t, rfl⟩ := r1
    exact wpAny_formatField_int (fit_int h).2 ⟨.str (toString i), H1, I1.tok _, ⟨_, rfl⟩, q _ (Nat.le_trans (fit_int h).1 (by decide))⟩
  | str y hA hl =>
    cases hd
    obtain ⟨t, rfl⟩ := r1
    exact wpAny_formatField_str ⟨.str y, H1, I1, ⟨t, rfl⟩, q _ (by omega)⟩ ⟨.str y, H1, I1.tok _, ⟨_, rfl⟩, q _ (by omega)⟩ (Nat.le_trans hl (by decide))
  | tup ds hl h =>
    obtain ⟨a, rfl, ⟨vs, hs, hall⟩⟩ := dp_pt hd
    cases r1
    obtain ⟨its, rv, ⟨o, ho, hcl, n, hd2⟩, _⟩ := I1.tuple hs
    have hvl := dpAll_len hall
    have hil : its.length = ds.length := by rw [← rv.length, hvl]
    have hsz : its.toArray.size * (NB 1 + 2) + 5 ≤ 1000000 := by
      have h1 : its.toArray.size ≤ 20 := by simp; omega
      have h2 : its.toArray.size * (NB 1 + 2) ≤ 20 * (NB 1 + 2) := Nat.mul_le_mul_right _ h1
      have h3 : 20 * (NB 1 + 2) + 5 ≤ 1000000 := by decide
      omega
    refine fmtB (d := 1) (N := NB 1) (by omega) ho hcl hd2 (fun x hx => ?_) (Nat.le_trans hsz (by decide)) fun m u tk hm => ⟨.str m, H1, I1.tok _, ⟨u, rfl⟩, q m (by omega)⟩
    obtain ⟨j, hj⟩ := List.mem_iff_getElem?.mp hx
    obtain ⟨dj, hdj⟩ : ∃ dj, ds[j]? = some dj := ⟨_, List.getElem?_eq_getElem (by rw [← hil]; exact (List.getElem?_eq_some_iff.mp hj).1)⟩
    obtain ⟨vj, hvj, hdv⟩ := dpAll_get hall hdj
    obtain ⟨u, hu, ru⟩ := rv.get hvj
    have e : u = x := by
      have hj2 : its[j]? = some x := hj
      rw [hu] at hj2
      exact Option.some.inj hj2
    subst e
    have hdm := List.mem_of_getElem? hdj
    refine reprD I1 1 dj vj u ru hdv (h dj hdm) ?_
    have := depth_mem hdm
    simp only [PyData.depth] at hk
    omega
theorem r_fmtD {K : PySem.W.Frag} {te : TE} {Q : VK} (h : te σ H fun x H1 => ∃ d, Dp K H1 x d ∧ FitD d ∧ d.depth ≤ 2 ∧ ∀ m : Str, m.length ≤ 1000000 → Q (.str m) H1) : tFmtD K te σ H Q := h
end
end My

set_option Elab.async false
set_option linter.all false
set_option maxRecDepth 100000
set_option maxHeartbeats 4000000
namespace My
open PySem PySem.Spec PyProof.Rows L2
open C8 (tCut pss_cut)
open PySem.W (alike dataLt)
local macro_rules | `(tactic| walk_at "side") => `(tactic| (first | with_reducible assumption | with_reducible exact rfl | omega | decide +kernel | exact ⟨by omega, by omega⟩ | exact Nat.le_of_ble_eq_true rfl | exact Or.inl ⟨by omega, by omega⟩ | exact Or.inr ⟨by omega, by omega⟩ | (intro hh; cases hh; done) | (simp; omega)))
local macro_rules | `(tactic| walk_at "trT") => `(tactic| (with_reducible first | assumption | (refine' SqT.of ?z; (case z => assumption)) | (refine' ex_t ?e ?h; (case e => assumption); case h => walk_at "trT") | (refine' but_t ?e ?g ?h; (case e => assumption); (case g => assumption); case h => walk_at "trT")))
local macro_rules | `(tactic| walk_at "trL") => `(tactic| (with_reducible first | assumption | (refine' SqL.of ?z; (case z => assumption)) | (refine' ex_l ?e ?h; (case e => assumption); case h => walk_at "trL")))
local macro_rules | `(tactic| walk_at "rd1") => `(tactic| first
  | ((with_reducible refine r_seq ?_))
  | ((with_reducible refine r_asgN ?_))
  | ((with_reducible refine r_ret ?_))
  | ((with_reducible refine r_retN ?_))
  | ((with_reducible refine r_drop ?_))
  | ((with_reducible refine r_ifS ?_))
  | ((with_reducible refine r_next ?_))
  | ((with_reducible refine r_brk ?_))
  | ((with_reducible refine r_cont ?_))
  | ((with_reducible refine r_for ?_))
  | ((with_reducible refine r_iStr ?_))
  | ((with_reducible refine r_iStr1 ?_))
  | ((with_reducible refine r_iList ?_))
  | ((with_reducible refine r_iTup ?_))
  | ((with_reducible refine r_iRng1 ?_))
  | ((with_reducible refine r_iRng2 ?_))
  | ((with_reducible refine' r_var ?k1 ?_); (case k1 => with_unfolding_all rfl))
  | ((with_reducible refine r_c ?_))
  | ((with_reducible refine r_op ?_))
  | ((with_reducible refine r_un ?_))
  | ((with_reducible refine r_if ?_))
  | ((with_reducible refine r_fn ?_))
  | ((with_reducible refine r_cb ?_))
  | ((with_reducible refine r_cons ?_))
  | ((with_reducible refine r_nil ?_))
  | ((with_reducible refine r_test ?_))
  | ((with_reducible refine r_tB ?_))
  | ((with_reducible refine r_and ?_))
  | ((with_reducible refine r_or ?_))
  | ((with_reducible refine r_not ?_))
  | ((with_reducible refine r_chain ?_))
  | ((with_reducible refine r_andV ?_))
  | ((with_reducible refine r_orV ?_))
  | ((with_reducible refine r_notV ?_))
  | ((with_reducible refine r_tup ?_))
  | ((with_reducible refine r_lst ?_))
  | ((with_reducible refine r_sl ?_))
  | ((with_reducible refine r_noPart ?_))
  | ((with_reducible refine r_part ?_))
  | ((with_reducible refine r_bl ?_))
  | ((with_reducible refine r_exI ?_))
  | ((with_reducible refine r_I0 ?_))
  | ((with_reducible refine r_U ?_))
  | ((with_reducible refine r_eqI ?_))
  | ((with_reducible refine r_eqS ?_))
  | ((with_reducible refine r_eqB ?_))
  | ((with_reducible refine r_neI ?_))
  | ((with_reducible refine r_neS ?_))
  | ((with_reducible refine r_neB ?_))
  | ((with_reducible refine r_int ?_))
  | ((with_reducible refine r_inS ?_))
  | ((with_reducible refine r_notInS ?_))
  | ((with_reducible refine r_bm ?_))
  | ((with_reducible refine r_up ?_))
  | ((with_reducible refine r_low ?_))
  | ((with_reducible refine' r_up1 ?k1 ?_); (case k1 => walk_at "side"))
  | ((with_reducible refine' r_low1 ?k1 ?_); (case k1 => walk_at "side"))
  | ((with_reducible refine' r_newL ?k1 ?_); (case k1 => walk_at "side"))
  | ((with_reducible refine' r_newT ?k1 ?_); (case k1 => walk_at "side"))
  | ((with_reducible refine r_asg ?_))
  | ((with_reducible refine r_gName ?_))
  | ((with_reducible refine r_sub ?_))
  | ((with_reducible refine' r_I ?k1 ?_); (case k1 => walk_at "side"))
  | ((with_reducible refine' r_lenS ?k1 ?_); (case k1 => walk_at "side"))
  | ((with_reducible refine' r_addS ?k1 ?_); (case k1 => walk_at "side"))
  | ((with_reducible refine r_iteT ?_))
  | ((with_reducible refine r_iteF ?_))
  | ((with_reducible refine r_iteNT ?_))
  | ((with_reducible refine r_iteNF ?_))
  | ((with_reducible refine' r_iteDp ?k1 ?_); (case k1 => walk_at "side"))
  | ((with_reducible refine' r_iteDn ?k1 ?_); (case k1 => walk_at "side"))
  | ((with_reducible refine' r_iteNp ?k1 ?_); (case k1 => walk_at "side"))
  | ((with_reducible refine' r_iteNn ?k1 ?_); (case k1 => walk_at "side"))
  | ((with_reducible refine' r_iList1 ?k1 ?k2 ?_); (case k2 => walk_at "trL"))
  | ((with_reducible refine' r_iTup1 ?k1 ?k2 ?_); (case k2 => walk_at "trT"))
  | ((with_reducible refine' r_iRng11 ?k1 ?_); (case k1 => walk_at "side"))
  | ((with_reducible refine' r_iRng21 ?k1 ?_); (case k1 => walk_at "side"))
  | ((with_reducible refine' r_ixL ?k1 ?k2 ?_); (case k1 => walk_at "trL"); (case k2 => with_unfolding_all rfl))
  | ((with_reducible refine' r_ixT ?k1 ?k2 ?_); (case k1 => walk_at "trT"); (case k2 => with_unfolding_all rfl))
  | ((with_reducible refine' r_lenT ?k1 ?_); (case k1 => walk_at "trT"))
  | ((with_reducible refine' r_lenL ?k1 ?_); (case k1 => walk_at "trL"))
  | ((with_reducible refine' r_slS ?k1 ?_); (case k1 => walk_at "side"))
  | ((with_reducible refine' r_isiBt ?k1 ?_); (case k1 => decide +kernel))
  | ((with_reducible refine' r_isiBf ?k1 ?_); (case k1 => decide +kernel))
  | ((with_reducible refine' r_isiIt ?k1 ?_); (case k1 => decide +kernel))
  | ((with_reducible refine' r_isiIf ?k1 ?_); (case k1 => decide +kernel))
  | ((with_reducible refine' r_isiSt ?k1 ?_); (case k1 => decide +kernel))
  | ((with_reducible refine' r_isiSf ?k1 ?_); (case k1 => decide +kernel))
  | ((with_reducible refine' r_isiTt ?k1 ?k2 ?_); (case k1 => walk_at "trT"); (case k2 => decide +kernel))
  | ((with_reducible refine' r_isiTf ?k1 ?k2 ?_); (case k1 => walk_at "trT"); (case k2 => decide +kernel))
  | ((with_reducible refine r_yes ?_))
  | ((with_reducible refine r_lc ?_))
  | ((with_reducible refine r_endsW ?_))
  | ((with_reducible refine r_split ?_))
  | ((with_reducible refine r_join ?_))
  | ((with_reducible refine r_revL ?_))
  | ((with_reducible refine' r_revL1 ?k1 ?_); (case k1 => walk_at "trL"))
  | ((with_reducible refine' r_backT ?k1 ?_); (case k1 => walk_at "trT"))
  | ((with_reducible refine r_strAnd ?_))
  | ((with_reducible refine r_asc ?_))
  | ((with_reducible refine r_asc1 ?_))
  | ((with_reducible refine r_two ?_))
  | ((with_reducible refine r_fnS ?_))
  | ((with_reducible refine r_raise ?_))
  | ((with_reducible refine r_isN ?_))
  | ((with_reducible refine r_notN ?_))
  | ((with_reducible refine r_tryAs ?_))
  | ((with_reducible refine r_find ?_))
  | ((with_reducible refine r_gFor ?_))
  | ((with_reducible refine' r_gYield ?k1 ?_); (case k1 => walk_at "side"))
  | ((with_reducible refine r_gNil ?_))
  | ((with_reducible refine r_gSeq ?_))
  | ((with_reducible refine r_gPlain ?_))
  | ((with_reducible refine r_listGen ?_))
  | ((with_reducible refine r_iZip ?_))
  | ((with_reducible refine r_gCons ?_))
  | ((with_reducible refine r_gNil2 ?_))
  | ((with_reducible refine' r_aug ?k1 ?_); (case k1 => with_unfolding_all rfl))
  | ((with_reducible refine r_ipI ?_))
  | ((with_reducible refine r_min2 ?_))
  | ((with_reducible refine r_max2 ?_))
  | ((with_reducible refine r_fld ?_))
  | ((with_reducible refine r_sFld ?_))
  | ((with_reducible refine r_aFld ?_))
  | ((with_reducible refine r_mth ?_))
  | ((with_reducible refine r_mkC ?_))
  | ((with_reducible refine r_prp ?_))
  | ((with_reducible refine r_fnK ?_))
  | ((with_reducible refine r_revR ?_))
  | ((with_reducible refine' r_revR1 ?k1 ?_); (case k1 => walk_at "side"))
  | ((with_reducible refine r_andB ?_))
  | ((with_reducible refine r_pow18 ?_))
  | ((with_reducible refine r_abs ?_))
  | ((with_reducible refine r_ord ?_))
  | ((with_reducible refine' r_rep ?k1 ?k2 ?k3 ?_); (case k1 => walk_at "side"); (case k2 => walk_at "side"); (case k3 => walk_at "side"))
  | ((with_reducible refine r_mthX ?_))
  | ((with_reducible refine r_fnP ?_))
  | ((with_reducible refine r_fnSE ?_))
  | ((with_reducible refine r_raiseE ?_))
  | ((with_reducible refine r_maxLen ?_))
  | ((with_reducible refine r_tryO ?_))
  | ((with_reducible refine r_dnget2 ?_))
  | ((with_reducible refine r_dnput ?_))
  | ((with_reducible refine r_itemsN ?_))
  | ((with_reducible refine r_pow4 ?_))
  | ((with_reducible refine r_bm0 ?_))
  | ((with_reducible refine r_sortSetT ?_))
  | ((with_reducible refine r_iEnumT ?_))
  | ((with_reducible refine r_star ?_))
  | ((with_reducible refine r_fmtD ?_)))
local macro_rules | `(tactic| walk_at "rd") => `(tactic| repeat walk_at "rd1")
local macro_rules | `(tactic| walk_at "en") => `(tactic| ((try dsimp only [nox_K, cx_K, gcx_K, nox_P, nox_w, cx_P, cx_w]); walk_at "rd"))
local macro_rules | `(tactic| walk_at "sp") => `(tactic| first
  | with_reducible refine r_iteD ?_ ?_
  | with_reducible refine r_iteN ?_ ?_
  | with_reducible refine r_ite ?_ ?_)
def topS (i : Nat) : Stmt := PySem.Challenge.pw_provenames_k07_make_set_refuses.main.body.getD i (.Pass ⟨0, 0, 0, 0⟩)
abbrev s_is_plain_label : Stmt := topS 14
theorem sc_is_plain_label : FnScope ["label", "character"] ["label"] (defScope s_is_plain_label) := ⟨rfl, rfl, rfl, by decide +kernel, rfl, by decide +kernel, by decide +kernel⟩
abbrev s_is_name : Stmt := topS 15
theorem sc_is_name : FnScope ["labels", "plain", "label"] ["labels"] (defScope s_is_name) := ⟨rfl, rfl, rfl, by decide +kernel, rfl, by decide +kernel, by decide +kernel⟩
abbrev s_is_wildcard : Stmt := topS 16
theorem sc_is_wildcard : FnScope ["name"] ["name"] (defScope s_is_wildcard) := ⟨rfl, rfl, rfl, by decide +kernel, rfl, by decide +kernel, by decide +kernel⟩
abbrev s_is_word : Stmt := topS 28
theorem sc_is_word : FnScope ["number"] ["number"] (defScope s_is_word) := ⟨rfl, rfl, rfl, by decide +kernel, rfl, by decide +kernel, by decide +kernel⟩
abbrev s_is_character_code : Stmt := topS 29
theorem sc_is_character_code : FnScope ["code"] ["code"] (defScope s_is_character_code) := ⟨rfl, rfl, rfl, by decide +kernel, rfl, by decide +kernel, by decide +kernel⟩
abbrev s_is_text : Stmt := topS 30
theorem sc_is_text : FnScope ["value", "character"] ["value"] (defScope s_is_text) := ⟨rfl, rfl, rfl, by decide +kernel, rfl, by decide +kernel, by decide +kernel⟩
abbrev s_is_mail : Stmt := topS 31
theorem sc_is_mail : FnScope ["value", "number", "name"] ["value"] (defScope s_is_mail) := ⟨rfl, rfl, rfl, by decide +kernel, rfl, by decide +kernel, by decide +kernel⟩
abbrev s_is_start : Stmt := topS 32
theorem sc_is_start : FnScope ["value", "number", "quiet"] ["value"] (defScope s_is_start) := ⟨rfl, rfl, rfl, by decide +kernel, rfl, by decide +kernel, by decide +kernel⟩
abbrev s_are_ordered_kinds : Stmt := topS 33
theorem sc_are_ordered_kinds : FnScope ["kinds", "kind"] ["kinds"] (defScope s_are_ordered_kinds) := ⟨rfl, rfl, rfl, by decide +kernel, rfl, by decide +kernel, by decide +kernel⟩
abbrev s_is_gap : Stmt := topS 34
theorem sc_is_gap : FnScope ["value", "name", "kinds"] ["value"] (defScope s_is_gap) := ⟨rfl, rfl, rfl, by decide +kernel, rfl, by decide +kernel, by decide +kernel⟩
abbrev s_is_value : Stmt := topS 35
theorem sc_is_value : FnScope ["kind", "value"] ["kind", "value"] (defScope s_is_value) := ⟨rfl, rfl, rfl, by decide +kernel, rfl, by decide +kernel, by decide +kernel⟩
abbrev s_is_allowed_count : Stmt := topS 36
theorem sc_is_allowed_count : FnScope ["kind", "count"] ["kind", "count"] (defScope s_is_allowed_count) := ⟨rfl, rfl, rfl, by decide +kernel, rfl, by decide +kernel, by decide +kernel⟩
abbrev s_make_set : Stmt := topS 37
theorem sc_make_set : FnScope ["name", "kind", "ttl", "values", "value", "different"] ["name", "kind", "ttl", "values"] (defScope s_make_set) := ⟨rfl, rfl, rfl, by decide +kernel, rfl, by decide +kernel, by decide +kernel⟩
abbrev s__law_cell : Stmt := topS 39
theorem sc__law_cell : FnScope ["script", "k", "total", "cell"] ["script", "k"] (defScope s__law_cell) := ⟨rfl, rfl, rfl, by decide +kernel, rfl, by decide +kernel, by decide +kernel⟩
abbrev s__law_source : Stmt := topS 40
theorem sc__law_source : FnScope ["cell"] ["cell"] (defScope s__law_source) := ⟨rfl, rfl, rfl, by decide +kernel, rfl, by decide +kernel, by decide +kernel⟩
abbrev s__law_draw : Stmt := topS 41
theorem sc__law_draw : FnScope ["source", "many", "digit"] ["source", "many"] (defScope s__law_draw) := ⟨rfl, rfl, rfl, by decide +kernel, rfl, by decide +kernel, by decide +kernel⟩
abbrev s__law_label : Stmt := topS 42
theorem sc__law_label : FnScope ["source", "chars", "choice", "label", "k", "labels"] ["source"] (defScope s__law_label) := ⟨rfl, rfl, rfl, by decide +kernel, rfl, by decide +kernel, by decide +kernel⟩
abbrev s__law_name : Stmt := topS 43
theorem sc__law_name : FnScope ["source", "count", "shape", "labels", "k"] ["source"] (defScope s__law_name) := ⟨rfl, rfl, rfl, by decide +kernel, rfl, by decide +kernel, by decide +kernel⟩
abbrev s__law_kinds : Stmt := topS 44
theorem sc__law_kinds : FnScope [] [] (defScope s__law_kinds) := ⟨rfl, rfl, rfl, by decide +kernel, rfl, by decide +kernel, by decide +kernel⟩
abbrev s__law_word : Stmt := topS 45
theorem sc__law_word : FnScope ["source", "choice"] ["source"] (defScope s__law_word) := ⟨rfl, rfl, rfl, by decide +kernel, rfl, by decide +kernel, by decide +kernel⟩
abbrev s__law_text : Stmt := topS 46
theorem sc__law_text : FnScope ["source", "chars", "size", "shape", "text", "k"] ["source"] (defScope s__law_text) := ⟨rfl, rfl, rfl, by decide +kernel, rfl, by decide +kernel, by decide +kernel⟩
abbrev s__law_value : Stmt := topS 47
theorem sc__law_value : FnScope ["kind", "source", "choice", "number", "kinds", "each"] ["kind", "source"] (defScope s__law_value) := ⟨rfl, rfl, rfl, by decide +kernel, rfl, by decide +kernel, by decide +kernel⟩
abbrev s__law_same : Stmt := topS 48
theorem sc__law_same : FnScope ["actual", "expected", "k"] ["actual", "expected"] (defScope s__law_same) := ⟨rfl, rfl, rfl, by decide +kernel, rfl, by decide +kernel, by decide +kernel⟩
abbrev s__law_sorted : Stmt := topS 49
theorem sc__law_sorted : FnScope ["values", "row", "value", "place", "other"] ["values"] (defScope s__law_sorted) := ⟨rfl, rfl, rfl, by decide +kernel, rfl, by decide +kernel, by decide +kernel⟩
abbrev s__law_odd_labels : Stmt := topS 50
theorem sc__law_odd_labels : FnScope ["source", "labels", "choice", "place", "odd"] ["source"] (defScope s__law_odd_labels) := ⟨rfl, rfl, rfl, by decide +kernel, rfl, by decide +kernel, by decide +kernel⟩
abbrev s__law_odd_number : Stmt := topS 51
theorem sc__law_odd_number : FnScope ["source", "most", "far"] ["source", "most"] (defScope s__law_odd_number) := ⟨rfl, rfl, rfl, by decide +kernel, rfl, by decide +kernel, by decide +kernel⟩
abbrev s__law_odd_kinds : Stmt := topS 52
theorem sc__law_odd_kinds : FnScope ["source", "words", "kinds", "k"] ["source"] (defScope s__law_odd_kinds) := ⟨rfl, rfl, rfl, by decide +kernel, rfl, by decide +kernel, by decide +kernel⟩
abbrev s__law_odd_value : Stmt := topS 53
theorem sc__law_odd_value : FnScope ["kind", "source", "good", "odd"] ["kind", "source"] (defScope s__law_odd_value) := ⟨rfl, rfl, rfl, by decide +kernel, rfl, by decide +kernel, by decide +kernel⟩
abbrev s__law_numbered : Stmt := topS 54
theorem sc__law_numbered : FnScope ["kind", "number", "label"] ["kind", "number"] (defScope s__law_numbered) := ⟨rfl, rfl, rfl, by decide +kernel, rfl, by decide +kernel, by decide +kernel⟩
abbrev s__law_counted : Stmt := topS 55
theorem sc__law_counted : FnScope ["kind", "source", "base", "count", "values", "k", "doubles", "again"] ["kind", "source"] (defScope s__law_counted) := ⟨rfl, rfl, rfl, by decide +kernel, rfl, by decide +kernel, by decide +kernel⟩
abbrev s__law_unknown_kind : Stmt := topS 56
theorem sc__law_unknown_kind : FnScope ["source", "kind"] ["source"] (defScope s__law_unknown_kind) := ⟨rfl, rfl, rfl, by decide +kernel, rfl, by decide +kernel, by decide +kernel⟩
abbrev s__law_made : Stmt := topS 57
theorem sc__law_made : FnScope ["source", "wrong", "kind", "name", "ttl", "values", "k", "some", "place"] ["source"] (defScope s__law_made) := ⟨rfl, rfl, rfl, by decide +kernel, rfl, by decide +kernel, by decide +kernel⟩
abbrev s__law_is_name : Stmt := topS 58
theorem sc__law_is_name : FnScope ["labels", "k", "label", "char"] ["labels"] (defScope s__law_is_name) := ⟨rfl, rfl, rfl, by decide +kernel, rfl, by decide +kernel, by decide +kernel⟩
abbrev s__law_is_word : Stmt := topS 59
theorem sc__law_is_word : FnScope ["number"] ["number"] (defScope s__law_is_word) := ⟨rfl, rfl, rfl, by decide +kernel, rfl, by decide +kernel, by decide +kernel⟩
abbrev s__law_fits : Stmt := topS 60
theorem sc__law_fits : FnScope ["kind", "value", "last", "each"] ["kind", "value"] (defScope s__law_fits) := ⟨rfl, rfl, rfl, by decide +kernel, rfl, by decide +kernel, by decide +kernel⟩
abbrev s__law_allowed : Stmt := topS 61
theorem sc__law_allowed : FnScope ["made", "value", "count"] ["made"] (defScope s__law_allowed) := ⟨rfl, rfl, rfl, by decide +kernel, rfl, by decide +kernel, by decide +kernel⟩
abbrev s__law_refused : Stmt := topS 62
theorem sc__law_refused : FnScope ["made", "passed", "by_name", "e"] ["made", "passed", "by_name"] (defScope s__law_refused) := ⟨rfl, rfl, rfl, by decide +kernel, rfl, by decide +kernel, by decide +kernel⟩
abbrev s_law : Stmt := topS 63
theorem sc_law : FnScope ["script", "rows", "k", "made", "passed", "expected"] ["script"] (defScope s_law) := ⟨rfl, rfl, rfl, by decide +kernel, rfl, by decide +kernel, by decide +kernel⟩
structure Txt (K : PySem.W.Frag) (mg : Str → Option Value) where
  m_bool : mg "bool" = none
  m_int : mg "int" = none
  m_isinstance : mg "isinstance" = none
  m_len : mg "len" = none
  m_list : mg "list" = none
  m_ord : mg "ord" = none
  m_range : mg "range" = none
  m_set : mg "set" = none
  m_sorted : mg "sorted" = none
  m_str : mg "str" = none
  m_tuple : mg "tuple" = none
  d_is_plain_label : Def1 K mg "is_plain_label" ["label"] s_is_plain_label
  d_is_name : Def1 K mg "is_name" ["labels"] s_is_name
  d_is_wildcard : Def1 K mg "is_wildcard" ["name"] s_is_wildcard
  d_is_word : Def1 K mg "is_word" ["number"] s_is_word
  d_is_character_code : Def1 K mg "is_character_code" ["code"] s_is_character_code
  d_is_text : Def1 K mg "is_text" ["value"] s_is_text
  d_is_mail : Def1 K mg "is_mail" ["value"] s_is_mail
  d_is_start : Def1 K mg "is_start" ["value"] s_is_start
  d_are_ordered_kinds : Def1 K mg "are_ordered_kinds" ["kinds"] s_are_ordered_kinds
  d_is_gap : Def1 K mg "is_gap" ["value"] s_is_gap
  d_is_value : Def1 K mg "is_value" ["kind", "value"] s_is_value
  d_is_allowed_count : Def1 K mg "is_allowed_count" ["kind", "count"] s_is_allowed_count
  d_make_set : Def1 K mg "make_set" ["name", "kind", "ttl", "values"] s_make_set
  d__law_cell : Def1 K mg "_law_cell" ["script", "k"] s__law_cell
  d__law_source : Def1 K mg "_law_source" ["cell"] s__law_source
  d__law_draw : Def1 K mg "_law_draw" ["source", "many"] s__law_draw
  d__law_label : Def1 K mg "_law_label" ["source"] s__law_label
  d__law_name : Def1 K mg "_law_name" ["source"] s__law_name
  d__law_kinds : Def1 K mg "_law_kinds" [] s__law_kinds
  d__law_word : Def1 K mg "_law_word" ["source"] s__law_word
  d__law_text : Def1 K mg "_law_text" ["source"] s__law_text
  d__law_value : Def1 K mg "_law_value" ["kind", "source"] s__law_value
  d__law_same : Def1 K mg "_law_same" ["actual", "expected"] s__law_same
  d__law_sorted : Def1 K mg "_law_sorted" ["values"] s__law_sorted
  d__law_odd_labels : Def1 K mg "_law_odd_labels" ["source"] s__law_odd_labels
  d__law_odd_number : Def1 K mg "_law_odd_number" ["source", "most"] s__law_odd_number
  d__law_odd_kinds : Def1 K mg "_law_odd_kinds" ["source"] s__law_odd_kinds
  d__law_odd_value : Def1 K mg "_law_odd_value" ["kind", "source"] s__law_odd_value
  d__law_numbered : Def1 K mg "_law_numbered" ["kind", "number"] s__law_numbered
  d__law_counted : Def1 K mg "_law_counted" ["kind", "source"] s__law_counted
  d__law_unknown_kind : Def1 K mg "_law_unknown_kind" ["source"] s__law_unknown_kind
  d__law_made : Def1 K mg "_law_made" ["source"] s__law_made
  d__law_is_name : Def1 K mg "_law_is_name" ["labels"] s__law_is_name
  d__law_is_word : Def1 K mg "_law_is_word" ["number"] s__law_is_word
  d__law_fits : Def1 K mg "_law_fits" ["kind", "value"] s__law_fits
  d__law_allowed : Def1 K mg "_law_allowed" ["made"] s__law_allowed
  d__law_refused : Def1 K mg "_law_refused" ["made", "passed", "by_name"] s__law_refused
  d_law : Def1 K mg "law" ["script"] s_law
  c_STAR_LABEL : GC mg "STAR_LABEL" (.str "*")
  c_LABEL_CHARACTERS : GC mg "LABEL_CHARACTERS" (.str "abcdefghijklmnopqrstuvwxyz0123456789-")
  c_MOST_CHARACTERS : GC mg "MOST_CHARACTERS" (.int 20)
  c_MOST_LABELS : GC mg "MOST_LABELS" (.int 12)
  c_KINDS : GK K mg "KINDS" ([.str "address", .str "text", .str "mail", .str "alias", .str "server", .str "start", .str "key", .str "link", .str "gap"] : List V)
  c_NAME_KINDS : GK K mg "NAME_KINDS" ([.str "alias", .str "server"] : List V)
  c_SINGLE_KINDS : GK K mg "SINGLE_KINDS" ([.str "alias", .str "start", .str "gap"] : List V)
  c_MOST_VALUES : GC mg "MOST_VALUES" (.int 100)
  c_MOST_TEXT : GC mg "MOST_TEXT" (.int 60)
  c_LAST_WORD : GC mg "LAST_WORD" (.int 4294967295)
  c_LAST_MAIL_NUMBER : GC mg "LAST_MAIL_NUMBER" (.int 65535)
  c_SPACE_CODE : GC mg "SPACE_CODE" (.int 32)
  c_TILDE_CODE : GC mg "TILDE_CODE" (.int 126)
  c_PERCENT_CODE : GC mg "PERCENT_CODE" (.int 37)
  m_ValueError : mg "ValueError" = none
  a_ProvenamesError : Addr
  a_BadName : Addr
  a_BadRecord : Addr
  a_BadEdition : Addr
  a_BadOctets : Addr
  a_ZoneConflict : Addr
  a_DeskConflict : Addr
  a_Unknown : Addr
  g_ProvenamesError : mg "ProvenamesError" = some (.ref a_ProvenamesError)
  g_BadName : mg "BadName" = some (.ref a_BadName)
  g_BadRecord : mg "BadRecord" = some (.ref a_BadRecord)
  g_BadEdition : mg "BadEdition" = some (.ref a_BadEdition)
  g_BadOctets : mg "BadOctets" = some (.ref a_BadOctets)
  g_ZoneConflict : mg "ZoneConflict" = some (.ref a_ZoneConflict)
  g_DeskConflict : mg "DeskConflict" = some (.ref a_DeskConflict)
  g_Unknown : mg "Unknown" = some (.ref a_Unknown)
  q_BadName : PySem.W.excIn K a_BadName [.type "ValueError", .type "Exception", .type "BaseException", .type "object"] "ValueError.__new__" = true
  k_BadName : PySem.W.keepIn K (.ref a_BadName) = true
  b_BadName : PySem.W.subIn K (.ref a_BadName) (.type "BaseException") = some true
  t_BadName : PySem.W.typeIn K (.ref a_BadName) = some (.type "type")
  e_BadName : ExcC K a_BadName
  x_BadName_ProvenamesError : PySem.W.exmOne K (.ref a_BadName) (.ref a_ProvenamesError) = some true
  i_BadName_ProvenamesError : PySem.W.kitOne K (.ref a_BadName) (.ref a_ProvenamesError) = some true
  i_BadName_BadName : PySem.W.kitOne K (.ref a_BadName) (.ref a_BadName) = some true
  i_BadName_BadRecord : PySem.W.kitOne K (.ref a_BadName) (.ref a_BadRecord) = some false
  i_BadName_BadEdition : PySem.W.kitOne K (.ref a_BadName) (.ref a_BadEdition) = some false
  i_BadName_BadOctets : PySem.W.kitOne K (.ref a_BadName) (.ref a_BadOctets) = some false
  i_BadName_ZoneConflict : PySem.W.kitOne K (.ref a_BadName) (.ref a_ZoneConflict) = some false
  i_BadName_DeskConflict : PySem.W.kitOne K (.ref a_BadName) (.ref a_DeskConflict) = some false
  i_BadName_Unknown : PySem.W.kitOne K (.ref a_BadName) (.ref a_Unknown) = some false
  i_BadName_ValueError : PySem.W.kitOne K (.ref a_BadName) (.type "ValueError") = some true
  q_BadRecord : PySem.W.excIn K a_BadRecord [.type "ValueError", .type "Exception", .type "BaseException", .type "object"] "ValueError.__new__" = true
  k_BadRecord : PySem.W.keepIn K (.ref a_BadRecord) = true
  b_BadRecord : PySem.W.subIn K (.ref a_BadRecord) (.type "BaseException") = some true
  t_BadRecord : PySem.W.typeIn K (.ref a_BadRecord) = some (.type "type")
  e_BadRecord : ExcC K a_BadRecord
  x_BadRecord_ProvenamesError : PySem.W.exmOne K (.ref a_BadRecord) (.ref a_ProvenamesError) = some true
  i_BadRecord_ProvenamesError : PySem.W.kitOne K (.ref a_BadRecord) (.ref a_ProvenamesError) = some true
  i_BadRecord_BadName : PySem.W.kitOne K (.ref a_BadRecord) (.ref a_BadName) = some false
  i_BadRecord_BadRecord : PySem.W.kitOne K (.ref a_BadRecord) (.ref a_BadRecord) = some true
  i_BadRecord_BadEdition : PySem.W.kitOne K (.ref a_BadRecord) (.ref a_BadEdition) = some false
  i_BadRecord_BadOctets : PySem.W.kitOne K (.ref a_BadRecord) (.ref a_BadOctets) = some false
  i_BadRecord_ZoneConflict : PySem.W.kitOne K (.ref a_BadRecord) (.ref a_ZoneConflict) = some false
  i_BadRecord_DeskConflict : PySem.W.kitOne K (.ref a_BadRecord) (.ref a_DeskConflict) = some false
  i_BadRecord_Unknown : PySem.W.kitOne K (.ref a_BadRecord) (.ref a_Unknown) = some false
  i_BadRecord_ValueError : PySem.W.kitOne K (.ref a_BadRecord) (.type "ValueError") = some true
section
variable {P : Program} {w : World} {K : PySem.W.Frag} {mg : Str → Option Value} {base : Heap}
/-! ### lists of data of one form -/
def LsAt (K : PySem.W.Frag) (H : Hp) (p : Addr) (P : PyData → Prop) (N : Nat) : Prop := ∃ outs es, H p = some (.lst outs) ∧ DpAll K H outs es ∧ (∀ e ∈ es, P e) ∧ es.length ≤ N
theorem LsAt.ex {H H' : Hp} {p : Addr} {R : PyData → Prop} {N : Nat} (h : LsAt K H p R N) (e : Same H H') : LsAt K H' p R N := by
  obtain ⟨o, es, h1, h2, h3, h4⟩ := h
  exact ⟨o, es, e _ _ h1, dpAll_ex e _ _ h2, h3, h4⟩
theorem LsAt.but {H H' : Hp} {p l : Addr} {R : PyData → Prop} {N : Nat} (h : LsAt K H p R N) (hR : ∀ e, R e → pureD e = true) (e : But l H H') (n : NoTup H l) (ne : p ≠ l) : LsAt K H' p R N := by
  obtain ⟨o, es, h1, h2, h3, h4⟩ := h
  exact ⟨o, es, e _ _ ne h1, dpAll_but e n _ _ ((pureAll_iff es).mpr fun e he => hR e (h3 e he)) h2, h3, h4⟩
theorem LsAt.mono {H : Hp} {p : Addr} {R : PyData → Prop} {N M : Nat} (h : LsAt K H p R N) (hl : N ≤ M) : LsAt K H p R M := by
  obtain ⟨o, es, h1, h2, h3, h4⟩ := h
  exact ⟨o, es, h1, h2, h3, by omega⟩
theorem r_isP {H : Hp} {p : Addr} {R : PyData → Prop} {N : Nat} {S : Prop} (h : LsAt K H p R N) (h2 : S) : tyV K "list" (.ref p) H ∧ S := by
  obtain ⟨o, es, h1, _⟩ := h
  exact r_isL h1 h2
theorem r_appP {H : Hp} {Q : VK} {p : Addr} {R : PyData → Prop} {N : Nat} {v : V} {e : PyData} (hR : ∀ e, R e → pureD e = true) (h : LsAt K H p R N) (hN : N ≤ 10000) (hv : Dp K H v e) (pe : R e) (q : ∀ H2, But p H H2 → NoTup H p → LsAt K H2 p R (N + 1) → Q .non H2) : rAppend (.ref p) [v] H Q := by
  obtain ⟨o, es, h1, h2, h3, h4⟩ := h
  have hl := dpAll_len h2
  refine r_append1 h1 (by omega) fun H2 b h5 => q H2 b (noTup_l h1) ⟨_, es ++ [e], h5, dpAll_app (dpAll_but b (noTup_l h1) _ _ ((pureAll_iff es).mpr fun e he => hR e (h3 e he)) h2) (.cons (dp_but b (noTup_l h1) _ _ (hR e pe) hv) .nil), fun x hx => ?_, by simp; omega⟩
  rcases List.mem_append.mp hx with hx | hx
  · exact h3 x hx
  · rw [List.mem_singleton.mp hx]; exact pe
theorem LsAt.noTup {H : Hp} {p : Addr} {R : PyData → Prop} {N : Nat} (h : LsAt K H p R N) : NoTup H p := by
  obtain ⟨o, es, h1, _⟩ := h
  exact noTup_l h1
/-- a pure tuple of these data stands at a -/
theorem pt_get {H : Hp} {a : Addr} {ds : List PyData} {i : Nat} {d : PyData} (h : PT K H a ds) (hi : ds[i]? = some d) : ∃ vs v, SqT K H a vs ∧ vs[i]? = some v ∧ Dp K H v d := by
  obtain ⟨vs, h1, h2⟩ := h
  obtain ⟨v, hv, hd⟩ := dpAll_get h2 hi
  exact ⟨vs, v, h1, hv, hd⟩
theorem r_ixPT {H : Hp} {Q : VK} {a : Addr} {ds : List PyData} {i : Nat} {d : PyData} (h : PT K H a ds) (hi : ds[i]? = some d) (q : ∀ v, Dp K H v d → Q v H) : rIxT K (.ref a) (.int (i : Nat)) H Q := by
  obtain ⟨vs, v, h1, h2, h3⟩ := pt_get h hi
  exact r_ixT h1 (atI_nat h2) (q v h3)
theorem pt_one {H : Hp} {a : Addr} {v : V} {d : PyData} (h : H a = some (.tup [v])) (hd : Dp K H v d) : PT K H a [d] := ⟨_, SqT.of h, .cons hd .nil⟩
theorem r_lenPT {H : Hp} {Q : VK} {a : Addr} {ds : List PyData} (h : PT K H a ds) (q : Q (.int (ds.length : Nat)) H) : rLenQ K [.ref a] H Q := by
  obtain ⟨vs, h1, h2⟩ := h
  refine r_lenT h1 ?_
  rw [dpAll_len h2]
  exact q
theorem r_gTupN {H : Hp} {T : Addr} {n : Nat} {vs : List V} {t : TGs} {σ : L2.St} {Q : L2.St → Hp → Prop} (h : SqT K H T vs) (hl : vs.length = n) (q : t vs σ H Q) : gTup K n t (.ref T) σ H Q := ⟨T, vs, rfl, h, hl, q⟩

def spPlain : Sp := fun vs H Q _ => ∃ z : Str, vs = [.str z] ∧ z.length ≤ 2000 ∧ Q (.bl (plainB z)) H
theorem ok_is_plain_label (T : Txt K mg) : Fn P w K mg base 1 "is_plain_label" ["label"] spPlain := by
  refine T.d_is_plain_label.ok sc_is_plain_label (by rintro vs H Q E ⟨_, rfl, _⟩; rfl) (fun f cdv A outer s H vs Q E hr h => ?_)
  obtain ⟨z, rfl, hz, k⟩ := h
  refine ⟨_, (pss_cons (ps_if (pt_not (pt_chain op_le op_le pe_int (pe_callB cLenS (by rfl) T.m_len PySem.boot_len (pa_cons (pv 0) pa_nil)) (pe_gc T.c_MOST_CHARACTERS rfl)))
  (pss_one (ps_ret pe_bl))
  pss_nil)
  (pss_cons (ps_for PassesOwn.never rfl (pi_str (pv 0)) (pg_name (i := 1) sc_is_plain_label.nd rfl (.inl rfl))
  (pss_one (ps_if (pt_cmpR oNotInS (pv 1) (pe_gc T.c_LABEL_CHARACTERS rfl) (by first | rfl | with_unfolding_all rfl))
  (pss_one (ps_ret pe_bl))
  pss_nil)))
  (pss_one (ps_ret pe_bl)))), ?_⟩
  walk_at "en"
  walk_at "sp" <;> intro h1
  · walk_at "rd"
    walk_at "sp" <;> intro h2
    rotate_left
    · walk_at "rd"
      refine loopS (fun i σ' H' => (∃ v, σ' = [some (.str z), v]) ∧ H' = H ∧ ∀ c ∈ z.cps.toList.take i, c ∈ CH.cps.toList) ⟨⟨_, rfl⟩, rfl, by simp⟩ ?_ ?_
      · rintro i c σ' H' hi ⟨⟨v, rfl⟩, rfl, hall⟩
        walk_at "rd"
        walk_at "sp" <;> intro h3
        · walk_at "rd"
          have e : plainB z = false := by
            unfold plainB
            rw [Bool.and_eq_false_iff]
            refine .inr (List.all_eq_false.mpr ⟨c, List.mem_of_getElem? hi, by simpa [CH] using h3⟩)
          rw [e] at k
          exact k
        · walk_at "rd"
          exact ⟨⟨_, rfl⟩, rfl, take_mem hi hall (by simpa [CH] using h3)⟩
      · rintro σ' H' ⟨⟨v, rfl⟩, rfl, hall⟩
        walk_at "rd"
        have e : plainB z = true := by
          unfold plainB
          rw [Bool.and_eq_true]
          refine ⟨decide_eq_true ⟨by omega, by omega⟩, List.all_eq_true.mpr fun c hc => decide_eq_true (hall c (by rw [List.take_length]; exact hc))⟩
        rw [e] at k
        exact k
    · walk_at "rd"
      have e : plainB z = false := by
        unfold plainB
        rw [decide_eq_false (by omega)]; rfl
      rw [e] at k
      exact k
  · walk_at "rd"
    have e : plainB z = false := by
      unfold plainB
      rw [decide_eq_false (by omega)]; rfl
    rw [e] at k
    exact k
def spWild (K : PySem.W.Frag) : Sp := fun vs H Q _ => ∃ (a : Addr) (xs : List Str), vs = [.ref a] ∧ SqT K H a (xs.map V.str) ∧ (∀ x ∈ xs, Asc x) ∧ ∀ H', Same H H' → Q (.bl (wildB xs)) H'
theorem ok_is_wildcard (T : Txt K mg) : Fn P w K mg base 1 "is_wildcard" ["name"] (spWild K) := by
  refine T.d_is_wildcard.ok sc_is_wildcard (by rintro vs H Q E ⟨_, _, rfl, _⟩; rfl) (fun f cdv A outer s H vs Q E hr h => ?_)
  obtain ⟨a, xs, rfl, hT, hA, k⟩ := h
  refine ⟨_, (pss_one (ps_ret (pe_cmpR (op_eqDK (K := K) rfl hr.units) (pe_slice sl_tupA (pv 0) (po_some (pe_un un_neg pe_int)) po_none) (pe_tup (pa_cons (pe_gc T.c_STAR_LABEL rfl) pa_nil)) (nomark _)))), ?_⟩
  walk_at "en"
  refine r_slA hT fun p H1 e1 hp => ?_
  walk_at "rd"
  intro q H2 n2 e2 hq
  rw [cutV_strs] at hp
  refine r_eqTS (ys := [("*" : Str)]) (ex_t e2 hp) (SqT.of hq) ?_ (fun x hx => by rw [List.mem_singleton.mp hx]; decide +kernel) ?_
  · intro x hx
    exact hA x (List.mem_of_mem_drop (List.mem_of_mem_take hx))
  have e : wildB xs = decide ((xs.drop (HT.sIx xs.length 0 (some (-1)))).take (HT.sIx xs.length xs.length none - HT.sIx xs.length 0 (some (-1))) = [("*" : Str)]) := by
    unfold wildB
    have e1 : HT.sIx xs.length 0 (some (-1)) = xs.length - 1 := by
      show (if (-1 : Int) < 0 then ((-1 : Int) + (xs.length : Int)).toNat else min (-1 : Int).toNat xs.length) = _
      rw [if_pos (by decide)]; omega
    rw [e1, HT.sIx_none, List.take_of_length_le (by rw [List.length_drop]; omega)]
  rw [← e]
  exact k H2 (e1.trans e2)
def spIsName (K : PySem.W.Frag) : Sp := fun vs H Q _ => ∃ (a : Addr) (xs : List Str), vs = [.ref a] ∧ SqT K H a (xs.map V.str) ∧ (∀ x ∈ xs, x.length ≤ 2000 ∧ Asc x) ∧ ∀ H', Same H H' → Q (.bl (nameB xs)) H'
theorem ok_is_name (T : Txt K mg) : Fn P w K mg base 2 "is_name" ["labels"] (spIsName K) := by
  refine T.d_is_name.ok sc_is_name (by rintro vs H Q E ⟨_, _, rfl, _⟩; rfl) (fun f cdv A outer s H vs Q E hr h => ?_)
  obtain ⟨a, xs, rfl, hT, hA, k⟩ := h
  refine ⟨_, (pss_cons (ps_if (pt_cmpR op_gt (pe_callB cLenQ (by rfl) T.m_len PySem.boot_len (pa_cons (pv 0) pa_nil)) (pe_gc T.c_MOST_LABELS rfl) (nomark _))
  (pss_one (ps_ret pe_bl))
  pss_nil)
  (pss_cons (ps_set (i := 1) sc_is_name.nd rfl (by first | exact .inl rfl | exact .inr rfl) (pe_cut (pe_ifExp (pt_val (pe_fn (ok_is_wildcard T) hr (by rfl) (pa_cons (pv 0) pa_nil))) (pe_slice sl_tupA (pv 0) po_none (po_some (pe_un un_neg pe_int))) (pv 0))))
  (pss_cons (ps_for PassesOwn.never rfl (pi_tup (pv 1)) (pg_name (i := 2) sc_is_name.nd rfl (.inl rfl))
  (pss_one (ps_if (pt_not (pt_val (pe_fn (ok_is_plain_label T) hr (by rfl) (pa_cons (pv 2) pa_nil))))
  (pss_one (ps_ret pe_bl))
  pss_nil)))
  (pss_one (ps_ret pe_bl))))), ?_⟩
  walk_at "en"
  walk_at "sp" <;> intro h1
  · walk_at "rd"
    have e : nameB xs = false := by
      unfold nameB
      rw [decide_eq_false (by rw [List.length_map] at h1; omega)]; rfl
    rw [e] at k
    exact k _ (Same.refl _)
  · walk_at "rd"
    refine r_cutE (fun v H' => Same H H' ∧ ∃ p, v = .ref p ∧ SqT K H' p ((if wildB xs then xs.dropLast else xs).map V.str)) ?_ ?_
    · walk_at "rd"
      refine ⟨a, xs, rfl, hT, fun x hx => (hA x hx).2, fun H1 e1 => ?_⟩
      walk_at "rd"
      walk_at "sp" <;> intro h2
      · walk_at "rd"
        refine r_slA (ex_t e1 hT) fun p H2 e2 hp => ?_
        refine ⟨e1.trans e2, p, rfl, ?_⟩
        rw [if_pos h2]
        rw [cutV_strs] at hp
        have e3 : HT.sIx xs.length xs.length (some (-1)) = xs.length - 1 := by
          show (if (-1 : Int) < 0 then ((-1 : Int) + (xs.length : Int)).toNat else min (-1 : Int).toNat xs.length) = _
          rw [if_pos (by decide)]; omega
        have e4 : HT.sIx xs.length 0 none = 0 := rfl
        rw [e3, e4] at hp
        simpa [List.dropLast_eq_take] using hp
      · walk_at "rd"
        refine ⟨e1, a, rfl, ?_⟩
        rw [if_neg (by simp [h2])]
        exact ex_t e1 hT
    · rintro v H1 ⟨e1, p, rfl, hp⟩
      have hsub : ∀ y ∈ (if wildB xs then xs.dropLast else xs), y.length ≤ 2000 := by
        intro y hy
        split at hy
        · exact (hA y (List.dropLast_subset xs hy)).1
        · exact (hA y hy).1
      walk_at "rd"
      refine loopT (xs := (if wildB xs then xs.dropLast else xs).map V.str) (fun i σ' H' => (∃ v, σ' = [some (.ref a), some (.ref p), v]) ∧ H' = H1 ∧ ∀ y ∈ (if wildB xs then xs.dropLast else xs).take i, plainB y = true) ⟨⟨_, rfl⟩, rfl, by simp⟩ (by rintro i σ' H' _ ⟨_, rfl, _⟩; exact hp) ?_ ?_
      · rintro i x σ' H' hi ⟨⟨v, rfl⟩, rfl, hall⟩
        obtain ⟨y, hy, rfl⟩ := map_get hi
        walk_at "rd"
        refine ⟨y, rfl, hsub y (List.mem_of_getElem? hy), ?_⟩
        walk_at "rd"
        cases hpl : plainB y with
        | true =>
          walk_at "rd"
          exact ⟨⟨_, rfl⟩, rfl, take_mem hy hall hpl⟩
        | false =>
          walk_at "rd"
          have e : nameB xs = false := by
            unfold nameB
            rw [Bool.and_eq_false_iff]
            exact .inr (List.all_eq_false.mpr ⟨y, List.mem_of_getElem? hy, by rw [hpl]; decide⟩)
          rw [e] at k
          exact k _ e1
      · rintro σ' H' ⟨⟨v, rfl⟩, rfl, hall⟩
        walk_at "rd"
        have e : nameB xs = true := by
          unfold nameB
          rw [Bool.and_eq_true]
          refine ⟨decide_eq_true (by rw [List.length_map] at h1; omega), List.all_eq_true.mpr fun y hy => hall y ?_⟩
          rw [List.length_map, List.take_length]
          exact hy
        rw [e] at k
        exact k _ e1

theorem dp_strv {H : Hp} {v : V} {z : Str} (h : Dp K H v (.str z)) : v = .str z := by cases h; rfl
theorem ok_is_character_code (T : Txt K mg) : Fn P w K mg base 1 "is_character_code" ["code"] (fun vs H Q _ => ∃ i : Int, vs = [.int i] ∧ Q (.bl (isCh i)) H) := by
  refine T.d_is_character_code.ok sc_is_character_code (by rintro vs H Q E ⟨_, rfl, _⟩; rfl) (fun f cdv A outer s H vs Q E hr h => ?_)
  obtain ⟨i, rfl, k⟩ := h
  refine ⟨_, (pss_one (ps_ret (pe_and (pe_chain op_le op_le (pe_gc T.c_SPACE_CODE rfl) (pv 0) (pe_gc T.c_TILDE_CODE rfl)) (pe_one (pe_cmpR op_ne (pv 0) (pe_gc T.c_PERCENT_CODE rfl) (nomark _)))))), ?_⟩
  walk_at "en"
  unfold isCh at k
  walk_at "sp" <;> intro h0
  · walk_at "rd"
    by_cases h1 : i ≤ 126
    · rw [decide_eq_true h1]
      walk_at "rd"
      have e : decide (32 ≤ i ∧ i ≤ 126 ∧ i ≠ 37) = !decide (i = 37) := by
        by_cases h2 : i = 37
        · subst h2; decide
        · rw [decide_eq_false h2]; exact decide_eq_true ⟨h0, h1, h2⟩
      rw [e] at k
      exact k
    · rw [decide_eq_false h1]
      walk_at "rd"
      rw [decide_eq_false (fun z => h1 z.2.1)] at k
      exact k
  · walk_at "rd"
    rw [decide_eq_false (fun z => h0 z.1)] at k
    exact k

/-! ### what is a value of a kind -/
def WdB (i : Int) : Bool := decide (0 ≤ i ∧ i ≤ 4294967295)
def txtB (z : Str) : Bool := decide (z.length ≤ 60) && z.cps.toList.all fun c => isCh (c : Int)
/-- labels, not yet known to be a name -/
def LbD (d : PyData) (zs : List Str) : Prop := d = dT zs ∧ ∀ z ∈ zs, z.length ≤ 2000 ∧ Asc z
def nmG (d : PyData) : Prop := ∃ zs : List Str, d = dT zs ∧ nameB zs = true
theorem nmG.lb {d : PyData} (h : nmG d) : ∃ zs, LbD d zs ∧ nameB zs = true := by
  obtain ⟨zs, rfl, h⟩ := h
  exact ⟨zs, ⟨rfl, fun z hz => by have := name_asc h hz; exact ⟨by omega, this.2⟩⟩, h⟩
theorem nmG.toW {d : PyData} (h : nmG d) : nmW d := by
  obtain ⟨zs, rfl, h⟩ := h
  exact ⟨zs, rfl, fun z hz => by have := name_asc h hz; exact ⟨this.2, by omega⟩, name_len h⟩
/-- a good value of a kind -/
def vlG (κ : Str) (d : PyData) : Prop :=
  if κ = "text" then ∃ z : Str, d = .str z ∧ Asc z ∧ txtB z = true
  else if κ = "mail" then ∃ (i : Int) (n : PyData), d = .tuple [.int i, n] ∧ nmG n ∧ 0 ≤ i ∧ i ≤ 65535
  else if κ = "alias" ∨ κ = "server" then nmG d
  else if κ = "start" then ∃ i j : Int, d = .tuple [.int i, .int j] ∧ WdB i = true ∧ WdB j = true
  else if κ = "gap" then ∃ (n : PyData) (b : Nat), d = .tuple [n, dT (pick b)] ∧ nmG n ∧ b < 512
  else ∃ i : Int, d = .int i ∧ WdB i = true
theorem vlG.toW {κ : Str} {d : PyData} (h : vlG κ d) : vlW κ d := by
  unfold vlG at h
  unfold vlW
  split
  · rename_i c; rw [if_pos c] at h
    obtain ⟨z, rfl, h1, h2⟩ := h
    refine ⟨z, rfl, h1, ?_⟩
    unfold txtB at h2
    simp only [Bool.and_eq_true, decide_eq_true_eq] at h2
    exact h2.1
  rename_i c; rw [if_neg c] at h
  split
  · rename_i c; rw [if_pos c] at h; obtain ⟨i, n, rfl, h1, _⟩ := h; exact ⟨i, n, rfl, h1.toW⟩
  rename_i c; rw [if_neg c] at h
  split
  · rename_i c; rw [if_pos c] at h; exact h.toW
  rename_i c; rw [if_neg c] at h
  split
  · rename_i c; rw [if_pos c] at h; obtain ⟨i, j, rfl, _⟩ := h; exact ⟨i, j, rfl⟩
  rename_i c; rw [if_neg c] at h
  split
  · rename_i c; rw [if_pos c] at h; obtain ⟨n, b, rfl, h1, h2⟩ := h; exact ⟨n, b, rfl, h1.toW, h2⟩
  rename_i c; rw [if_neg c] at h
  obtain ⟨i, rfl, _⟩ := h
  exact ⟨i, rfl⟩
theorem ok_is_word (T : Txt K mg) : Fn P w K mg base 1 "is_word" ["number"] (fun vs H Q _ => ∃ i : Int, vs = [.int i] ∧ Q (.bl (WdB i)) H) := by
  refine T.d_is_word.ok sc_is_word (by rintro vs H Q E ⟨_, rfl, _⟩; rfl) (fun f cdv A outer s H vs Q E hr h => ?_)
  obtain ⟨i, rfl, k⟩ := h
  refine ⟨_, (pss_one (ps_ret (pe_chain op_le op_le pe_int (pv 0) (pe_gc T.c_LAST_WORD rfl)))), ?_⟩
  unfold WdB at k
  walk_at "en"
  walk_at "sp" <;> intro h0
  · walk_at "rd"
    have e : decide (0 ≤ i ∧ i ≤ 4294967295) = decide (i ≤ 4294967295) := decide_eq_decide.mpr ⟨fun z => z.2, fun z => ⟨h0, z⟩⟩
    rw [e] at k
    exact k
  · walk_at "rd"
    rw [decide_eq_false (fun z => h0 z.1)] at k
    exact k
theorem ok_is_text (T : Txt K mg) : Fn P w K mg base 2 "is_text" ["value"] (fun vs H Q _ => ∃ z : Str, vs = [.str z] ∧ z.length ≤ 2000 ∧ Q (.bl (txtB z)) H) := by
  refine T.d_is_text.ok sc_is_text (by rintro vs H Q E ⟨_, rfl, _⟩; rfl) (fun f cdv A outer s H vs Q E hr h => ?_)
  obtain ⟨z, rfl, hz, k⟩ := h
  refine ⟨_, (pss_cons (ps_if (pt_cmpR op_gt (pe_callB cLenS (by rfl) T.m_len PySem.boot_len (pa_cons (pv 0) pa_nil)) (pe_gc T.c_MOST_TEXT rfl) (nomark _))
  (pss_one (ps_ret pe_bl))
  pss_nil)
  (pss_cons (ps_for PassesOwn.never rfl (pi_str (pv 0)) (pg_name (i := 1) sc_is_text.nd rfl (.inl rfl))
  (pss_one (ps_if (pt_not (pt_val (pe_fn (ok_is_character_code T) hr (by rfl) (pa_cons (pe_callB cOrd (by rfl) T.m_ord (by decide +kernel) (pa_cons (pv 1) pa_nil)) pa_nil))))
  (pss_one (ps_ret pe_bl))
  pss_nil)))
  (pss_one (ps_ret pe_bl)))), ?_⟩
  unfold txtB at k
  walk_at "en"
  walk_at "sp" <;> intro h0
  · walk_at "rd"
    rw [decide_eq_false (by omega)] at k
    exact k
  · rw [decide_eq_true (by omega), Bool.true_and] at k
    walk_at "rd"
    refine loopS (fun i σ' H' => (∃ v, σ' = [some (.str z), v]) ∧ H' = H ∧ ∀ c ∈ z.cps.toList.take i, isCh (c : Int) = true) ⟨⟨_, rfl⟩, rfl, by simp⟩ ?_ ?_
    · rintro i c σ' H' hi ⟨⟨v, rfl⟩, rfl, hall⟩
      walk_at "rd"
      refine ⟨_, rfl, ?_⟩
      walk_at "rd"
      cases hc : isCh (c : Int) with
      | true =>
        walk_at "rd"
        exact ⟨⟨_, rfl⟩, rfl, take_mem hi hall hc⟩
      | false =>
        walk_at "rd"
        rw [List.all_eq_false.mpr ⟨c, List.mem_of_getElem? hi, by rw [hc]; decide⟩] at k
        exact k
    · rintro σ' H' ⟨⟨v, rfl⟩, rfl, hall⟩
      walk_at "rd"
      rw [List.all_eq_true.mpr fun c hc => hall c (by rw [List.take_of_length_le (by have := len_list z; omega)]; exact hc)] at k
      exact k
theorem dp_intv {H : Hp} {v : V} {z : Int} (h : Dp K H v (.int z)) : v = .int z := by cases h; rfl
theorem ok_is_start (T : Txt K mg) : Fn P w K mg base 2 "is_start" ["value"] (fun vs H Q _ => ∃ (v : V) (i j : Int), vs = [v] ∧ Dp K H v (.tuple [.int i, .int j]) ∧ Q (.bl (WdB i && WdB j)) H) := by
  refine T.d_is_start.ok sc_is_start (by rintro vs H Q E ⟨_, _, _, rfl, _⟩; rfl) (fun f cdv A outer s H vs Q E hr h => ?_)
  obtain ⟨v, i, j, rfl, hv, k⟩ := h
  obtain ⟨a, rfl, ⟨es, hs, hd⟩⟩ := dp_pt hv
  refine ⟨_, (pss_cons (ps_asg (pv 0) (pg_tup (by rfl) (pgs_cons (pg_name (i := 1) sc_is_start.nd rfl (.inl rfl)) (pgs_cons (pg_name (i := 2) sc_is_start.nd rfl (.inl rfl)) pgs_nil))))
  (pss_one (ps_ret (pe_and (pe_fn (ok_is_word T) hr (by rfl) (pa_cons (pv 1) pa_nil)) (pe_one (pe_fn (ok_is_word T) hr (by rfl) (pa_cons (pv 2) pa_nil))))))), ?_⟩
  have hl := dpAll_len hd
  walk_at "en"
  cases hd with | cons h1 hd => cases hd with | cons h2 hd => cases hd with | nil =>
  cases h1
  cases h2
  refine r_gTupN hs hl ?_
  walk_at "rd"
  refine ⟨i, rfl, ?_⟩
  walk_at "rd"
  cases hi : WdB i with
  | true =>
    rw [hi] at k
    walk_at "rd"
    refine ⟨j, rfl, ?_⟩
    walk_at "rd"
    exact k
  | false =>
    rw [hi] at k
    walk_at "rd"
    exact k
theorem nm_at {H : Hp} {v : V} {zs : List Str} (h : Dp K H v (dT zs)) : ∃ a, v = .ref a ∧ SqT K H a (zs.map V.str) := by
  obtain ⟨a, rfl, ⟨vs, hs, hd⟩⟩ := dp_pt h
  refine ⟨a, rfl, ?_⟩
  have key : ∀ (zs : List Str) (vs : List V), DpAll K H vs (zs.map PyData.str) → vs = zs.map V.str := by
    intro zs
    induction zs with
    | nil => intro vs h; cases h; rfl
    | cons z zs ih =>
      intro vs h
      cases h with
      | cons h1 h2 =>
        cases dp_strv h1
        rw [ih _ h2]
        rfl
  rw [key zs vs hd] at hs
  exact hs
theorem ok_is_mail (T : Txt K mg) : Fn P w K mg base 3 "is_mail" ["value"] (fun vs H Q _ => ∃ (v : V) (i : Int) (n : PyData) (zs : List Str), vs = [v] ∧ Dp K H v (.tuple [.int i, n]) ∧ LbD n zs ∧ ∀ H', Same H H' → Q (.bl (decide (0 ≤ i ∧ i ≤ 65535) && nameB zs)) H') := by
  refine T.d_is_mail.ok sc_is_mail (by rintro vs H Q E ⟨_, _, _, _, rfl, _⟩; rfl) (fun f cdv A outer s H vs Q E hr h => ?_)
  obtain ⟨v, i, n, zs, rfl, hv, ⟨rfl, hz⟩, k⟩ := h
  obtain ⟨a, rfl, ⟨es, hs, hd⟩⟩ := dp_pt hv
  refine ⟨_, (pss_cons (ps_asg (pv 0) (pg_tup (by rfl) (pgs_cons (pg_name (i := 1) sc_is_mail.nd rfl (.inl rfl)) (pgs_cons (pg_name (i := 2) sc_is_mail.nd rfl (.inl rfl)) pgs_nil))))
  (pss_one (ps_ret (pe_and (pe_chain op_le op_le pe_int (pv 1) (pe_gc T.c_LAST_MAIL_NUMBER rfl)) (pe_one (pe_fn (ok_is_name T) hr (by rfl) (pa_cons (pv 2) pa_nil))))))), ?_⟩
  have hl := dpAll_len hd
  walk_at "en"
  cases hd with | cons h1 hd => cases hd with | cons h2 hd => cases hd with | nil =>
  cases h1
  refine r_gTupN hs hl ?_
  walk_at "rd"
  obtain ⟨q, rfl, hq⟩ := nm_at h2
  walk_at "sp" <;> intro h0
  · walk_at "rd"
    by_cases h1 : i ≤ 65535
    · rw [decide_eq_true h1]
      walk_at "rd"
      refine ⟨q, zs, rfl, hq, hz, fun H1 e1 => ?_⟩
      walk_at "rd"
      have := k H1 e1
      rw [decide_eq_true ⟨h0, h1⟩, Bool.true_and] at this
      exact this
    · rw [decide_eq_false h1]
      walk_at "rd"
      have := k H (Same.refl _)
      rw [decide_eq_false (fun z => h1 z.2), Bool.false_and] at this
      exact this
  · walk_at "rd"
    have := k H (Same.refl _)
    rw [decide_eq_false (fun z => h0 z.1), Bool.false_and] at this
    exact this
theorem flat_pick (ks : List Str) : (ks.map V.str).all flatV = true := flat_strs ks
/-- the kinds in their order, as the program asks it -/
def ordB (ks : List Str) : Bool := PyData.eqv (dT ks) (dT (KN.filter fun z => inV (.str z) (ks.map V.str)))
def KsD (ks : List Str) : Prop := ks.length ≤ 12 ∧ ∀ k ∈ ks, Asc k
theorem ok_are_ordered_kinds (T : Txt K mg) : Fn P w K mg base 1 "are_ordered_kinds" ["kinds"] (fun vs H Q _ => ∃ (v : V) (ks : List Str), vs = [v] ∧ Dp K H v (dT ks) ∧ KsD ks ∧ ∀ H', Same H H' → Q (.bl (ordB ks)) H') := by
  refine T.d_are_ordered_kinds.ok sc_are_ordered_kinds (by rintro vs H Q E ⟨_, _, rfl, _⟩; rfl) (fun f cdv A outer s H vs Q E hr h => ?_)
  obtain ⟨v, ks, rfl, hv, hb, k⟩ := h
  obtain ⟨a, rfl, hks⟩ := nm_at hv
  refine ⟨_, (pss_one (ps_ret (pe_cmpR (op_eqDK (K := K) rfl hr.units) (pv 0) (pe_callTy cTupOf (by rfl) T.m_tuple (by decide +kernel) (pa_cons (pe_lc (own := [("kind", 1)]) (g := (gName 1)) rfl sc_are_ordered_kinds.nd (pi_tup (pe_gk T.c_KINDS rfl)) (blkOk_by (N := ["kinds", "kind"]) (sc := defScope s_are_ordered_kinds) (by decide +kernel)) (fun _ _ _ _ _ => (pg_name (i := 1) sc_are_ordered_kinds.nd rfl (Or.inl rfl))) (fun _ _ _ _ _ => (pts_one (pt_cmpR (op_in_seqK (K := K) rfl) (pv 1) (pv 0) (by first | rfl | with_unfolding_all rfl)))) (fun _ _ _ _ _ => (pv 1))) pa_nil)) (nomark _)))), ?_⟩
  walk_at "en"
  refine r_ktA fun q hq _ => ?_
  refine ⟨q, rfl, ⟨_, hq _⟩, ?_⟩
  refine lcT (xs := KN.map V.str) (fun D i H' => Same H H' ∧ H D = none ∧ H' D = some (.lst (((KN.take i).filter fun z => inV (.str z) (ks.map V.str)).map V.str))) (fun D H2 n2 e2 h2 => ⟨e2, n2, by simpa using h2⟩) (fun D i H' _ _ => hq _) ?_ ?_
  · rintro D i x H' hi ⟨e, nD, h⟩
    obtain ⟨z, hz, rfl⟩ := map_get hi
    have hi9 : i < 9 := (List.getElem?_eq_some_iff.mp hz).1
    have hle : ((KN.take i).filter fun z => inV (.str z) (ks.map V.str)).length ≤ 9 := by
      have h1 := List.length_filter_le (fun z => inV (.str z) (ks.map V.str)) (KN.take i)
      rw [List.length_take] at h1
      omega
    have step : (KN.take (i + 1)).filter (fun z => inV (.str z) (ks.map V.str)) = (KN.take i).filter (fun z => inV (.str z) (ks.map V.str)) ++ (if inV (.str z) (ks.map V.str) = true then [z] else []) := by
      rw [List.take_add_one, hz, List.filter_append]
      congr 1
      by_cases c : inV (.str z) (ks.map V.str) = true
      · simp [c]
      · simp [c]
    walk_at "rd"
    refine ⟨rfl, ?_⟩
    walk_at "rd"
    refine r_inF (.inr (ex_t e hks)) rfl (flat_pick _) ?_
    walk_at "rd"
    cases hin : inV (.str z) (ks.map V.str) with
    | true =>
      walk_at "rd"
      refine r_yield h (by rw [List.length_map]; omega) fun H2 b2 h2 => ⟨same_but e b2 nD, nD, ?_⟩
      rw [h2, step, if_pos hin, List.map_append]
      rfl
    | false =>
      walk_at "rd"
      refine ⟨e, nD, ?_⟩
      rw [step, if_neg (by rw [hin]; decide), List.append_nil]
      exact h
  · rintro D H' ⟨e, nD, h⟩
    have e9 : (KN.map V.str).length = 9 := rfl
    rw [e9, show KN.take 9 = KN from rfl] at h
    walk_at "rd"
    refine r_tupOf (SqL.of h) fun t H2 n2 e2 ht => ?_
    have p2 : pureD (dT ks) = true ∧ (dT ks).depth ≤ 1 := (show nameD (dT ks) from ⟨_, rfl, hb.2, by have := hb.1; omega⟩).pure
    have p3 : pureD (dT (KN.filter fun z => inV (.str z) (ks.map V.str))) = true ∧ (dT (KN.filter fun z => inV (.str z) (ks.map V.str))).depth ≤ 1 := (show nameD _ from ⟨_, rfl, fun z hz => (KN_asc z (List.mem_filter.mp hz).1).1, by have h1 := List.length_filter_le (fun z => inV (.str z) (ks.map V.str)) KN; have h2 : KN.length = 9 := rfl; omega⟩).pure
    have ht' : Dp K H2 (.ref t) (dT (KN.filter fun z => inV (.str z) (ks.map V.str))) := dp_tup (SqT.of ht)
    refine r_eqP (dp_ex (e.trans e2) _ _ hv) ht' p2.1 p3.1 (by omega) (by omega) ?_
    exact k H2 (e.trans e2)
theorem ok_is_gap (T : Txt K mg) : Fn P w K mg base 3 "is_gap" ["value"] (fun vs H Q _ => ∃ (v : V) (n : PyData) (zs ks : List Str), vs = [v] ∧ Dp K H v (.tuple [n, dT ks]) ∧ LbD n zs ∧ KsD ks ∧ ∀ H', Same H H' → Q (.bl (nameB zs && ordB ks)) H') := by
  refine T.d_is_gap.ok sc_is_gap (by rintro vs H Q E ⟨_, _, _, _, rfl, _⟩; rfl) (fun f cdv A outer s H vs Q E hr h => ?_)
  obtain ⟨v, n, zs, ks, rfl, hv, ⟨rfl, hz⟩, hb, k⟩ := h
  obtain ⟨a, rfl, ⟨es, hs, hd⟩⟩ := dp_pt hv
  refine ⟨_, (pss_cons (ps_asg (pv 0) (pg_tup (by rfl) (pgs_cons (pg_name (i := 1) sc_is_gap.nd rfl (.inl rfl)) (pgs_cons (pg_name (i := 2) sc_is_gap.nd rfl (.inl rfl)) pgs_nil))))
  (pss_one (ps_ret (pe_and (pe_fn (ok_is_name T) hr (by rfl) (pa_cons (pv 1) pa_nil)) (pe_one (pe_fn (ok_are_ordered_kinds T) (hr.mono (by decide)) (by rfl) (pa_cons (pv 2) pa_nil))))))), ?_⟩
  have hl := dpAll_len hd
  walk_at "en"
  cases hd with | cons h1 hd => cases hd with | cons h2 hd => cases hd with | nil =>
  obtain ⟨q, rfl, hq⟩ := nm_at h1
  refine r_gTupN hs hl ?_
  walk_at "rd"
  refine ⟨q, zs, rfl, hq, hz, fun H1 e1 => ?_⟩
  cases hnb : nameB zs with
  | true =>
    walk_at "rd"
    refine ⟨_, ks, rfl, dp_ex e1 _ _ h2, hb, fun H2 e2 => ?_⟩
    walk_at "rd"
    have := k H2 (e1.trans e2)
    rw [hnb, Bool.true_and] at this
    exact this
  | false =>
    walk_at "rd"
    have := k H1 e1
    rw [hnb, Bool.false_and] at this
    exact this
/-- a drawn value of a kind, and whether it is one -/
def VlR (κ : Str) (d : PyData) (b : Bool) : Prop :=
  if κ = "text" then ∃ z : Str, d = .str z ∧ Asc z ∧ z.length ≤ 200 ∧ b = txtB z
  else if κ = "mail" then ∃ (i : Int) (n : PyData) (zs : List Str), d = .tuple [.int i, n] ∧ LbD n zs ∧ b = (decide (0 ≤ i ∧ i ≤ 65535) && nameB zs)
  else if κ = "alias" ∨ κ = "server" then ∃ zs, LbD d zs ∧ b = nameB zs
  else if κ = "start" then ∃ i j : Int, d = .tuple [.int i, .int j] ∧ b = (WdB i && WdB j)
  else if κ = "gap" then ∃ (n : PyData) (zs ks : List Str), d = .tuple [n, dT ks] ∧ LbD n zs ∧ KsD ks ∧ b = (nameB zs && ordB ks)
  else ∃ i : Int, d = .int i ∧ b = WdB i
theorem ok_is_value (T : Txt K mg) : Fn P w K mg base 4 "is_value" ["kind", "value"] (fun vs H Q _ => ∃ (κ : Str) (v : V) (d : PyData) (b : Bool), vs = [.str κ, v] ∧ Dp K H v d ∧ VlR κ d b ∧ ∀ H', Same H H' → Q (.bl b) H') := by
  refine T.d_is_value.ok sc_is_value (by rintro vs H Q E ⟨_, _, _, _, rfl, _⟩; rfl) (fun f cdv A outer s H vs Q E hr h => ?_)
  obtain ⟨κ, v, d, b, rfl, hv, hd, k⟩ := h
  refine ⟨_, (pss_cons (ps_if (pt_cmpR op_eq (pv 0) pe_str (nomark _))
  (pss_one (ps_ret (pe_fn (ok_is_text T) (hr.mono (by decide)) (by rfl) (pa_cons (pv 1) pa_nil))))
  pss_nil)
  (pss_cons (ps_if (pt_cmpR op_eq (pv 0) pe_str (nomark _))
  (pss_one (ps_ret (pe_fn (ok_is_mail T) hr (by rfl) (pa_cons (pv 1) pa_nil))))
  pss_nil)
  (pss_cons (ps_if (pt_cmpR op_in_seq (pv 0) (pe_gk T.c_NAME_KINDS rfl) (by first | rfl | with_unfolding_all rfl))
  (pss_one (ps_ret (pe_fn (ok_is_name T) (hr.mono (by decide)) (by rfl) (pa_cons (pv 1) pa_nil))))
  pss_nil)
  (pss_cons (ps_if (pt_cmpR op_eq (pv 0) pe_str (nomark _))
  (pss_one (ps_ret (pe_fn (ok_is_start T) (hr.mono (by decide)) (by rfl) (pa_cons (pv 1) pa_nil))))
  pss_nil)
  (pss_cons (ps_if (pt_cmpR op_eq (pv 0) pe_str (nomark _))
  (pss_one (ps_ret (pe_fn (ok_is_gap T) hr (by rfl) (pa_cons (pv 1) pa_nil))))
  pss_nil)
  (pss_one (ps_ret (pe_fn (ok_is_word T) (hr.mono (by decide)) (by rfl) (pa_cons (pv 1) pa_nil))))))))), ?_⟩
  unfold VlR at hd
  walk_at "en"
  walk_at "sp" <;> intro h0
  · rw [if_pos h0] at hd
    obtain ⟨z, rfl, hA, hz, rfl⟩ := hd
    cases dp_strv hv
    walk_at "rd"
    exact ⟨z, rfl, by omega, k H (Same.refl _)⟩
  rw [if_neg h0] at hd
  walk_at "rd"
  walk_at "sp" <;> intro h1
  · rw [if_pos h1] at hd
    obtain ⟨i, n, zs, rfl, hlb, rfl⟩ := hd
    walk_at "rd"
    refine ⟨v, i, n, zs, rfl, hv, hlb, fun H1 e1 => ?_⟩
    exact k H1 e1
  rw [if_neg h1] at hd
  walk_at "rd"
  refine r_kt fun a ha _ => ?_
  refine r_inF (.inr ha) rfl rfl ?_
  have e2 : inV (V.str κ) [V.str "alias", V.str "server"] = decide (κ = "alias" ∨ κ = "server") := by
    by_cases a1 : κ = "alias"
    · subst a1; decide +kernel
    by_cases a2 : κ = "server"
    · subst a2; decide +kernel
    rw [decide_eq_false (fun z => z.elim a1 a2)]
    show ((("alias" : Str) == κ) || ((("server" : Str) == κ) || false)) = false
    rw [beq_eq_false_iff_ne.mpr (Ne.symm a1), beq_eq_false_iff_ne.mpr (Ne.symm a2)]
    rfl
  rw [e2]
  walk_at "rd"
  walk_at "sp" <;> intro h2
  · rw [if_pos h2] at hd
    obtain ⟨zs, ⟨rfl, hz⟩, rfl⟩ := hd
    obtain ⟨q, rfl, hq⟩ := nm_at hv
    walk_at "rd"
    refine ⟨q, zs, rfl, hq, hz, fun H1 e1 => ?_⟩
    exact k H1 e1
  rw [if_neg h2] at hd
  walk_at "rd"
  walk_at "sp" <;> intro h3
  · rw [if_pos h3] at hd
    obtain ⟨i, j, rfl, rfl⟩ := hd
    walk_at "rd"
    exact ⟨v, i, j, rfl, hv, k H (Same.refl _)⟩
  rw [if_neg h3] at hd
  walk_at "rd"
  walk_at "sp" <;> intro h4
  · rw [if_pos h4] at hd
    obtain ⟨n, zs, ks, rfl, hn, hb, rfl⟩ := hd
    walk_at "rd"
    exact ⟨v, n, zs, ks, rfl, hv, hn, hb, k⟩
  rw [if_neg h4] at hd
  obtain ⟨i, rfl, rfl⟩ := hd
  cases dp_intv hv
  walk_at "rd"
  exact ⟨i, rfl, k H (Same.refl _)⟩
def sgB (κ : Str) : Bool := decide (κ = "alias" ∨ κ = "start" ∨ κ = "gap")
def cntB (κ : Str) (n : Int) : Bool := if sgB κ = true then decide (n = 1) else decide (1 ≤ n ∧ n ≤ 100)
theorem inS3 (κ : Str) : inV (V.str κ) [V.str "alias", V.str "start", V.str "gap"] = sgB κ := by
  unfold sgB
  by_cases a1 : κ = "alias"
  · subst a1; decide +kernel
  by_cases a2 : κ = "start"
  · subst a2; decide +kernel
  by_cases a3 : κ = "gap"
  · subst a3; decide +kernel
  rw [decide_eq_false (fun z => z.elim a1 fun z => z.elim a2 a3)]
  show ((("alias" : Str) == κ) || ((("start" : Str) == κ) || ((("gap" : Str) == κ) || false))) = false
  rw [beq_eq_false_iff_ne.mpr (Ne.symm a1), beq_eq_false_iff_ne.mpr (Ne.symm a2), beq_eq_false_iff_ne.mpr (Ne.symm a3)]
  rfl
theorem ok_is_allowed_count (T : Txt K mg) : Fn P w K mg base 1 "is_allowed_count" ["kind", "count"] (fun vs H Q _ => ∃ (κ : Str) (n : Int), vs = [.str κ, .int n] ∧ Q (.bl (cntB κ n)) H) := by
  refine T.d_is_allowed_count.ok sc_is_allowed_count (by rintro vs H Q E ⟨_, _, rfl, _⟩; rfl) (fun f cdv A outer s H vs Q E hr h => ?_)
  obtain ⟨κ, n, rfl, k⟩ := h
  refine ⟨_, (pss_cons (ps_if (pt_cmpR op_in_seq (pv 0) (pe_gk T.c_SINGLE_KINDS rfl) (by first | rfl | with_unfolding_all rfl))
  (pss_one (ps_ret (pe_cmpR op_eq (pv 1) pe_int (nomark _))))
  pss_nil)
  (pss_one (ps_ret (pe_chain op_le op_le pe_int (pv 1) (pe_gc T.c_MOST_VALUES rfl))))), ?_⟩
  unfold cntB at k
  walk_at "en"
  refine r_kt fun a ha _ => ?_
  refine r_inF (.inr ha) rfl rfl ?_
  rw [inS3]
  walk_at "rd"
  cases hs : sgB κ with
  | true =>
    rw [hs, if_pos rfl] at k
    walk_at "rd"
    exact k
  | false =>
    rw [hs, if_neg (by decide)] at k
    walk_at "rd"
    walk_at "sp" <;> intro h0
    · walk_at "rd"
      have e : decide (1 ≤ n ∧ n ≤ 100) = decide (n ≤ 100) := decide_eq_decide.mpr ⟨fun z => z.2, fun z => ⟨h0, z⟩⟩
      rw [e] at k
      exact k
    · walk_at "rd"
      rw [decide_eq_false (fun z => h0 z.1)] at k
      exact k
theorem inKN (κ : Str) (h : κ ∈ KN) : inV (V.str κ) (KN.map V.str) = true := by
  have key : ∀ κ ∈ KN, inV (V.str κ) (KN.map V.str) = true := by decide +kernel
  exact key κ h
theorem vlG.valK {κ : Str} {d : PyData} (h : vlG κ d) : valK κ d := h.toW.valK
/-- what such a kind's values are, for a set of them -/
theorem kind_set {κ : Str} {ds : List PyData} (h : ∀ d ∈ ds, vlG κ d) (hl : ds.length ≤ 1000) (ht : (κ = "mail" ∨ κ = "alias" ∨ κ = "server" ∨ κ = "start" ∨ κ = "gap") → ds.length < 300) : SetOk ds := by
  refine ⟨fun d hd => by have := (h d hd).valK.pure; exact ⟨this.1, by omega⟩, fun x hx y hy => (h x hx).valK.alike (h y hy).valK, ?_⟩
  by_cases h0 : κ = "text"
  · refine .inr (.inl ⟨fun d hd => ?_, hl⟩)
    have := h d hd
    unfold vlG at this
    rw [if_pos h0] at this
    obtain ⟨z, rfl, _⟩ := this
    exact ⟨z, rfl⟩
  by_cases h1 : κ = "mail"
  · refine .inr (.inr ⟨fun d hd => ?_, ht (.inl h1)⟩)
    have := h d hd
    unfold vlG at this
    rw [if_neg h0, if_pos h1] at this
    obtain ⟨i, n, rfl, _⟩ := this
    exact ⟨_, rfl⟩
  by_cases h2 : κ = "alias" ∨ κ = "server"
  · refine .inr (.inr ⟨fun d hd => ?_, ht (by rcases h2 with h2 | h2 <;> simp [h2])⟩)
    have := h d hd
    unfold vlG at this
    rw [if_neg h0, if_neg h1, if_pos h2] at this
    obtain ⟨zs, rfl, _⟩ := this
    exact ⟨_, rfl⟩
  by_cases h3 : κ = "start"
  · refine .inr (.inr ⟨fun d hd => ?_, ht (by simp [h3])⟩)
    have := h d hd
    unfold vlG at this
    rw [if_neg h0, if_neg h1, if_neg h2, if_pos h3] at this
    obtain ⟨i, j, rfl, _⟩ := this
    exact ⟨_, rfl⟩
  by_cases h4 : κ = "gap"
  · refine .inr (.inr ⟨fun d hd => ?_, ht (by simp [h4])⟩)
    have := h d hd
    unfold vlG at this
    rw [if_neg h0, if_neg h1, if_neg h2, if_neg h3, if_pos h4] at this
    obtain ⟨n, b, rfl, _⟩ := this
    exact ⟨_, rfl⟩
  · refine .inl ⟨fun d hd => ?_, hl⟩
    have := h d hd
    unfold vlG at this
    rw [if_neg h0, if_neg h1, if_neg h2, if_neg h3, if_neg h4] at this
    obtain ⟨i, rfl, _⟩ := this
    exact ⟨_, rfl⟩
theorem r_sortSet1 {H : Hp} {Q : VK} {l : Addr} {xs : List V} {ds : List PyData} (hl : SqL K H l xs ∨ SqT K H l xs) (hd : DpAll K H xs ds) (ok : SetOk ds)
    (q : ∀ (es : List PyData) (ys : List V) (p : Addr) (H2 : Hp), AscD es → (∀ d, d ∈ es ↔ d ∈ ds) → DpAll K H2 ys es → H p = none → Same H H2 → H2 p = some (.lst ys) → Q (.ref p) H2) : rSortSet K (.ref l) H Q :=
  ⟨l, xs, ds, rfl, hl, hd, ok, fun es ys p nd m hy hp => q _ ys p _ (sort_set ok nd m).1 (sort_set ok nd m).2 (dpAll_ex (ex_new hp) _ _ hy) hp (ex_new hp) upd_same⟩

theorem nodup_len : ∀ {xs ys : List PyData}, xs.Nodup → (∀ x ∈ xs, x ∈ ys) → xs.length ≤ ys.length
  | [], _, _, _ => Nat.zero_le _
  | x :: xs, ys, nd, h => by
    obtain ⟨s, t, rfl⟩ := List.append_of_mem (h x List.mem_cons_self)
    obtain ⟨nx, nd⟩ := List.nodup_cons.mp nd
    have := nodup_len (xs := xs) (ys := s ++ t) nd fun y hy => by
      rcases List.mem_append.mp (h y (List.mem_cons_of_mem _ hy)) with z | z
      · exact List.mem_append_left _ z
      · rcases List.mem_cons.mp z with rfl | z
        · exact absurd hy nx
        · exact List.mem_append_right _ z
    simp only [List.length_append, List.length_cons] at this ⊢
    omega
theorem sl_big : 1010000 ≤ sizeLine := by decide
theorem r_msgB {σ : L2.St} {H : Hp} {Q : VK} {s : Str} {i : Int} {j : Nat} (hv : σ[j]? = some (some (.int i))) (h1 : s.length ≤ 1000) (hi : i.natAbs < 10 ^ 100) (q : ∀ out, Q (.str out) H) : tJoined [tC (.str s), tFmt (tVar j)] σ H Q := by
  have hl := (fit_int hi).1
  have hs := sl_big
  refine ⟨s, rfl, ?_, .int i, hv, .inr ⟨i, rfl, (fit_int hi).2, _, rfl, ?_, q _⟩⟩
  · rw [len_app]
    show 0 + s.length ≤ sizeLine
    omega
  · rw [len_app, len_app]
    show 0 + s.length + _ ≤ sizeLine
    omega
theorem r_msgFD {σ : L2.St} {H : Hp} {Q : VK} {s1 s2 κ : Str} {v : V} {d : PyData} {i j : Nat} (hκ : σ[i]? = some (some (.str κ))) (hv : σ[j]? = some (some v)) (h1 : s1.length ≤ 1000) (h2 : κ.length ≤ 1000) (h3 : s2.length ≤ 1000) (hd : Dp K H v d) (hf : FitD d) (hk : d.depth ≤ 2) (q : ∀ out, Q (.str out) H) : tJoined [tC (.str s1), tFmt (tVar i), tC (.str s2), tFmtD K (tVar j)] σ H Q := by
  have hs := sl_big
  refine ⟨s1, rfl, ?_, .str κ, hκ, .inl ⟨κ, rfl, by omega, κ, rfl, ?_, s2, rfl, ?_, v, hv, d, hd, hf, hk, fun m hm => ⟨m, rfl, ?_, q _⟩⟩⟩
  · rw [len_app]
    show 0 + s1.length ≤ sizeLine
    omega
  · rw [len_app, len_app]
    show 0 + s1.length + κ.length ≤ sizeLine
    omega
  · rw [len_app, len_app, len_app]
    show 0 + s1.length + κ.length + s2.length ≤ sizeLine
    omega
  · rw [len_app, len_app, len_app, len_app]
    show 0 + s1.length + κ.length + s2.length + m.length ≤ sizeLine
    omega
theorem r_msgN {σ : L2.St} {H : Hp} {Q : VK} {s1 s2 s3 κ : Str} {te : TE} {n : Int} {i : Nat} (hκ : σ[i]? = some (some (.str κ))) (hte : ∀ R : VK, R (.int n) H → te σ H R) (h1 : s1.length ≤ 1000) (h2 : κ.length ≤ 1000) (h3 : s2.length ≤ 1000) (h4 : s3.length ≤ 1000) (hi : n.natAbs < 10 ^ 100) (q : ∀ out, Q (.str out) H) : tJoined [tC (.str s1), tFmt (tVar i), tC (.str s2), tFmt te, tC (.str s3)] σ H Q := by
  have hl := (fit_int hi).1
  have hs := sl_big
  refine ⟨s1, rfl, ?_, .str κ, hκ, .inl ⟨κ, rfl, by omega, κ, rfl, ?_, s2, rfl, ?_, hte _ (.inr ⟨n, rfl, (fit_int hi).2, _, rfl, ?_, s3, rfl, ?_, q _⟩)⟩⟩
  · rw [len_app]
    show 0 + s1.length ≤ sizeLine
    omega
  · rw [len_app, len_app]
    show 0 + s1.length + κ.length ≤ sizeLine
    omega
  · rw [len_app, len_app, len_app]
    show 0 + s1.length + κ.length + s2.length ≤ sizeLine
    omega
  · rw [len_app, len_app, len_app, len_app]
    show 0 + s1.length + κ.length + s2.length + _ ≤ sizeLine
    omega
  · rw [len_app, len_app, len_app, len_app, len_app]
    show 0 + s1.length + κ.length + s2.length + _ + s3.length ≤ sizeLine
    omega
theorem notKN {κ : Str} (h : κ ∉ KN) : inV (V.str κ) (KN.map V.str) = false := by
  simp only [KN, List.mem_cons, List.not_mem_nil, or_false, not_or] at h
  obtain ⟨a1, a2, a3, a4, a5, a6, a7, a8, a9⟩ := h
  show ((("address" : Str) == κ) || ((("text" : Str) == κ) || ((("mail" : Str) == κ) || ((("alias" : Str) == κ) || ((("server" : Str) == κ) || ((("start" : Str) == κ) || ((("key" : Str) == κ) || ((("link" : Str) == κ) || ((("gap" : Str) == κ) || false))))))))) = false
  rw [beq_eq_false_iff_ne.mpr (Ne.symm a1), beq_eq_false_iff_ne.mpr (Ne.symm a2), beq_eq_false_iff_ne.mpr (Ne.symm a3), beq_eq_false_iff_ne.mpr (Ne.symm a4), beq_eq_false_iff_ne.mpr (Ne.symm a5), beq_eq_false_iff_ne.mpr (Ne.symm a6), beq_eq_false_iff_ne.mpr (Ne.symm a7), beq_eq_false_iff_ne.mpr (Ne.symm a8), beq_eq_false_iff_ne.mpr (Ne.symm a9)]
  rfl
theorem ok_make_set (T : Txt K mg) : FnX P w K mg base 5 "make_set" ["name", "kind", "ttl", "values"] (fun vs H Q E => ∃ (a l : Addr) (zs : List Str) (κ : Str) (t : Int) (xs : List V) (ds : List PyData), vs = [.ref a, .str κ, .int t, .ref l] ∧ SqT K H a (zs.map V.str) ∧ (∀ z ∈ zs, z.length ≤ 2000 ∧ Asc z) ∧ κ.length ≤ 200 ∧ t.natAbs < 10 ^ 100 ∧
    SqL K H l xs ∧ DpAll K H xs ds ∧ (κ ∈ KN → ∀ d ∈ ds, (∃ b, VlR κ d b) ∧ FitD d ∧ d.depth ≤ 2) ∧ (κ ∈ KN → (∀ d ∈ ds, VlR κ d true) → SetOk ds) ∧
    (nameB zs = false → ∀ H', Same H H' → E (.ref T.a_BadName) none H') ∧
    (nameB zs = true → (κ ∉ KN ∨ WdB t = false ∨ (κ ∈ KN ∧ ∃ d ∈ ds, VlR κ d false) ∨ (κ ∈ KN ∧ ∃ es, AscD es ∧ (∀ d, d ∈ es ↔ d ∈ ds) ∧ cntB κ es.length = false)) → ∀ H', Same H H' → E (.ref T.a_BadRecord) none H') ∧
    (nameB zs = true → κ ∈ KN → WdB t = true → (∀ d ∈ ds, VlR κ d true) → ∀ es, AscD es → (∀ d, d ∈ es ↔ d ∈ ds) → cntB κ es.length = true → ∀ H' p q, Same H H' → H' p = some (.tup [.ref a, .str κ, .int t, .ref q]) → PT K H' q es → Q (.ref p) H')) := by
  refine T.d_make_set.okX sc_make_set (by rintro vs H Q E ⟨_, _, _, _, _, _, _, rfl, _⟩; rfl) (fun f cdv A outer s H vs Q E hr h => ?_)
  obtain ⟨a, l, zs, κ, t, xs, ds, rfl, ha, hz, hκl, ht, hl, hd, hv, hset, kN, kR, kY⟩ := h
  refine ⟨_, (pss_cons (ps_if (pt_not (pt_val (pe_fn (ok_is_name T) (hr.mono (by decide)) (by rfl) (pa_cons (pv 0) pa_nil))))
  (pss_one (ps_rai rfl (takes_of rfl rfl rfl rfl) T.q_BadName T.g_BadName T.k_BadName T.b_BadName T.t_BadName rfl (pa_cons pe_str pa_nil)))
  pss_nil)
  (pss_cons (ps_if (pt_cmpR op_notIn_seq (pv 1) (pe_gk T.c_KINDS rfl) (by first | rfl | with_unfolding_all rfl))
  (pss_one (ps_rai rfl (takes_of rfl rfl rfl rfl) T.q_BadRecord T.g_BadRecord T.k_BadRecord T.b_BadRecord T.t_BadRecord rfl (pa_cons (pe_joi2 (.cons pe_str (.cons (pe_fmt (pv 1)) .nil))) pa_nil)))
  pss_nil)
  (pss_cons (ps_if (pt_not (pt_val (pe_fn (ok_is_word T) (hr.mono (by decide)) (by rfl) (pa_cons (pv 2) pa_nil))))
  (pss_one (ps_rai rfl (takes_of rfl rfl rfl rfl) T.q_BadRecord T.g_BadRecord T.k_BadRecord T.b_BadRecord T.t_BadRecord rfl (pa_cons (pe_joi2 (.cons pe_str (.cons (pe_fmt (pv 2)) .nil))) pa_nil)))
  pss_nil)
  (pss_cons (ps_for (passes_of rfl) rfl (pi_list (pv 3)) (pg_name (i := 4) sc_make_set.nd rfl (.inl rfl))
  (pss_one (ps_if (pt_not (pt_val (pe_fn (ok_is_value T) hr (by rfl) (pa_cons (pv 1) (pa_cons (pv 4) pa_nil)))))
  (pss_one (ps_rai rfl (takes_of rfl rfl rfl rfl) T.q_BadRecord T.g_BadRecord T.k_BadRecord T.b_BadRecord T.t_BadRecord rfl (pa_cons (pe_joi2 (.cons pe_str (.cons (pe_fmt (pv 1)) (.cons pe_str (.cons (pe_fmtD hr.units (pv 4)) .nil))))) pa_nil)))
  pss_nil)))
  (pss_cons (ps_set (i := 5) sc_make_set.nd rfl (by first | exact .inl rfl | exact .inr rfl) (pe_callTy cTupOf (by rfl) T.m_tuple (by decide +kernel) (pa_cons (pe_sortSet rfl hr.units (by rfl) T.m_sorted (by rfl) T.m_set (pv 3)) pa_nil)))
  (pss_cons (ps_if (pt_not (pt_val (pe_fn (ok_is_allowed_count T) (hr.mono (by decide)) (by rfl) (pa_cons (pv 1) (pa_cons (pe_callB cLenQ (by rfl) T.m_len PySem.boot_len (pa_cons (pv 5) pa_nil)) pa_nil)))))
  (pss_one (ps_rai rfl (takes_of rfl rfl rfl rfl) T.q_BadRecord T.g_BadRecord T.k_BadRecord T.b_BadRecord T.t_BadRecord rfl (pa_cons (pe_joi2 (.cons pe_str (.cons (pe_fmt (pv 1)) (.cons pe_str (.cons (pe_fmt (pe_callB cLenQ (by rfl) T.m_len PySem.boot_len (pa_cons (pv 5) pa_nil))) (.cons pe_str .nil)))))) pa_nil)))
  pss_nil)
  (pss_one (ps_ret (pe_tup (pa_cons (pv 0) (pa_cons (pv 1) (pa_cons (pv 2) (pa_cons (pv 5) pa_nil))))))))))))), ?_⟩
  have hlen := dpAll_len hd
  walk_at "en"
  refine ⟨a, zs, rfl, ha, hz, fun H1 e1 => ?_⟩
  cases hn : nameB zs with
  | false =>
    walk_at "rd"
    exact ⟨by decide, kN hn H1 e1⟩
  | true =>
    have kR := kR hn
    have kY := kY hn
    walk_at "rd"
    refine r_kt fun b hb _ => ?_
    refine r_notInF (.inr hb) rfl rfl ?_
    by_cases hκ : κ ∈ KN
    · have e9 : inV (V.str κ) [V.str "address", V.str "text", V.str "mail", V.str "alias", V.str "server", V.str "start", V.str "key", V.str "link", V.str "gap"] = true := inKN κ hκ
      rw [e9]
      walk_at "rd"
      refine ⟨t, rfl, ?_⟩
      cases hw : WdB t with
      | false =>
        walk_at "rd"
        refine r_msgB (i := t) (by rfl) (by decide +kernel) ht fun out => ?_
        walk_at "rd"
        exact ⟨(show 1 ≤ sizeLine by decide), kR (.inr (.inl hw)) H1 e1⟩
      | true =>
        walk_at "rd"
        refine loopL (xs := xs) (fun i σ' H' => (∃ v4, σ' = [some (.ref a), some (.str κ), some (.int t), some (.ref l), v4, none]) ∧ Same H H' ∧ ∀ d ∈ ds.take i, VlR κ d true) ⟨⟨_, rfl⟩, e1, by simp⟩ (fun i σ' H' _ h => ex_l h.2.1 hl) ?_ ?_
        · rintro i x σ' H' hi ⟨⟨v4, rfl⟩, e, hall⟩
          obtain ⟨d, hdi, hdx⟩ := dpAll_mem hd hi
          have hdm := List.mem_of_getElem? hdi
          obtain ⟨⟨b, hb⟩, hf, hdep⟩ := hv hκ d hdm
          have hx2 := dp_ex e _ _ hdx
          walk_at "rd"
          refine ⟨κ, x, d, b, rfl, hx2, hb, fun H2 e2 => ?_⟩
          cases b with
          | true =>
            walk_at "rd"
            exact ⟨⟨_, rfl⟩, e.trans e2, take_mem hdi hall hb⟩
          | false =>
            walk_at "rd"
            refine r_msgFD (v := x) (by rfl) (by rfl) (by decide +kernel) (by omega) (by decide +kernel) (dp_ex e2 _ _ hx2) hf hdep fun out => ?_
            walk_at "rd"
            exact ⟨(show 1 ≤ sizeLine by decide), kR (.inr (.inr (.inl ⟨hκ, d, hdm, hb⟩))) H2 (e.trans e2)⟩
        rintro σ' H' ⟨⟨v4, rfl⟩, e, hall⟩
        have hall : ∀ d ∈ ds, VlR κ d true := fun d hd2 => hall d (by rw [List.take_of_length_le (by omega)]; exact hd2)
        walk_at "rd"
        refine r_sortSet1 (.inl (ex_l e hl)) (dpAll_ex e _ _ hd) (hset hκ hall) fun es ys p H2 hasc hmem hys np e2 hp => ?_
        walk_at "rd"
        refine r_tupOf (SqL.of hp) fun q H3 n3 e3 hq => ?_
        have hq' : PT K H3 q es := ⟨ys, SqT.of hq, dpAll_ex e3 _ _ hys⟩
        have hyl := dpAll_len hys
        walk_at "rd"
        refine ⟨κ, _, rfl, ?_⟩
        rw [hyl]
        have e03 := (e.trans e2).trans e3
        cases hc : cntB κ es.length with
        | true =>
          walk_at "rd"
          intro r H4 n4 e4 hr4
          exact kY hκ hw hall es hasc hmem hc H4 r q (e03.trans e4) hr4 (hq'.ex e4)
        | false =>
          walk_at "rd"
          refine r_msgN (n := (es.length : Nat)) (by rfl) (fun R h => ?_) (by decide +kernel) (by omega) (by decide +kernel) (by decide +kernel) ?_ fun out => ?_
          · walk_at "rd"
            rw [hyl]
            exact h
          · have h1 := nodup_len hasc.nodup fun x hx => (hmem x).mp hx
            have h2 := (hset hκ hall).len
            rw [Int.natAbs_natCast]
            exact Nat.lt_of_le_of_lt (Nat.le_trans h1 h2) (by decide +kernel)
          · walk_at "rd"
            exact ⟨(show 1 ≤ sizeLine by decide), kR (.inr (.inr (.inr ⟨hκ, es, hasc, hmem, hc⟩))) H3 e03⟩
    · have e9 : inV (V.str κ) [V.str "address", V.str "text", V.str "mail", V.str "alias", V.str "server", V.str "start", V.str "key", V.str "link", V.str "gap"] = false := notKN hκ
      rw [e9]
      walk_at "rd"
      refine r_msgV (z := κ) (by rfl) (by decide +kernel) (by omega) fun out => ?_
      walk_at "rd"
      exact ⟨(show 1 ≤ sizeLine by decide), kR (.inl hκ) H1 e1⟩

theorem ok__law_draw (T : Txt K mg) : Fn P w K mg base 1 "_law_draw" ["source", "many"] spDraw := by
  refine T.d__law_draw.ok sc__law_draw (by rintro vs H Q E ⟨_, _, rfl, _⟩; rfl) (fun f cdv A outer s H vs Q E hr h => ?_)
  obtain ⟨a, m, rfl, ⟨x, y, z, hS, hy⟩, h0, h1, k⟩ := h
  refine ⟨_, (pss_cons (ps_if (pt_cmpR op_eq (pe_ix ix_list (pv 0) pe_int (fun _ _ => rfl)) pe_int (nomark _))
  (pss_cons (ps_set (i := 2) sc__law_draw.nd rfl (by first | exact .inl rfl | exact .inr rfl) (pe_op op_mod (pe_callTy cInt (by rfl) T.m_int (by decide +kernel) (pa_cons (pe_ix ix_list (pv 0) pe_int (fun _ _ => rfl)) pa_nil)) (pv 1)))
  (pss_cons (ps_asg (pe_op op_fdiv (pe_ix ix_list (pv 0) pe_int (fun _ _ => rfl)) (pv 1)) (pg_sub (pv 0) pe_int set_list))
  (pss_one (ps_ret (pv 2)))))
  pss_nil)
  (pss_cons (ps_asg (pe_op op_mod (pe_callTy cInt (by rfl) T.m_int (by decide +kernel) (pa_cons (pe_op op_add (pe_op op_mul (pe_ix ix_list (pv 0) pe_int (fun _ _ => rfl)) pe_int) pe_int) pa_nil)) pe_int) (pg_sub (pv 0) pe_int set_list))
  (pss_cons (ps_asg (pe_op op_mod (pe_callTy cInt (by rfl) T.m_int (by decide +kernel) (pa_cons (pe_op op_add (pe_op op_add (pe_op op_mul (pe_ix ix_list (pv 0) pe_int (fun _ _ => rfl)) pe_int) (pe_ix ix_list (pv 0) pe_int (fun _ _ => rfl))) pe_int) pa_nil)) pe_int) (pg_sub (pv 0) pe_int set_list))
  (pss_one (ps_ret (pe_op op_mod (pe_callTy cInt (by rfl) T.m_int (by decide +kernel) (pa_cons (pe_ix ix_list (pv 0) pe_int (fun _ _ => rfl)) pa_nil)) (pv 1))))))), ?_⟩
  walk_at "en"
  walk_at "sp" <;> intro hy0
  · walk_at "rd"
    refine r_setL hS rfl fun H1 b1 e1 => ?_
    walk_at "rd"
    exact k _ _ b1 ⟨_, _, _, e1, .inl hy0⟩ (Int.emod_nonneg _ (by omega)) (Int.emod_lt_of_pos _ h0)
  · have hy := hy.resolve_left hy0
    walk_at "rd"
    refine r_setL hS rfl fun H1 b1 e1 => ?_
    have e1 : H1 a = some (.lst [.int ((x * 48271 + 69621) % 2147483647), .int y, .int z]) := e1
    have hx0 := Int.emod_nonneg (x * 48271 + 69621) (show (2147483647 : Int) ≠ 0 by decide)
    have hx1 := Int.emod_lt_of_pos (x * 48271 + 69621) (show (0 : Int) < 2147483647 by decide)
    walk_at "rd"
    refine r_setL e1 rfl fun H2 b2 e2 => ?_
    walk_at "rd"
    refine k _ _ (b1.trans b2) ⟨_, _, _, e2, .inr ⟨hx0, by omega, Int.emod_nonneg _ (by decide), ?_⟩⟩ (Int.emod_nonneg _ (by omega)) (Int.emod_lt_of_pos _ h0)
    exact Int.lt_trans (Int.emod_lt_of_pos _ (by decide)) (by decide)
theorem ok__law_source (T : Txt K mg) : Fn P w K mg base 1 "_law_source" ["cell"] spSource := by
  refine T.d__law_source.ok sc__law_source (by rintro vs H Q E ⟨_, rfl, _⟩; rfl) (fun f cdv A outer s H vs Q E hr h => ?_)
  obtain ⟨n, rfl, k⟩ := h
  refine ⟨_, (pss_cons (ps_if (pt_cmpR op_ge (pv 0) (pe_op oPow18 pe_int pe_int) (nomark _))
  (pss_one (ps_ret (pe_lst (pa_cons (pe_op op_sub (pv 0) (pe_op oPow18 pe_int pe_int)) (pa_cons pe_int (pa_cons pe_int pa_nil))))))
  pss_nil)
  (pss_one (ps_ret (pe_lst (pa_cons (pe_op op_mod (pe_callTy cInt (by rfl) T.m_int (by decide +kernel) (pa_cons (pv 0) pa_nil)) pe_int) (pa_cons pe_int (pa_cons pe_int pa_nil))))))), ?_⟩
  walk_at "en"
  walk_at "sp" <;> intro hn
  · walk_at "rd"
    intro p H1 n1 e1 hp
    exact k _ _ e1 n1 ⟨_, _, _, hp, .inl rfl⟩
  · walk_at "rd"
    intro p H1 n1 e1 hp
    exact k _ _ e1 n1 ⟨_, _, _, hp, .inr ⟨Int.emod_nonneg _ (by decide), Int.lt_trans (Int.emod_lt_of_pos _ (by decide)) (by decide), by decide, by decide⟩⟩
theorem ok__law_cell (T : Txt K mg) : Fn P w K mg base 1 "_law_cell" ["script", "k"] (spCell K) := by
  refine T.d__law_cell.ok sc__law_cell (by rintro vs H Q E ⟨_, _, _, rfl, _⟩; rfl) (fun f cdv A outer s H vs Q E hr h => ?_)
  obtain ⟨l, ns, n, rfl, hL, hlen, h0, h1, k⟩ := h
  refine ⟨_, (pss_cons (ps_if (pt_cmpR op_lt (pv 1) (pe_callB cLenQ (by rfl) T.m_len PySem.boot_len (pa_cons (pv 0) pa_nil)) (nomark _))
  (pss_one (ps_ret (pe_callTy cInt (by rfl) T.m_int (by decide +kernel) (pa_cons (pe_ix ix_list (pv 0) (pv 1) (fun _ _ => rfl)) pa_nil))))
  pss_nil)
  (pss_cons (ps_set (i := 2) sc__law_cell.nd rfl (by first | exact .inl rfl | exact .inr rfl) (pe_op op_add (pe_op op_mul pe_int (pv 1)) pe_int))
  (pss_cons (ps_for PassesOwn.never rfl (pi_list (pv 0)) (pg_name (i := 3) sc__law_cell.nd rfl (.inl rfl))
  (pss_one (ps_set (i := 2) sc__law_cell.nd rfl (by first | exact .inl rfl | exact .inr rfl) (pe_op op_mod (pe_callTy cInt (by rfl) T.m_int (by decide +kernel) (pa_cons (pe_op op_add (pe_op op_mul (pv 2) pe_int) (pv 3)) pa_nil)) pe_int))))
  (pss_one (ps_ret (pv 2)))))), ?_⟩
  walk_at "en"
  walk_at "sp" <;> intro hn
  · walk_at "rd"
    obtain ⟨v, hv, ha, _⟩ := atI_in (xs := ns.map V.int) h0 hn
    obtain ⟨c, _, rfl⟩ := List.mem_map.mp hv
    refine r_ixL hL ha ?_
    walk_at "rd"
    exact k c
  · walk_at "rd"
    refine loopL (xs := ns.map V.int) (fun i σ' H' => (∃ t v, σ' = [some (.ref l), some (.int n), some (.int t), v] ∧ 0 ≤ t ∧ t ≤ 2147483629) ∧ H' = H) ⟨⟨_, _, rfl, by omega, by omega⟩, rfl⟩ (by rintro i σ' H' _ ⟨_, rfl⟩; exact hL) ?_ ?_
    · rintro i x σ' H' hi ⟨⟨t, v, rfl, ht0, ht1⟩, rfl⟩
      obtain ⟨c, _, rfl⟩ := List.mem_map.mp (List.mem_of_getElem? hi)
      walk_at "rd"
      exact ⟨⟨_, _, rfl, Int.emod_nonneg _ (by decide), Int.le_of_lt (Int.emod_lt_of_pos _ (by decide))⟩, rfl⟩
    · rintro σ' H' ⟨⟨t, v, rfl, ht0, ht1⟩, rfl⟩
      walk_at "rd"
      exact k t

def LabP (v : V) : Prop := ∃ z : Str, v = .str z ∧ plainB z = true
theorem ok__law_label (T : Txt K mg) : Fn P w K mg base 2 "_law_label" ["source"] (spDrawn fun _ v => LabP v) := by
  refine T.d__law_label.ok sc__law_label (by rintro vs H Q E ⟨_, rfl, _⟩; rfl) (fun f cdv A outer s H vs Q E hr h => ?_)
  obtain ⟨a, rfl, hS, k⟩ := h
  refine ⟨_, (pss_cons (ps_set (i := 1) sc__law_label.nd rfl (by first | exact .inl rfl | exact .inr rfl) pe_str)
  (pss_cons (ps_set (i := 2) sc__law_label.nd rfl (by first | exact .inl rfl | exact .inr rfl) (pe_fn (ok__law_draw T) hr (by rfl) (pa_cons (pv 0) (pa_cons pe_int pa_nil))))
  (pss_cons (ps_if (pt_cmpR op_eq (pv 2) pe_int (nomark _))
  (pss_cons (ps_set (i := 3) sc__law_label.nd rfl (by first | exact .inl rfl | exact .inr rfl) pe_str)
  (pss_cons (ps_for PassesOwn.never rfl (pi_range1 rfl T.m_range (pa_cons (pe_op op_add pe_int (pe_fn (ok__law_draw T) hr (by rfl) (pa_cons (pv 0) (pa_cons pe_int pa_nil)))) pa_nil)) (pg_name (i := 4) sc__law_label.nd rfl (.inl rfl))
  (pss_one (ps_set (i := 3) sc__law_label.nd rfl (by first | exact .inl rfl | exact .inr rfl) (pe_op oAddS (pv 3) (pe_ix ix_str (pv 1) (pe_fn (ok__law_draw T) hr (by rfl) (pa_cons (pv 0) (pa_cons pe_int pa_nil))) (fun _ _ => rfl))))))
  (pss_one (ps_ret (pv 3)))))
  pss_nil)
  (pss_cons (ps_if (pt_cmpR op_eq (pv 2) pe_int (nomark _))
  (pss_one (ps_ret (pe_op oAddS (pe_op oMulS pe_str (pe_fn (ok__law_draw T) hr (by rfl) (pa_cons (pv 0) (pa_cons pe_int pa_nil)))) (pe_ix ix_str (pv 1) (pe_fn (ok__law_draw T) hr (by rfl) (pa_cons (pv 0) (pa_cons pe_int pa_nil))) (fun _ _ => rfl)))))
  pss_nil)
  (pss_cons (ps_set (i := 5) sc__law_label.nd rfl (by first | exact .inl rfl | exact .inr rfl) (pe_lst (pa_cons pe_str (pa_cons pe_str (pa_cons pe_str (pa_cons pe_str (pa_cons pe_str (pa_cons pe_str (pa_cons pe_str (pa_cons pe_str (pa_cons pe_str (pa_cons pe_str (pa_cons pe_str (pa_cons pe_str pa_nil))))))))))))))
  (pss_one (ps_ret (pe_ix ix_list (pv 5) (pe_fn (ok__law_draw T) hr (by rfl) (pa_cons (pv 0) (pa_cons pe_int pa_nil))) (fun _ _ => rfl))))))))), ?_⟩
  have e37 : ((CH.cps.toList.length : Nat) : Int) = 37 := by decide +kernel
  walk_at "en"
  refine r_draw hS (by decide) (by decide) fun H1 d b1 s1 d0 d1 => ?_
  walk_at "rd"
  walk_at "sp" <;> intro hd
  · walk_at "rd"
    refine r_draw s1 (by decide) (by decide) fun H2 n b2 s2 n0 n1 => ?_
    walk_at "rd"
    refine loopR (fun i σ' H' => ∃ (z : Str) (v : Option V), σ' = [some (.ref a), some (.str CH), some (.int d), some (.str z), v, none] ∧ z.length = i ∧ (∀ c ∈ z.cps.toList, c ∈ CH.cps.toList) ∧ But a H H' ∧ Src H' a) ⟨_, _, rfl, by decide +kernel, by decide +kernel, b1.trans b2, s2⟩ ?_ ?_
    · rintro i σ' H' hi ⟨z, v, rfl, hz, hA, b3, s3⟩
      walk_at "rd"
      refine r_draw s3 (by decide) (by decide) fun H3 d3 b4 s4 d30 d31 => ?_
      obtain ⟨c, hc, ha, _⟩ := atI_in (xs := CH.cps.toList) d30 (by rw [e37]; exact d31)
      refine r_ixS (by decide +kernel) ha ?_
      refine r_addS (by rw [hz, len_one]; omega) ?_
      walk_at "rd"
      refine ⟨_, _, rfl, by rw [len_app, len_one, hz], ?_, b3.trans b4, s4⟩
      intro x hx
      rw [cps_app] at hx
      rcases List.mem_append.mp hx with hx | hx
      · exact hA x hx
      · rw [show x = c by simpa using hx]; exact hc
    · rintro σ' H' ⟨z, v, rfl, hz, hA, b3, s3⟩
      walk_at "rd"
      exact k _ _ b3 s3 ⟨z, rfl, plain_iff.mpr ⟨by omega, hA⟩⟩
  · walk_at "rd"
    walk_at "sp" <;> intro hd2
    · walk_at "rd"
      refine r_draw s1 (by decide) (by decide) fun H2 n b2 s2 n0 n1 => ?_
      refine r_mulS (by decide +kernel) ⟨n0, by omega⟩ fun y hy1 hy2 => ?_
      walk_at "rd"
      refine r_draw s2 (by decide) (by decide) fun H3 d3 b3 s3 d30 d31 => ?_
      obtain ⟨c, hc, ha, _⟩ := atI_in (xs := CH.cps.toList) d30 (by rw [e37]; exact d31)
      have ea : ("a" : Str).length = 1 := by decide +kernel
      rw [ea] at hy1
      refine r_ixS (by decide +kernel) ha ?_
      refine r_addS (by rw [len_one]; omega) ?_
      refine k _ _ ((b1.trans b2).trans b3) s3 ⟨_, rfl, plain_iff.mpr ⟨by rw [len_app, len_one]; omega, ?_⟩⟩
      intro x hx
      rw [cps_app] at hx
      rcases List.mem_append.mp hx with hx | hx
      · have h97 : ∀ c ∈ ("a" : Str).cps.toList, c ∈ CH.cps.toList := by decide +kernel
        exact h97 x (hy2 x hx)
      · rw [show x = c by simpa using hx]; exact hc
    · walk_at "rd"
      intro p H2 n2 e2 hp
      walk_at "rd"
      refine r_draw (s1.ex e2) (by decide) (by decide) fun H3 d3 b3 s3 d30 d31 => ?_
      obtain ⟨v, hv, ha, _⟩ := atI_in (xs := ["a", "b", "ab", "ba", "aa", "-", "0", "a-", "z", "zzzzzzzzzzzzzzzzzzzz", "9", "tree"].map fun s : String => V.str s) d30 d31
      have hpa : p ≠ a := by
        rintro rfl
        obtain ⟨xs, h⟩ := s1.lst
        rw [n2] at h; cases h
      refine r_ixL (SqL.of (b3 _ _ hpa hp)) ha ?_
      refine k _ _ ((b1.same' e2).trans b3) s3 ?_
      have key : ∀ s ∈ ["a", "b", "ab", "ba", "aa", "-", "0", "a-", "z", "zzzzzzzzzzzzzzzzzzzz", "9", "tree"], plainB (s : Str) = true := by decide +kernel
      obtain ⟨s, hs, rfl⟩ := List.mem_map.mp hv
      exact ⟨_, rfl, key s hs⟩
def NameV (K : PySem.W.Frag) (H : Hp) (v : V) : Prop := ∃ (p : Addr) (zs : List Str), v = .ref p ∧ SqT K H p (zs.map V.str) ∧ nameB zs = true
theorem ok__law_name (T : Txt K mg) : Fn P w K mg base 3 "_law_name" ["source"] (spDrawn (NameV K)) := by
  refine T.d__law_name.ok sc__law_name (by rintro vs H Q E ⟨_, rfl, _⟩; rfl) (fun f cdv A outer s H vs Q E hr h => ?_)
  obtain ⟨a, rfl, hS, k⟩ := h
  refine ⟨_, (pss_cons (ps_set (i := 1) sc__law_name.nd rfl (by first | exact .inl rfl | exact .inr rfl) (pe_fn (ok__law_draw T) (hr.mono (by decide)) (by rfl) (pa_cons (pv 0) (pa_cons pe_int pa_nil))))
  (pss_cons (ps_set (i := 2) sc__law_name.nd rfl (by first | exact .inl rfl | exact .inr rfl) (pe_fn (ok__law_draw T) (hr.mono (by decide)) (by rfl) (pa_cons (pv 0) (pa_cons pe_int pa_nil))))
  (pss_cut (ps_if (pt_cmpR op_eq (pv 2) pe_int (nomark _))
  (pss_one (ps_set (i := 1) sc__law_name.nd rfl (by first | exact .inl rfl | exact .inr rfl) (pe_op op_add pe_int (pe_op op_mod (pe_callTy cInt (by rfl) T.m_int (by decide +kernel) (pa_cons (pv 1) pa_nil)) pe_int))))
  pss_nil)
  (pss_cut (ps_if (pt_cmpR op_gt (pv 2) pe_int (nomark _))
  (pss_one (ps_set (i := 1) sc__law_name.nd rfl (by first | exact .inl rfl | exact .inr rfl) (pe_op op_mod (pe_callTy cInt (by rfl) T.m_int (by decide +kernel) (pa_cons (pv 1) pa_nil)) pe_int)))
  pss_nil)
  (pss_cons (ps_set (i := 3) sc__law_name.nd rfl (by first | exact .inl rfl | exact .inr rfl) (pe_lst pa_nil))
  (pss_cons (ps_for PassesOwn.never rfl (pi_range1 rfl T.m_range (pa_cons (pv 1) pa_nil)) (pg_name (i := 4) sc__law_name.nd rfl (.inl rfl))
  (pss_one (ps_expr (pe_bm PySem.F.plainAttrs_list PySem.F.slot_list_append PySem.F.type_list_append mt_append (pv 3) (pa_cons (pe_fn (ok__law_label T) hr (by rfl) (pa_cons (pv 0) pa_nil)) pa_nil)))))
  (pss_cut (ps_if (PW.pt (pw_and (pt_cmpR op_gt (pv 1) pe_int (nomark _)) (pw_and1 (pt_cmpR op_eq (pe_fn (ok__law_draw T) (hr.mono (by decide)) (by rfl) (pa_cons (pv 0) (pa_cons pe_int pa_nil))) pe_int (nomark _)))))
  (pss_one (ps_asg pe_str (pg_sub (pv 3) (pe_op op_sub (pv 1) pe_int) set_list)))
  pss_nil)
  (pss_one (ps_ret (pe_callTy cTupOf (by rfl) T.m_tuple (by decide +kernel) (pa_cons (pv 3) pa_nil))))))))))), ?_⟩
  walk_at "en"
  refine r_draw hS (by decide) (by decide) fun H1 d b1 s1 d0 d1 => ?_
  walk_at "rd"
  refine r_draw s1 (by decide) (by decide) fun H2 d2 b2 s2 d20 d21 => ?_
  walk_at "rd"
  refine r_cut (fun σ' H' => H' = H2 ∧ ∃ n : Int, 0 ≤ n ∧ n ≤ 12 ∧ σ' = [some (.ref a), some (.int n), some (.int d2), none, none]) ?_ ?_
  · walk_at "rd"
    walk_at "sp" <;> intro hd
    · walk_at "rd"
      exact ⟨rfl, _, by omega, by omega, rfl⟩
    · walk_at "rd"
      exact ⟨rfl, _, by omega, by omega, rfl⟩
  rintro σ' H' ⟨rfl, n, hn0, hn1, rfl⟩
  refine r_cut (fun σ' H'' => H'' = H' ∧ ∃ n : Int, 0 ≤ n ∧ n ≤ 12 ∧ σ' = [some (.ref a), some (.int n), some (.int d2), none, none]) ?_ ?_
  · walk_at "rd"
    walk_at "sp" <;> intro hd
    · walk_at "rd"
      exact ⟨rfl, _, by omega, by omega, rfl⟩
    · walk_at "rd"
      exact ⟨rfl, _, by omega, by omega, rfl⟩
  rintro σ' H3 ⟨rfl, n, hn0, hn1, rfl⟩
  walk_at "rd"
  intro p H4 n4 e4 hp
  walk_at "rd"
  have hpa : p ≠ a := by
    rintro rfl
    obtain ⟨xs, h⟩ := s2.lst
    rw [n4] at h; cases h
  have hbp : But a H H3 := b1.trans b2
  have hnp : H p = none := but_fresh hbp hpa n4
  refine loopR (fun i σ' H' => ∃ (zs : List Str) (v : Option V), σ' = [some (.ref a), some (.int n), some (.int d2), some (.ref p), v] ∧ zs.length = i ∧ (∀ z ∈ zs, plainB z = true) ∧ But a H H' ∧ Src H' a ∧ H' p = some (.lst (zs.map V.str))) ⟨[], _, rfl, rfl, by simp, hbp.same' e4, s2.ex e4, hp⟩ ?_ ?_
  · rintro i σ' H' hi ⟨zs, v, rfl, hz, hA, b5, s5, hp5⟩
    walk_at "rd"
    refine r_append hp5 ?_
    walk_at "rd"
    refine r_drawn s5 fun H7 v7 b7 s7 hv7 => ?_
    obtain ⟨y, rfl, hy⟩ := hv7
    walk_at "rd"
    refine r_append1 (b7 _ _ hpa hp5) (by rw [List.length_map]; omega) fun H8 b8 h8 => ?_
    refine ⟨zs ++ [y], _, rfl, by simp [hz], ?_, (b5.trans b7).step b8 hnp, s7.but b8 hpa.symm, by rw [h8, List.map_append]; rfl⟩
    intro x hx
    rcases List.mem_append.mp hx with hx | hx
    · exact hA x hx
    · rw [List.mem_singleton.mp hx]; exact hy
  rintro σ' H5 ⟨zs, v, rfl, hz, hA, b5, s5, hp5⟩
  have hfirst : nameB zs = true := name_yes (by omega) fun i y hy => .inl (hA y (List.mem_of_getElem? hy))
  refine r_cut (fun σ' H' => ∃ (zs : List Str) (v : Option V), σ' = [some (.ref a), some (.int n), some (.int d2), some (.ref p), v] ∧ nameB zs = true ∧ But a H H' ∧ Src H' a ∧ H' p = some (.lst (zs.map V.str))) ?_ ?_
  · walk_at "rd"
    walk_at "sp" <;> intro hn
    · walk_at "rd"
      refine r_draw s5 (by decide) (by decide) fun H6 d6 b6 s6 _ _ => ?_
      walk_at "rd"
      walk_at "sp" <;> intro hd6
      · walk_at "rd"
        refine r_setL (b6 _ _ hpa hp5) (ixN_in (by omega) (by rw [List.length_map, hz]; omega)) fun H9 b9 h9 => ?_
        refine ⟨zs.set (n - 1).toNat "*", v, rfl, ?_, (b5.trans b6).step b9 hnp, s6.but b9 hpa.symm, by rw [h9, List.map_set]⟩
        refine name_yes (by simp; omega) fun i y hy => ?_
        rw [List.getElem?_set] at hy
        split at hy
        · split at hy
          · rename_i h1 h2
            refine .inr ⟨?_, (Option.some.inj hy).symm⟩
            rw [List.length_set]; omega
          · cases hy
        · exact .inl (hA y (List.mem_of_getElem? hy))
      · walk_at "rd"
        exact ⟨zs, v, rfl, hfirst, b5.trans b6, s6, b6 _ _ hpa hp5⟩
    · walk_at "rd"
      exact ⟨zs, v, rfl, hfirst, b5, s5, hp5⟩
  clear hfirst hp5 s5 b5 hA hz v zs
  rintro σ' H5 ⟨zs, v, rfl, hz, b5, s5, hp5⟩
  walk_at "rd"
  refine r_tupOf (SqL.of hp5) fun l H6 n6 e6 h6 => ?_
  exact k _ _ (b5.same' e6) (s5.ex e6) ⟨l, zs, rfl, SqT.of h6, hz⟩

theorem ok__law_same (T : Txt K mg) : ∀ n, Fn P w K mg base n "_law_same" ["actual", "expected"] (spSame K n)
  | 0 => fn_false T.d__law_same
  | n + 1 => by
    have GR : Fn P w K mg base n "_law_same" ["actual", "expected"] (spSame K n) := ok__law_same T n
    refine T.d__law_same.ok sc__law_same (by rintro vs H Q E ⟨_, _, _, _, rfl, _⟩; rfl) (fun f cdv A outer s H vs Q E hr h => ?_)
    obtain ⟨v, u, d, e, rfl, hd, he, pd, pe, hdep, k⟩ := h
    refine ⟨_, (pss_cons (ps_if (pt_val (pe_callB call_isi (by rfl) T.m_isinstance (by decide +kernel) (pa_cons (pv 1) (pa_cons (pe_bltn (v := .ty "tuple") rfl T.m_tuple (by decide +kernel) rfl) pa_nil))))
  (pss_cons (ps_if (PW.pt (pw_or (pt_not (pt_val (pe_callB call_isi (by rfl) T.m_isinstance (by decide +kernel) (pa_cons (pv 0) (pa_cons (pe_bltn (v := .ty "tuple") rfl T.m_tuple (by decide +kernel) rfl) pa_nil))))) (pw_or1 (pt_cmpR op_ne (pe_callB cLenQ (by rfl) T.m_len PySem.boot_len (pa_cons (pv 0) pa_nil)) (pe_callB cLenQ (by rfl) T.m_len PySem.boot_len (pa_cons (pv 1) pa_nil)) (nomark _)))))
  (pss_one (ps_ret pe_bl))
  pss_nil)
  (pss_cons (ps_for PassesOwn.never rfl (pi_range1 rfl T.m_range (pa_cons (pe_callB cLenQ (by rfl) T.m_len PySem.boot_len (pa_cons (pv 1) pa_nil)) pa_nil)) (pg_name (i := 2) sc__law_same.nd rfl (.inl rfl))
  (pss_one (ps_if (pt_not (pt_val (pe_fn GR hr (by rfl) (pa_cons (pe_ix ix_tup (pv 0) (pv 2) (fun _ _ => rfl)) (pa_cons (pe_ix ix_tup (pv 1) (pv 2) (fun _ _ => rfl)) pa_nil)))))
  (pss_one (ps_ret pe_bl))
  pss_nil)))
  (pss_one (ps_ret pe_bl))))
  pss_nil)
  (pss_cons (ps_if (pt_val (pe_callB call_isi (by rfl) T.m_isinstance (by decide +kernel) (pa_cons (pv 1) (pa_cons (pe_bltn (v := .ty "str") rfl T.m_str (by decide +kernel) rfl) pa_nil))))
  (pss_one (ps_ret (pe_and (pe_callB call_isi (by rfl) T.m_isinstance (by decide +kernel) (pa_cons (pv 0) (pa_cons (pe_bltn (v := .ty "str") rfl T.m_str (by decide +kernel) rfl) pa_nil))) (pe_one (pe_cmpR (op_eqDK (K := K) rfl hr.units) (pv 0) (pv 1) (nomark _))))))
  pss_nil)
  (pss_one (ps_ret (pe_and (pe_callB call_isi (by rfl) T.m_isinstance (by decide +kernel) (pa_cons (pv 0) (pa_cons (pe_bltn (v := .ty "int") rfl T.m_int (by decide +kernel) rfl) pa_nil))) (pe_and (pe_not (pe_callB call_isi (by rfl) T.m_isinstance (by decide +kernel) (pa_cons (pv 0) (pa_cons (pe_bltn (v := .ty "bool") rfl T.m_bool (by decide +kernel) rfl) pa_nil)))) (pe_one (pe_cmpR (op_eqDK (K := K) rfl hr.units) (pv 0) (pv 1) (nomark _))))))))), ?_⟩
    walk_at "en"
    have ed : ∀ x : V, Dp K H x d → (∀ i, x = .int i → d = .int i) ∧ (∀ z, x = .str z → d = .str z) := fun x hx => by
      cases hx <;> constructor <;> intro z hz <;> cases hz <;> rfl
    cases he with
    | int j =>
      walk_at "rd"
      cases hd with
      | int i =>
        walk_at "rd"
        refine r_eqD (.int i) (.int j) (shaped_pure pd (by simp [PyData.depth])) (shaped_pure pe (by simp [PyData.depth])) ?_
        exact k
      | str y =>
        walk_at "rd"
        simpa [PyData.eqv] using k
      | tup ha hall =>
        walk_at "rd"
        simpa [PyData.eqv] using k
      | non => simp [pureD] at pd
      | bl b => simp [pureD] at pd
      | lst h1 h2 => simp [pureD] at pd
    | str y =>
      walk_at "rd"
      cases hd with
      | int i =>
        walk_at "rd"
        simpa [PyData.eqv] using k
      | str x =>
        walk_at "rd"
        refine r_eqD (.str x) (.str y) (shaped_pure pd (by simp [PyData.depth])) (shaped_pure pe (by simp [PyData.depth])) ?_
        exact k
      | tup ha hall =>
        walk_at "rd"
        simpa [PyData.eqv] using k
      | non => simp [pureD] at pd
      | bl b => simp [pureD] at pd
      | lst h1 h2 => simp [pureD] at pd
    | tup hb hall =>
      rename_i b ys es
      walk_at "rd"
      cases hd with
      | int i =>
        walk_at "rd"
        simpa [PyData.eqv] using k
      | str x =>
        walk_at "rd"
        simpa [PyData.eqv] using k
      | tup ha hall2 =>
        rename_i a xs ds
        walk_at "rd"
        have l1 := dpAll_len hall
        have l2 := dpAll_len hall2
        have kk : Q (.bl (PyData.eqvAll ds es)) H := by simpa [PyData.eqv] using k
        walk_at "sp" <;> intro hlen
        · walk_at "rd"
          rw [SeqAt.eqvAll_other_length (by omega)] at kk
          exact kk
        · have hwid : es.length ≤ 10000 := by simp [pureD] at pe; exact pe.1
          walk_at "rd"
          have hld : ds.length = es.length := by omega
          have hpa : ∀ x ∈ ds, pureD x = true := (pureAll_iff ds).mp (by simp [pureD] at pd; exact pd.2)
          have hpb : ∀ x ∈ es, pureD x = true := (pureAll_iff es).mp (by simp [pureD] at pe; exact pe.2)
          rw [Int.toNat_natCast, l1]
          refine loopR (fun i σ' H' => (∃ w, σ' = [some (.ref a), some (.ref b), w]) ∧ H' = H ∧ ∀ (j : Nat) (x y : PyData), j < i → ds[j]? = some x → es[j]? = some y → PyData.eqv x y = true) ⟨⟨_, rfl⟩, rfl, by intro j x y hj; omega⟩ ?_ ?_
          · rintro i σ' H' hi ⟨⟨w', rfl⟩, rfl, hyes⟩
            have hx := List.getElem?_eq_getElem (show i < ds.length by omega)
            have hy := List.getElem?_eq_getElem hi
            obtain ⟨v1, g1, q1⟩ := dpAll_get hall2 hx
            obtain ⟨v2, g2, q2⟩ := dpAll_get hall hy
            walk_at "rd"
            refine r_ixT ha (v := v1) (by rw [Int.zero_add]; exact atI_nat g1) ?_
            walk_at "rd"
            refine r_ixT hb (v := v2) (by rw [Int.zero_add]; exact atI_nat g2) ?_
            walk_at "rd"
            have hdx := depth_mem (List.getElem_mem hi)
            have hdd : (PyData.tuple es).depth = PyData.depthAll es + 1 := by simp [PyData.depth]
            cases n with
            | zero => omega
            | succ m =>
              refine ⟨v1, v2, _, _, rfl, q1, q2, hpa _ (List.getElem_mem _), hpb _ (List.getElem_mem _), by omega, ?_⟩
              walk_at "rd"
              cases hq : PyData.eqv (ds[i]'(by omega)) es[i] with
              | true =>
                walk_at "rd"
                refine ⟨⟨_, rfl⟩, rfl, fun j x y hj h1 h2 => ?_⟩
                by_cases e : j = i
                · subst e
                  rw [hx] at h1
                  rw [hy] at h2
                  cases h1
                  cases h2
                  exact hq
                · exact hyes j x y (by omega) h1 h2
              | false =>
                walk_at "rd"
                rw [eqvAll_no hx hy hq] at kk
                exact kk
          · rintro σ' H' ⟨⟨w', rfl⟩, rfl, hyes⟩
            walk_at "rd"
            rw [eqvAll_yes hld fun i d e h1 h2 => hyes i d e (List.getElem?_eq_some_iff.mp h2).1 h1 h2] at kk
            exact kk
      | non => simp [pureD] at pd
      | bl b => simp [pureD] at pd
      | lst h1 h2 => simp [pureD] at pd
    | non => simp [pureD] at pe
    | bl b => simp [pureD] at pe
    | lst h1 h2 => simp [pureD] at pe

theorem NameV.g {H : Hp} {v : V} (h : NameV K H v) : ∃ d, Dp K H v d ∧ nmG d := by
  obtain ⟨p, zs, rfl, hs, hn⟩ := h
  exact ⟨dT zs, dp_tup hs, zs, rfl, hn⟩
def pickI (b i : Nat) : List Str := (List.range i).filterMap fun j => if b / 2 ^ j % 2 = 1 then KN[j]? else none
theorem pickI_succ (b i : Nat) : pickI b (i + 1) = pickI b i ++ (if b / 2 ^ i % 2 = 1 then KN[i]? else none).toList := by
  unfold pickI
  rw [List.range_succ, List.filterMap_append]
  congr 1
theorem pickI_len (b i : Nat) : (pickI b i).length ≤ i := by
  have := List.length_filterMap_le (fun j => if b / 2 ^ j % 2 = 1 then KN[j]? else none) (List.range i)
  simpa [pickI] using this
theorem pickI_low : ∀ i : Nat, i < 9 → ∀ b : Nat, b < 2 ^ i → pickI (b + 2 ^ i) i = pickI b i := by decide +kernel
theorem pickI_no {b i : Nat} (h : b < 2 ^ i) : pickI b (i + 1) = pickI b i := by
  rw [pickI_succ, Nat.div_eq_of_lt h, if_neg (by decide)]
  simp
theorem pickI_yes {b i : Nat} {z : Str} (hi : i < 9) (h : b < 2 ^ i) (hz : KN[i]? = some z) : pickI (b + 2 ^ i) (i + 1) = pickI b i ++ [z] := by
  have e : (b + 2 ^ i) / 2 ^ i = 1 := by
    rw [Nat.add_div_right _ (Nat.two_pow_pos i), Nat.div_eq_of_lt h]
  rw [pickI_succ, e, if_pos (by decide), pickI_low i hi b h, hz]
  rfl
theorem C94_ch : ∀ c ∈ C94.cps.toList, isCh (c : Int) = true := by decide +kernel
theorem vlG_txt {z : Str} (h : ∀ c ∈ z.cps.toList, c ∈ C94.cps.toList) (hl : z.length ≤ 60) : vlG "text" (.str z) := by
  unfold vlG
  rw [if_pos rfl]
  refine ⟨z, rfl, fun c hc => C94_asc c (h c hc), ?_⟩
  unfold txtB
  rw [decide_eq_true hl, Bool.true_and, List.all_eq_true]
  exact fun c hc => C94_ch c (h c hc)
theorem ok__law_kinds (T : Txt K mg) : Fn P w K mg base 1 "_law_kinds" [] (fun vs H Q _ => vs = [] ∧ ∀ H' p, Same H H' → H p = none → H' p = some (.lst (KN.map V.str)) → Q (.ref p) H') := by
  refine T.d__law_kinds.ok sc__law_kinds (by rintro vs H Q E ⟨rfl, _⟩; rfl) (fun f cdv A outer s H vs Q E hr h => ?_)
  obtain ⟨rfl, k⟩ := h
  refine ⟨_, (pss_one (ps_ret (pe_lst (pa_cons pe_str (pa_cons pe_str (pa_cons pe_str (pa_cons pe_str (pa_cons pe_str (pa_cons pe_str (pa_cons pe_str (pa_cons pe_str (pa_cons pe_str pa_nil)))))))))))), ?_⟩
  walk_at "en"
  intro p H1 n1 e1 hp
  exact k _ _ e1 n1 hp
theorem ok__law_word (T : Txt K mg) : Fn P w K mg base 2 "_law_word" ["source"] (spDrawn fun _ v => ∃ i : Int, v = .int i ∧ 0 ≤ i ∧ i ≤ 4294967295) := by
  refine T.d__law_word.ok sc__law_word (by rintro vs H Q E ⟨_, rfl, _⟩; rfl) (fun f cdv A outer s H vs Q E hr h => ?_)
  obtain ⟨a, rfl, hS, k⟩ := h
  refine ⟨_, (pss_cons (ps_set (i := 1) sc__law_word.nd rfl (by first | exact .inl rfl | exact .inr rfl) (pe_fn (ok__law_draw T) hr (by rfl) (pa_cons (pv 0) (pa_cons pe_int pa_nil))))
  (pss_cons (ps_if (pt_cmpR op_eq (pv 1) pe_int (nomark _))
  (pss_one (ps_ret (pe_ix ix_list (pe_lst (pa_cons pe_int (pa_cons pe_int pa_nil))) (pe_fn (ok__law_draw T) hr (by rfl) (pa_cons (pv 0) (pa_cons pe_int pa_nil))) (fun _ _ => rfl))))
  pss_nil)
  (pss_cons (ps_if (pt_cmpR op_eq (pv 1) pe_int (nomark _))
  (pss_one (ps_ret (pe_fn (ok__law_draw T) hr (by rfl) (pa_cons (pv 0) (pa_cons pe_int pa_nil)))))
  pss_nil)
  (pss_one (ps_ret (pe_op op_add (pe_op op_mul (pe_fn (ok__law_draw T) hr (by rfl) (pa_cons (pv 0) (pa_cons pe_int pa_nil))) pe_int) (pe_fn (ok__law_draw T) hr (by rfl) (pa_cons (pv 0) (pa_cons pe_int pa_nil))))))))), ?_⟩
  walk_at "en"
  refine r_draw hS (by decide) (by decide) fun H1 d b1 s1 d0 d1 => ?_
  walk_at "rd"
  walk_at "sp" <;> intro h0
  · walk_at "rd"
    intro p H2 n2 e2 hp
    have hpa : p ≠ a := by
      rintro rfl
      obtain ⟨xs, h⟩ := s1.lst
      rw [n2] at h; cases h
    walk_at "rd"
    refine r_draw (s1.ex e2) (by decide) (by decide) fun H3 c b3 s3 c0 c1 => ?_
    obtain ⟨v, hv, ha, _⟩ := atI_in (xs := [0, 4294967295].map V.int) c0 c1
    refine r_ixL (SqL.of (b3 _ _ hpa hp)) ha ?_
    obtain ⟨i, hi, rfl⟩ := List.mem_map.mp hv
    refine k _ _ ((b1.same' e2).trans b3) s3 ⟨i, rfl, ?_, ?_⟩
    · have : ∀ i ∈ [(0 : Int), 4294967295], 0 ≤ i := by decide
      exact this i hi
    · have : ∀ i ∈ [(0 : Int), 4294967295], i ≤ 4294967295 := by decide
      exact this i hi
  · walk_at "rd"
    walk_at "sp" <;> intro h1
    · walk_at "rd"
      refine r_draw s1 (by decide) (by decide) fun H3 c b3 s3 c0 c1 => ?_
      exact k _ _ (b1.trans b3) s3 ⟨_, rfl, c0, by omega⟩
    · walk_at "rd"
      refine r_draw s1 (by decide) (by decide) fun H3 c b3 s3 c0 c1 => ?_
      walk_at "rd"
      refine r_draw s3 (by decide) (by decide) fun H4 c' b4 s4 c0' c1' => ?_
      walk_at "rd"
      exact k _ _ ((b1.trans b3).trans b4) s4 ⟨_, rfl, by omega, by omega⟩
theorem ok__law_text (T : Txt K mg) : Fn P w K mg base 2 "_law_text" ["source"] (spDrawn fun _ v => ∃ z : Str, v = .str z ∧ z.length ≤ 60 ∧ ∀ c ∈ z.cps.toList, c ∈ C94.cps.toList) := by
  refine T.d__law_text.ok sc__law_text (by rintro vs H Q E ⟨_, rfl, _⟩; rfl) (fun f cdv A outer s H vs Q E hr h => ?_)
  obtain ⟨a, rfl, hS, k⟩ := h
  refine ⟨_, (pss_cons (ps_set (i := 1) sc__law_text.nd rfl (by first | exact .inl rfl | exact .inr rfl) pe_str)
  (pss_cons (ps_set (i := 1) sc__law_text.nd rfl (by first | exact .inl rfl | exact .inr rfl) (pe_op oAddS (pv 1) pe_str))
  (pss_cons (ps_set (i := 2) sc__law_text.nd rfl (by first | exact .inl rfl | exact .inr rfl) (pe_fn (ok__law_draw T) hr (by rfl) (pa_cons (pv 0) (pa_cons pe_int pa_nil))))
  (pss_cons (ps_set (i := 3) sc__law_text.nd rfl (by first | exact .inl rfl | exact .inr rfl) (pe_fn (ok__law_draw T) hr (by rfl) (pa_cons (pv 0) (pa_cons pe_int pa_nil))))
  (pss_cut (ps_if (pt_cmpR op_eq (pv 3) pe_int (nomark _))
  (pss_one (ps_set (i := 2) sc__law_text.nd rfl (by first | exact .inl rfl | exact .inr rfl) (pe_op op_add pe_int (pe_op op_mod (pe_callTy cInt (by rfl) T.m_int (by decide +kernel) (pa_cons (pv 2) pa_nil)) pe_int))))
  pss_nil)
  (pss_cut (ps_if (pt_cmpR op_eq (pv 3) pe_int (nomark _))
  (pss_one (ps_set (i := 2) sc__law_text.nd rfl (by first | exact .inl rfl | exact .inr rfl) (pe_op op_mod (pe_callTy cInt (by rfl) T.m_int (by decide +kernel) (pa_cons (pv 2) pa_nil)) pe_int)))
  pss_nil)
  (pss_cons (ps_set (i := 4) sc__law_text.nd rfl (by first | exact .inl rfl | exact .inr rfl) pe_str)
  (pss_cons (ps_for PassesOwn.never rfl (pi_range1 rfl T.m_range (pa_cons (pv 2) pa_nil)) (pg_name (i := 5) sc__law_text.nd rfl (.inl rfl))
  (pss_one (ps_set (i := 4) sc__law_text.nd rfl (by first | exact .inl rfl | exact .inr rfl) (pe_op oAddS (pv 4) (pe_ix ix_str (pv 1) (pe_fn (ok__law_draw T) hr (by rfl) (pa_cons (pv 0) (pa_cons pe_int pa_nil))) (fun _ _ => rfl))))))
  (pss_one (ps_ret (pv 4))))))))))), ?_⟩
  walk_at "en"
  refine r_draw hS (by decide) (by decide) fun H1 d b1 s1 d0 d1 => ?_
  walk_at "rd"
  refine r_draw s1 (by decide) (by decide) fun H2 d2 b2 s2 d20 d21 => ?_
  walk_at "rd"
  refine r_cut (fun σ' H' => H' = H2 ∧ ∃ n : Int, 0 ≤ n ∧ n ≤ 60 ∧ σ' = [some (.ref a), some (.str C94), some (.int n), some (.int d2), none, none]) ?_ ?_
  · walk_at "rd"
    walk_at "sp" <;> intro h0
    · walk_at "rd"
      exact ⟨rfl, _, by omega, by omega, rfl⟩
    · walk_at "rd"
      exact ⟨rfl, _, by omega, by omega, rfl⟩
  rintro σ' H' ⟨rfl, n, hn0, hn1, rfl⟩
  refine r_cut (fun σ' H'' => H'' = H' ∧ ∃ n : Int, 0 ≤ n ∧ n ≤ 60 ∧ σ' = [some (.ref a), some (.str C94), some (.int n), some (.int d2), none, none]) ?_ ?_
  · walk_at "rd"
    walk_at "sp" <;> intro h0
    · walk_at "rd"
      exact ⟨rfl, _, by omega, by omega, rfl⟩
    · walk_at "rd"
      exact ⟨rfl, _, by omega, by omega, rfl⟩
  rintro σ' H3 ⟨rfl, n, hn0, hn1, rfl⟩
  walk_at "rd"
  refine loopR (fun i σ' H' => (∃ (z : Str) (v : Option V), σ' = [some (.ref a), some (.str C94), some (.int n), some (.int d2), some (.str z), v] ∧ z.length = i ∧ ∀ c ∈ z.cps.toList, c ∈ C94.cps.toList) ∧ But a H H' ∧ Src H' a) ⟨⟨_, _, rfl, rfl, fun c hc => by cases hc⟩, b1.trans b2, s2⟩ ?_ ?_
  · rintro i σ' H' hi ⟨⟨z, v, rfl, hz, hA⟩, b2, s2⟩
    walk_at "rd"
    refine r_draw s2 (by decide) (by decide) fun H3 d3 b3 s3 d30 d31 => ?_
    obtain ⟨c, hc, ha, _⟩ := atI_in (xs := C94.cps.toList) d30 (by rw [C94_len]; exact d31)
    refine r_ixS C94_len2 ha ?_
    refine r_addS (by rw [hz, len_one]; omega) ?_
    walk_at "rd"
    refine ⟨⟨_, _, rfl, by rw [len_app, len_one, hz], fun x hx => ?_⟩, b2.trans b3, s3⟩
    rw [cps_app] at hx
    rcases List.mem_append.mp hx with hx | hx
    · exact hA x hx
    · rw [show x = c by simpa using hx]; exact hc
  · rintro σ' H' ⟨⟨z, v, rfl, hz, hA⟩, b2, s2⟩
    walk_at "rd"
    exact k _ _ b2 s2 ⟨z, rfl, by omega, hA⟩
def spValue (K : PySem.W.Frag) : Sp := fun vs H Q _ => ∃ (κ : Str) (a : Addr), vs = [.str κ, .ref a] ∧ Src H a ∧ ∀ H' v d, But a H H' → Src H' a → Dp K H' v d → vlG κ d → Q v H'
theorem ok__law_value (T : Txt K mg) : Fn P w K mg base 4 "_law_value" ["kind", "source"] (spValue K) := by
  refine T.d__law_value.ok sc__law_value (by rintro vs H Q E ⟨_, _, rfl, _⟩; rfl) (fun f cdv A outer s H vs Q E hr h => ?_)
  obtain ⟨κ, a, rfl, hS, k⟩ := h
  refine ⟨_, (pss_cons (ps_if (pt_cmpR op_eq (pv 0) pe_str (nomark _))
  (pss_one (ps_ret (pe_fn (ok__law_text T) (hr.mono (by decide)) (by rfl) (pa_cons (pv 1) pa_nil))))
  pss_nil)
  (pss_cons (ps_if (pt_cmpR op_eq (pv 0) pe_str (nomark _))
  (pss_cons (ps_set (i := 2) sc__law_value.nd rfl (by first | exact .inl rfl | exact .inr rfl) (pe_fn (ok__law_draw T) (hr.mono (by decide)) (by rfl) (pa_cons (pv 1) (pa_cons pe_int pa_nil))))
  (pss_cons (ps_set (i := 3) sc__law_value.nd rfl (by first | exact .inl rfl | exact .inr rfl) (pe_fn (ok__law_draw T) (hr.mono (by decide)) (by rfl) (pa_cons (pv 1) (pa_cons pe_int pa_nil))))
  (pss_cut (ps_if (pt_cmpR op_eq (pv 2) pe_int (nomark _))
  (pss_one (ps_set (i := 3) sc__law_value.nd rfl (by first | exact .inl rfl | exact .inr rfl) (pe_ix ix_list (pe_lst (pa_cons pe_int (pa_cons pe_int pa_nil))) (pe_op op_mod (pe_callTy cInt (by rfl) T.m_int (by decide +kernel) (pa_cons (pv 3) pa_nil)) pe_int) (fun _ _ => rfl))))
  pss_nil)
  (pss_cut (ps_if (pt_cmpR op_eq (pv 2) pe_int (nomark _))
  (pss_one (ps_set (i := 3) sc__law_value.nd rfl (by first | exact .inl rfl | exact .inr rfl) pe_int))
  pss_nil)
  (pss_one (ps_ret (pe_tup (pa_cons (pv 3) (pa_cons (pe_fn (ok__law_name T) hr (by rfl) (pa_cons (pv 1) pa_nil)) pa_nil)))))))))
  pss_nil)
  (pss_cons (ps_if (PW.pt (pw_or (pt_cmpR op_eq (pv 0) pe_str (nomark _)) (pw_or1 (pt_cmpR op_eq (pv 0) pe_str (nomark _)))))
  (pss_one (ps_ret (pe_fn (ok__law_name T) hr (by rfl) (pa_cons (pv 1) pa_nil))))
  pss_nil)
  (pss_cons (ps_if (pt_cmpR op_eq (pv 0) pe_str (nomark _))
  (pss_one (ps_ret (pe_tup (pa_cons (pe_fn (ok__law_word T) (hr.mono (by decide)) (by rfl) (pa_cons (pv 1) pa_nil)) (pa_cons (pe_fn (ok__law_word T) (hr.mono (by decide)) (by rfl) (pa_cons (pv 1) pa_nil)) pa_nil)))))
  pss_nil)
  (pss_cons (ps_if (pt_cmpR op_eq (pv 0) pe_str (nomark _))
  (pss_cons (ps_set (i := 4) sc__law_value.nd rfl (by first | exact .inl rfl | exact .inr rfl) (pe_lst pa_nil))
  (pss_cons (ps_for PassesOwn.never rfl (pi_list (pe_fn0 (ok__law_kinds T) (hr.mono (by decide)) (by rfl))) (pg_name (i := 5) sc__law_value.nd rfl (.inl rfl))
  (pss_one (ps_if (pt_cmpR op_eq (pe_fn (ok__law_draw T) (hr.mono (by decide)) (by rfl) (pa_cons (pv 1) (pa_cons pe_int pa_nil))) pe_int (nomark _))
  (pss_one (ps_expr (pe_bm PySem.F.plainAttrs_list PySem.F.slot_list_append PySem.F.type_list_append mt_append (pv 4) (pa_cons (pv 5) pa_nil))))
  pss_nil)))
  (pss_one (ps_ret (pe_tup (pa_cons (pe_fn (ok__law_name T) hr (by rfl) (pa_cons (pv 1) pa_nil)) (pa_cons (pe_callTy cTupOf (by rfl) T.m_tuple (by decide +kernel) (pa_cons (pv 4) pa_nil)) pa_nil)))))))
  pss_nil)
  (pss_one (ps_ret (pe_fn (ok__law_word T) (hr.mono (by decide)) (by rfl) (pa_cons (pv 1) pa_nil))))))))), ?_⟩
  have nameR : ¬ κ = "text" → ¬ κ = "mail" → (κ = "alias" ∨ κ = "server") → spDrawn (NameV K) [.ref a] H Q E0 := fun h0 h1 h2 => r_drawn hS fun H1 v b1 s1 hv => by
    obtain ⟨d, hd, hn⟩ := hv.g
    exact k _ _ d b1 s1 hd (by unfold vlG; rw [if_neg h0, if_neg h1, if_pos h2]; exact hn)
  walk_at "en"
  walk_at "sp" <;> intro h0
  · walk_at "rd"
    refine r_drawn hS fun H1 v b1 s1 hv => ?_
    obtain ⟨z, rfl, hz, hA⟩ := hv
    exact k _ _ _ b1 s1 (.str z) (by subst h0; exact vlG_txt hA hz)
  walk_at "rd"
  walk_at "sp" <;> intro h1
  · walk_at "rd"
    refine r_draw hS (by decide) (by decide) fun H1 d b1 s1 d0 d1 => ?_
    walk_at "rd"
    refine r_draw s1 (by decide) (by decide) fun H2 d2 b2 s2 d20 d21 => ?_
    walk_at "rd"
    refine r_cut (fun σ' H' => But a H H' ∧ Src H' a ∧ ∃ n : Int, σ' = [some (.str κ), some (.ref a), some (.int d), some (.int n), none, none] ∧ 0 ≤ n ∧ n ≤ 65535) ?_ ?_
    · walk_at "rd"
      walk_at "sp" <;> intro h2
      · walk_at "rd"
        intro p H3 n3 e3 hp
        walk_at "rd"
        obtain ⟨v, hv, ha, _⟩ := atI_in (xs := [0, 65535].map V.int) (i := d2 % 2) (by omega) (by simp; omega)
        refine r_ixL (SqL.of hp) ha ?_
        obtain ⟨i, hi, rfl⟩ := List.mem_map.mp hv
        walk_at "rd"
        have key : ∀ i ∈ [(0 : Int), 65535], 0 ≤ i ∧ i ≤ 65535 := by decide
        exact ⟨(b1.trans b2).same' e3, s2.ex e3, i, rfl, key i hi⟩
      · walk_at "rd"
        exact ⟨b1.trans b2, s2, _, rfl, d20, by omega⟩
    rintro σ' H3 ⟨b3, s3, n, rfl, n0, n1⟩
    refine r_cut (fun σ' H' => But a H H' ∧ Src H' a ∧ ∃ n : Int, σ' = [some (.str κ), some (.ref a), some (.int d), some (.int n), none, none] ∧ 0 ≤ n ∧ n ≤ 65535) ?_ ?_
    · walk_at "rd"
      walk_at "sp" <;> intro h2
      · walk_at "rd"
        exact ⟨b3, s3, _, rfl, by decide, by decide⟩
      · walk_at "rd"
        exact ⟨b3, s3, _, rfl, n0, n1⟩
    rintro σ' H4 ⟨b4, s4, n, rfl, n0, n1⟩
    walk_at "rd"
    refine r_drawn s4 fun H5 v b5 s5 hv => ?_
    obtain ⟨nd, hd, hn⟩ := hv.g
    walk_at "rd"
    intro t H6 n6 e6 ht
    exact k _ _ _ ((b4.trans b5).same' e6) (s5.ex e6) (.tup (SqT.of ht) (.cons (.int n) (.cons (dp_ex e6 _ _ hd) .nil))) (by unfold vlG; rw [if_neg h0, if_pos h1]; exact ⟨_, _, rfl, hn, n0, n1⟩)
  walk_at "rd"
  walk_at "sp" <;> intro h2
  · walk_at "rd"
    exact nameR h0 h1 (.inl h2)
  walk_at "rd"
  walk_at "sp" <;> intro h3
  · walk_at "rd"
    exact nameR h0 h1 (.inr h3)
  have h23 : ¬ (κ = "alias" ∨ κ = "server") := fun z => z.elim h2 h3
  walk_at "rd"
  walk_at "sp" <;> intro h4
  · walk_at "rd"
    refine r_drawn hS fun H1 v b1 s1 hv => ?_
    obtain ⟨i, rfl, i0, i1⟩ := hv
    walk_at "rd"
    refine r_drawn s1 fun H2 v b2 s2 hv => ?_
    obtain ⟨j, rfl, j0, j1⟩ := hv
    walk_at "rd"
    intro t H6 n6 e6 ht
    exact k _ _ _ ((b1.trans b2).same' e6) (s2.ex e6) (.tup (SqT.of ht) (.cons (.int i) (.cons (.int j) .nil))) (by unfold vlG; rw [if_neg h0, if_neg h1, if_neg h23, if_pos h4]; exact ⟨_, _, rfl, decide_eq_true ⟨i0, i1⟩, decide_eq_true ⟨j0, j1⟩⟩)
  walk_at "rd"
  walk_at "sp" <;> intro h5
  · walk_at "rd"
    intro p H1 n1 e1 hp
    have hpa : p ≠ a := by
      rintro rfl
      obtain ⟨xs, h⟩ := hS.lst
      rw [n1] at h; cases h
    walk_at "rd"
    refine ⟨rfl, fun H2 q e2 nq hq => ?_⟩
    have hqa : q ≠ a := by
      rintro rfl
      obtain ⟨xs, h⟩ := (hS.ex e1).lst
      rw [nq] at h; cases h
    have hqp : q ≠ p := by rintro rfl; rw [nq] at hp; cases hp
    walk_at "rd"
    refine loopL (xs := KN.map V.str) (fun i σ' H' => (∃ (v2 v3 v5 : Option V) (n : Nat), σ' = [some (.str κ), some (.ref a), v2, v3, some (.ref p), v5] ∧ H' p = some (.lst ((pickI n i).map V.str)) ∧ n < 2 ^ i) ∧ H' q = some (.lst (KN.map V.str)) ∧ But a H H' ∧ Src H' a)
      ⟨⟨_, _, _, 0, rfl, e2 _ _ hp, by decide⟩, hq, But.of (e1.trans e2), hS.ex (e1.trans e2)⟩ (by rintro i σ' H' _ ⟨_, h, _⟩; exact SqL.of h) ?_ ?_
    · rintro i x σ' H' hx ⟨⟨v2, v3, v5, n, rfl, hp', hn2⟩, hq', b', s'⟩
      obtain ⟨z, hz', rfl⟩ := map_get hx
      have hi9 : i < 9 := (List.getElem?_eq_some_iff.mp hz').1
      walk_at "rd"
      refine r_draw s' (by decide) (by decide) fun H3 d b3 s3 _ _ => ?_
      walk_at "rd"
      have hp3 := b3 _ _ hpa hp'
      walk_at "sp" <;> intro h6
      · walk_at "rd"
        refine r_append hp3 ?_
        walk_at "rd"
        refine r_append1 hp3 (by rw [List.length_map]; have := pickI_len n i; omega) fun H4 b4 h4 => ?_
        exact ⟨⟨_, _, _, n + 2 ^ i, rfl, by rw [h4, pickI_yes hi9 hn2 hz', List.map_append]; rfl, by rw [Nat.pow_succ]; omega⟩, b4 _ _ hqp (b3 _ _ hqa hq'), (b'.trans b3).step b4 n1, s3.but b4 hpa.symm⟩
      · walk_at "rd"
        exact ⟨⟨_, _, _, n, rfl, by rw [hp3, pickI_no hn2], by rw [Nat.pow_succ]; omega⟩, b3 _ _ hqa hq', b'.trans b3, s3⟩
    · rintro σ' H' ⟨⟨v2, v3, v5, n, rfl, hp', hn2⟩, hq', b', s'⟩
      walk_at "rd"
      refine r_drawn s' fun H3 v b3 s3 hv => ?_
      obtain ⟨nd, hd, hn⟩ := hv.g
      have hp3 := b3 _ _ hpa hp'
      walk_at "rd"
      refine r_tupOf (SqL.of hp3) fun t H4 n4 e4 ht => ?_
      walk_at "rd"
      intro u H5 n5 e5 hu
      have e45 := e4.trans e5
      refine k _ _ _ ((b'.trans b3).same' e45) (s3.ex e45) (.tup (SqT.of hu) (.cons (dp_ex e45 _ _ hd) (.cons (dp_tup (SqT.of (e5 _ _ ht))) .nil))) ?_
      unfold vlG
      rw [if_neg h0, if_neg h1, if_neg h23, if_neg h4, if_pos h5]
      exact ⟨nd, n, rfl, hn, hn2⟩
  walk_at "rd"
  refine r_drawn hS fun H1 v b1 s1 hv => ?_
  obtain ⟨i, rfl, i0, i1⟩ := hv
  exact k _ _ _ b1 s1 (.int i) (by unfold vlG; rw [if_neg h0, if_neg h1, if_neg h23, if_neg h4, if_neg h5]; exact ⟨_, rfl, decide_eq_true ⟨i0, i1⟩⟩)

/-! ### a row with one more at its place -/
def PlI (rs : List PyData) (d : PyData) (j pl : Nat) : Prop := pl ≤ j ∧ (∀ (k : Nat) (y : PyData), k < pl → rs[k]? = some y → dataLt y d = true) ∧ ∀ (k : Nat) (y : PyData), pl ≤ k → k < j → rs[k]? = some y → dataLt y d = false
section
variable {rs : List PyData} {d e : PyData} {j pl : Nat}
theorem pl_start : PlI rs d 0 0 := ⟨Nat.le_refl _, fun k y h => by omega, fun k y _ h => by omega⟩
theorem pl_yes (ha : AscD rs) (h : PlI rs d j pl) (hj : rs[j]? = some e) (hlt : dataLt e d = true) : PlI rs d (j + 1) (pl + 1) := by
  obtain ⟨h1, h2, h3⟩ := h
  have e1 : pl = j := by
    by_cases c : pl < j
    · have hjl : j < rs.length := (List.getElem?_eq_some_iff.mp hj).1
      have hp := List.getElem?_eq_getElem (show pl < rs.length by omega)
      have := h3 pl _ (Nat.le_refl _) c hp
      rw [dlt_trans (asc_lt ha hp hj c) hlt] at this
      cases this
    · omega
  subst e1
  refine ⟨Nat.le_refl _, fun k y hk hy => ?_, fun k y hk hk2 => by omega⟩
  by_cases c : k < pl
  · exact h2 k y c hy
  · have : k = pl := by omega
    subst this
    rw [hj] at hy
    cases hy
    exact hlt
theorem pl_no (h : PlI rs d j pl) (hj : rs[j]? = some e) (hlt : dataLt e d = false) : PlI rs d (j + 1) pl := by
  obtain ⟨h1, h2, h3⟩ := h
  refine ⟨by omega, h2, fun k y hk hk2 hy => ?_⟩
  by_cases c : k < j
  · exact h3 k y hk c hy
  · have : k = j := by omega
    subst this
    rw [hj] at hy
    cases hy
    exact hlt
theorem pl_asc (ha : AscD rs) (h : PlI rs d rs.length pl) (nd : d ∉ rs) (al : ∀ e ∈ rs, alike d e = true) (pd : pureD d = true) (pr : ∀ e ∈ rs, pureD e = true) : AscD (rs.take pl ++ [d] ++ rs.drop pl) := by
  obtain ⟨h1, h2, h3⟩ := h
  have tk : ∀ {a : PyData}, a ∈ rs.take pl → ∃ k : Nat, k < pl ∧ rs[k]? = some a := fun {a} h => by
    obtain ⟨k, hk⟩ := List.mem_iff_getElem?.mp h
    have hk2 := (List.getElem?_eq_some_iff.mp hk).1
    rw [List.length_take] at hk2
    rw [List.getElem?_take, if_pos (by omega)] at hk
    exact ⟨k, by omega, hk⟩
  refine List.pairwise_append.mpr ⟨asc_snoc (asc_take ha pl) fun y hy => ?_, List.Pairwise.sublist (List.drop_sublist _ _) ha, fun a ha2 b hb => ?_⟩
  · obtain ⟨k, hk, hy⟩ := tk hy
    exact h2 k y hk hy
  · obtain ⟨m, hm⟩ := List.mem_iff_getElem?.mp hb
    rw [List.getElem?_drop] at hm
    have hml := (List.getElem?_eq_some_iff.mp hm).1
    have hbm := List.mem_of_getElem? hm
    rcases List.mem_append.mp ha2 with z | z
    · obtain ⟨k, hk, hy⟩ := tk z
      exact asc_lt ha hy hm (by omega)
    · rw [List.mem_singleton.mp z]
      rcases dlt_total (al b hbm) pd (pr b hbm) (fun q => nd (q ▸ hbm)) with u | u
      · exact u
      · rw [h3 _ b (by omega) hml hm] at u
        cases u
theorem pl_mem {x : PyData} : x ∈ rs.take pl ++ [d] ++ rs.drop pl ↔ x ∈ rs ∨ x = d := by
  have : x ∈ rs ↔ x ∈ rs.take pl ∨ x ∈ rs.drop pl := by rw [← List.mem_append, List.take_append_drop]
  rw [this]
  simp only [List.mem_append, List.mem_singleton]
  exact ⟨fun h => h.elim (fun h => h.elim (fun h => .inl (.inl h)) .inr) fun h => .inl (.inr h), fun h => h.elim (fun h => h.elim (fun h => .inl (.inl h)) .inr) fun h => .inl (.inr h)⟩
theorem any_no (h : (!rs.any fun z => PyData.eqv z d) = true) (pd : pureD d = true) : d ∉ rs := fun hm => by
  have : (rs.any fun z => PyData.eqv z d) = true := List.any_eq_true.mpr ⟨d, hm, (eqv_iff pd pd).mpr rfl⟩
  rw [this] at h
  cases h
theorem any_yes (h : (!rs.any fun z => PyData.eqv z d) = false) (pd : pureD d = true) (pr : ∀ e ∈ rs, pureD e = true) : d ∈ rs := by
  have h2 : (rs.any fun z => PyData.eqv z d) = true := by simpa using h
  obtain ⟨z, hz, he⟩ := List.any_eq_true.mp h2
  exact (eqv_iff (pr z hz) pd).mp he ▸ hz
theorem mem_take1 {es : List PyData} {i : Nat} {x : PyData} (hd : es[i]? = some d) : x ∈ es.take (i + 1) ↔ x ∈ es.take i ∨ x = d := by
  rw [List.take_add_one, hd, List.mem_append]
  simp
end
/-- data that can be put in order -/
def Ord (es : List PyData) : Prop := ∀ d ∈ es, (pureD d = true ∧ d.depth ≤ 20) ∧ ∀ e ∈ es, alike d e = true
theorem ok__law_sorted (T : Txt K mg) : Fn P w K mg base 1 "_law_sorted" ["values"] (fun vs H Q _ => ∃ (p : Addr) (out : List V) (es : List PyData), vs = [.ref p] ∧ SqL K H p out ∧ DpAll K H out es ∧ Ord es ∧ es.length ≤ 10000 ∧
    ∀ H' q out' es', Same H H' → H' q = some (.lst out') → DpAll K H' out' es' → AscD es' → (∀ d, d ∈ es' ↔ d ∈ es) → es'.length ≤ es.length → Q (.ref q) H') := by
  refine T.d__law_sorted.ok sc__law_sorted (by rintro vs H Q E ⟨_, _, _, rfl, _⟩; rfl) (fun f cdv A outer s H vs Q E hr h => ?_)
  obtain ⟨p, out, es, rfl, hL, hD, hO, hl, k⟩ := h
  refine ⟨_, (pss_cons (ps_set (i := 1) sc__law_sorted.nd rfl (by first | exact .inl rfl | exact .inr rfl) (pe_lst pa_nil))
  (pss_cons (ps_for PassesOwn.never rfl (pi_list (pv 0)) (pg_name (i := 2) sc__law_sorted.nd rfl (.inl rfl))
  (pss_cons (ps_set (i := 3) sc__law_sorted.nd rfl (by first | exact .inl rfl | exact .inr rfl) pe_int)
  (pss_cons (ps_for PassesOwn.never rfl (pi_list (pv 1)) (pg_name (i := 4) sc__law_sorted.nd rfl (.inl rfl))
  (pss_one (ps_if (pt_cmpR (op_ltD hr.units) (pv 4) (pv 2) (nomark _))
  (pss_one (ps_set (i := 3) sc__law_sorted.nd rfl (by first | exact .inl rfl | exact .inr rfl) (pe_op op_add (pv 3) pe_int)))
  pss_nil)))
  (pss_one (ps_if (pt_cmpR (op_notInD (units65 hr)) (pv 2) (pv 1) (by first | rfl | with_unfolding_all rfl))
  (pss_one (ps_expr (pe_bm PySem.F.plainAttrs_list PySem.F.slot_list_insert PySem.F.type_list_insert mt_ins (pv 1) (pa_cons (pv 3) (pa_cons (pv 2) pa_nil)))))
  pss_nil)))))
  (pss_one (ps_ret (pv 1))))), ?_⟩
  have hol := dpAll_len hD
  walk_at "en"
  intro q H1 n1 e1 hq
  walk_at "rd"
  refine loopL (xs := out) (fun i σ' H' => (∃ (v2 v3 v4 : Option V) (row : List V) (rs : List PyData), σ' = [some (.ref p), some (.ref q), v2, v3, v4] ∧ H' q = some (.lst row) ∧ DpAll K H' row rs ∧ (∀ e ∈ rs, e ∈ es) ∧ rs.length ≤ i ∧ AscD rs ∧ ∀ x, x ∈ rs ↔ x ∈ es.take i) ∧ Same H H') ⟨⟨_, _, _, [], [], rfl, hq, .nil, (fun _ h => by cases h), Nat.le_refl _, .nil, fun x => by simp⟩, e1⟩ (by rintro i σ' H' _ ⟨_, e⟩; exact ex_l e hL) ?_ ?_
  · rintro i v σ' H2 hi ⟨⟨v2, v3, v4, row, rs, rfl, hq2, hR, hm, hl2, hasc, hmem⟩, e2⟩
    obtain ⟨d, hd, hv⟩ := dpAll_mem hD hi
    have hi' : i < out.length := (List.getElem?_eq_some_iff.mp hi).1
    have hdm := List.mem_of_getElem? hd
    have hv2 := dp_ex e2 _ _ hv
    have hrl := dpAll_len hR
    walk_at "rd"
    refine loopL (xs := row) (fun j σ' H' => (∃ (v4 : Option V) (pl : Nat), σ' = [some (.ref p), some (.ref q), some v, some (.int (pl : Nat)), v4] ∧ PlI rs d j pl) ∧ H' = H2) ⟨⟨_, 0, rfl, pl_start⟩, rfl⟩ (by rintro j σ' H' _ ⟨_, rfl⟩; exact SqL.of hq2) ?_ ?_
    · rintro j u σ' H3 hj ⟨⟨w4, pl, rfl, hpl⟩, rfl⟩
      obtain ⟨e, he, hu⟩ := dpAll_mem hR hj
      have hem := hm e (List.mem_of_getElem? he)
      walk_at "rd"
      refine r_ltP hu hv2 ((hO e hem).2 d hdm) (hO e hem).1.1 (by have := (hO e hem).1.2; omega) ?_
      walk_at "rd"
      cases hlt : dataLt e d with
      | true =>
        walk_at "rd"
        refine ⟨⟨_, pl + 1, rfl, pl_yes hasc hpl he hlt⟩, rfl⟩
      | false =>
        walk_at "rd"
        exact ⟨⟨_, pl, rfl, pl_no hpl he hlt⟩, rfl⟩
    · rintro σ' H3 ⟨⟨w4, pl, rfl, hpl⟩, rfl⟩
      rw [hrl] at hpl
      have hpl1 := hpl.1
      have prs : ∀ e ∈ rs, pureD e = true := fun e he => (hO e (hm e he)).1.1
      walk_at "rd"
      refine r_notInP hv2 (SqL.of hq2) hR (hO d hdm).1.1 (by have := (hO d hdm).1.2; omega) (fun e he => ⟨(hO e (hm e he)).1.1, by have := (hO e (hm e he)).1.2; omega⟩) ?_
      walk_at "rd"
      cases hany : (!rs.any fun z => PyData.eqv z d) with
      | true =>
        walk_at "rd"
        refine r_isL hq2 ?_
        walk_at "rd"
        refine r_ins1 hq2 (by omega) (by omega) (by omega) fun H4 b4 h4 => ?_
        have pR : pureAll rs = true := (pureAll_iff rs).mpr fun e he => (hO e (hm e he)).1.1
        have nt := noTup_l hq2
        have hR4 := dpAll_but b4 nt _ _ pR hR
        rw [Int.toNat_natCast] at h4
        refine ⟨⟨_, _, _, _, _, rfl, h4, dpAll_app (dpAll_app (dpAll_take pl hR4) (.cons (dp_but b4 nt _ _ (hO d hdm).1.1 hv2) .nil)) (dpAll_drop pl hR4), fun e he => ?_, ?_, pl_asc hasc hpl (any_no hany (hO d hdm).1.1) (fun e he => (hO d hdm).2 e (hm e he)) (hO d hdm).1.1 prs, fun x => pl_mem.trans (((or_congr (hmem x) Iff.rfl)).trans (mem_take1 hd).symm)⟩, same_but e2 b4 n1⟩
        · rcases List.mem_append.mp he with he | he
          · rcases List.mem_append.mp he with he | he
            · exact hm e (List.mem_of_mem_take he)
            · rw [List.mem_singleton.mp he]; exact hdm
          · exact hm e (List.mem_of_mem_drop he)
        · simp
          omega
      | false =>
        walk_at "rd"
        exact ⟨⟨_, _, _, row, rs, rfl, hq2, hR, hm, by omega, hasc, fun x => ⟨fun z => (mem_take1 hd).mpr (.inl ((hmem x).mp z)), fun z => ((mem_take1 hd).mp z).elim (hmem x).mpr fun z => z ▸ any_yes hany (hO d hdm).1.1 prs⟩⟩, e2⟩
  · rintro σ' H2 ⟨⟨v2, v3, v4, row, rs, rfl, hq2, hR, hm, hl2, hasc, hmem⟩, e2⟩
    walk_at "rd"
    exact k H2 q row rs e2 hq2 hR hasc (fun x => by rw [hmem x, List.take_of_length_le (by omega)]) (by omega)

theorem strs_depth (zs : List Str) : (dT zs).depth ≤ 1 := by
  show (PyData.tuple (zs.map PyData.str)).depth ≤ 1
  simp [PyData.depth, depth_strs]
theorem fit_strs {zs : List Str} (h : ∀ z ∈ zs, Asc z ∧ z.length ≤ 200) (hl : zs.length ≤ 20) : FitD (dT zs) := .tup _ (by rw [List.length_map]; exact hl) fun d hd => by
  obtain ⟨z, hz, rfl⟩ := List.mem_map.mp hd
  exact .str z (h z hz).1 (h z hz).2
theorem nmG.fit {d : PyData} (h : nmG d) : FitD d ∧ d.depth ≤ 1 := by
  have hw := h.toW.pure.2
  obtain ⟨zs, rfl, hn⟩ := h
  exact ⟨fit_strs (fun z hz => by have := name_asc hn hz; exact ⟨this.2, by omega⟩) (by have := name_len hn; omega), hw⟩
theorem int_small {i : Int} (h : -(10 ^ 40 : Int) ≤ i ∧ i ≤ 10 ^ 40) : i.natAbs < 10 ^ 100 := by
  have h1 : (10 ^ 40 : Nat) < 10 ^ 100 := by decide +kernel
  have h2 : (10 ^ 40 : Int) = ((10 ^ 40 : Nat) : Int) := by norm_cast
  omega
theorem fit_pair {a b : PyData} (ha : FitD a ∧ a.depth ≤ 1) (hb : FitD b ∧ b.depth ≤ 1) : FitD (.tuple [a, b]) ∧ (PyData.tuple [a, b]).depth ≤ 2 := by
  refine ⟨.tup _ (by simp) fun d hd => ?_, ?_⟩
  · simp only [List.mem_cons, List.not_mem_nil, or_false] at hd
    rcases hd with rfl | rfl
    · exact ha.1
    · exact hb.1
  · have := (depthAll_iff 1 [a, b]).mpr fun d hd => by
      simp only [List.mem_cons, List.not_mem_nil, or_false] at hd
      rcases hd with rfl | rfl
      · exact ha.2
      · exact hb.2
    simp only [PyData.depth]
    omega
theorem fitI {i : Int} (h : i.natAbs < 10 ^ 100) : FitD (.int i) ∧ (PyData.int i).depth ≤ 1 := ⟨.int i h, by simp [PyData.depth]⟩
theorem wd_small {i : Int} (h : WdB i = true) : i.natAbs < 10 ^ 100 := by
  have h2 : 0 ≤ i ∧ i ≤ 4294967295 := of_decide_eq_true h
  exact Nat.lt_of_le_of_lt (m := 4294967295) (by omega) (by decide +kernel)
theorem pick_ord : ∀ b : Nat, b < 512 → KN.filter (fun z => inV (.str z) ((pick b).map V.str)) = pick b := by decide +kernel
/-- what is a value is one, and small -/
theorem vlG.toR {κ : Str} {d : PyData} (h : vlG κ d) : VlR κ d true ∧ FitD d ∧ d.depth ≤ 2 := by
  unfold vlG at h
  unfold VlR
  split
  · rename_i c; rw [if_pos c] at h
    obtain ⟨z, rfl, h1, h2⟩ := h
    have hz : z.length ≤ 60 := by
      unfold txtB at h2
      simp only [Bool.and_eq_true, decide_eq_true_eq] at h2
      exact h2.1
    exact ⟨⟨z, rfl, h1, by omega, h2.symm⟩, .str z h1 (by omega), by simp [PyData.depth]⟩
  rename_i c; rw [if_neg c] at h
  split
  · rename_i c; rw [if_pos c] at h
    obtain ⟨i, n, rfl, h1, i0, i1⟩ := h
    obtain ⟨zs, hlb, hnb⟩ := h1.lb
    exact ⟨⟨i, n, zs, rfl, hlb, by rw [hnb, decide_eq_true ⟨i0, i1⟩]; rfl⟩, fit_pair (fitI (Nat.lt_of_le_of_lt (m := 65535) (by omega) (by decide +kernel))) h1.fit⟩
  rename_i c; rw [if_neg c] at h
  split
  · rename_i c; rw [if_pos c] at h
    obtain ⟨zs, hlb, hnb⟩ := nmG.lb h
    exact ⟨⟨zs, hlb, hnb.symm⟩, h.fit.1, Nat.le_trans h.fit.2 (by decide)⟩
  rename_i c; rw [if_neg c] at h
  split
  · rename_i c; rw [if_pos c] at h
    obtain ⟨i, j, rfl, hi, hj⟩ := h
    exact ⟨⟨i, j, rfl, by rw [hi, hj]; rfl⟩, fit_pair (fitI (wd_small hi)) (fitI (wd_small hj))⟩
  rename_i c; rw [if_neg c] at h
  split
  · rename_i c; rw [if_pos c] at h
    obtain ⟨n, b, rfl, h1, h2⟩ := h
    obtain ⟨zs, hlb, hnb⟩ := h1.lb
    have pf := pick_fact b
    have pA : ∀ k ∈ pick b, Asc k ∧ k.length ≤ 7 := fun k hk => KN_asc k (pf.1 k hk)
    have pp := (show nameD (dT (pick b)) from ⟨_, rfl, fun k hk => (pA k hk).1, by have := pf.2; omega⟩).pure
    have ho : ordB (pick b) = true := by
      unfold ordB
      rw [pick_ord b h2]
      exact (eqv_iff pp.1 pp.1).mpr rfl
    exact ⟨⟨n, zs, pick b, rfl, hlb, ⟨by have := pf.2; omega, fun k hk => (pA k hk).1⟩, by rw [hnb, ho]; rfl⟩, fit_pair h1.fit ⟨fit_strs (fun k hk => ⟨(pA k hk).1, by have := (pA k hk).2; omega⟩) (by have := pf.2; omega), pp.2⟩⟩
  rename_i c; rw [if_neg c] at h
  obtain ⟨i, rfl, hi⟩ := h
  exact ⟨⟨i, rfl, hi.symm⟩, (fitI (wd_small hi)).1, by simp [PyData.depth]⟩

theorem strs_inj : ∀ {zs ws : List Str}, zs.map PyData.str = ws.map PyData.str → zs = ws
  | [], [], _ => rfl
  | [], _ :: _, h => by cases h
  | _ :: _, [], h => by cases h
  | z :: zs, w :: ws, h => by
    simp only [List.map_cons, List.cons.injEq, PyData.str.injEq] at h
    rw [h.1, strs_inj h.2]
theorem dT_inj {zs ws : List Str} (h : dT zs = dT ws) : zs = ws := strs_inj (PyData.tuple.inj h)
theorem LbD.uniq {d : PyData} {zs ws : List Str} (h : LbD d zs) (g : LbD d ws) : zs = ws := dT_inj (h.1.symm.trans g.1)
theorem VlR.uniq {κ : Str} {d : PyData} {b c : Bool} (h : VlR κ d b) (g : VlR κ d c) : b = c := by
  unfold VlR at h g
  split at h
  · rename_i q; rw [if_pos q] at g
    obtain ⟨z, rfl, _, _, rfl⟩ := h
    obtain ⟨y, e, _, _, rfl⟩ := g
    cases e; rfl
  rename_i q; rw [if_neg q] at g
  split at h
  · rename_i q; rw [if_pos q] at g
    obtain ⟨i, n, zs, rfl, h1, rfl⟩ := h
    obtain ⟨j, m, ws, e, g1, rfl⟩ := g
    cases e
    rw [h1.uniq g1]
  rename_i q; rw [if_neg q] at g
  split at h
  · rename_i q; rw [if_pos q] at g
    obtain ⟨zs, h1, rfl⟩ := h
    obtain ⟨ws, g1, rfl⟩ := g
    rw [h1.uniq g1]
  rename_i q; rw [if_neg q] at g
  split at h
  · rename_i q; rw [if_pos q] at g
    obtain ⟨i, j, rfl, rfl⟩ := h
    obtain ⟨i2, j2, e, rfl⟩ := g
    cases e; rfl
  rename_i q; rw [if_neg q] at g
  split at h
  · rename_i q; rw [if_pos q] at g
    obtain ⟨n, zs, ks, rfl, h1, _, rfl⟩ := h
    obtain ⟨m, ws, ls, e, g1, _, rfl⟩ := g
    have e2 := PyData.tuple.inj e
    simp only [List.cons.injEq, and_true] at e2
    obtain ⟨rfl, e3⟩ := e2
    rw [h1.uniq g1, dT_inj e3]
  rename_i q; rw [if_neg q] at g
  obtain ⟨i, rfl, rfl⟩ := h
  obtain ⟨j, e, rfl⟩ := g
  cases e; rfl
theorem ok__law_is_word (T : Txt K mg) : Fn P w K mg base 1 "_law_is_word" ["number"] (fun vs H Q _ => ∃ i : Int, vs = [.int i] ∧ Q (.bl (WdB i)) H) := by
  refine T.d__law_is_word.ok sc__law_is_word (by rintro vs H Q E ⟨_, rfl, _⟩; rfl) (fun f cdv A outer s H vs Q E hr h => ?_)
  obtain ⟨i, rfl, k⟩ := h
  refine ⟨_, (pss_one (ps_ret (pe_and (pe_cmpR op_le pe_int (pv 0) (nomark _)) (pe_one (pe_cmpR op_le (pv 0) pe_int (nomark _)))))), ?_⟩
  unfold WdB at k
  walk_at "en"
  by_cases h0 : 0 ≤ i
  · rw [decide_eq_true h0]
    walk_at "rd"
    have e : decide (0 ≤ i ∧ i ≤ 4294967295) = decide (i ≤ 4294967295) := decide_eq_decide.mpr ⟨fun z => z.2, fun z => ⟨h0, z⟩⟩
    rw [e] at k
    exact k
  · rw [decide_eq_false h0]
    walk_at "rd"
    rw [decide_eq_false (fun z => h0 z.1)] at k
    exact k

theorem ok__law_odd_number (T : Txt K mg) : Fn P w K mg base 2 "_law_odd_number" ["source", "most"] (fun vs H Q _ => ∃ (a : Addr) (m : Int), vs = [.ref a, .int m] ∧ Src H a ∧ 0 ≤ m ∧ m ≤ 4294967295 ∧ ∀ H' i, But a H H' → Src H' a → (i < 0 ∨ m < i) → i.natAbs < 10 ^ 100 → Q (.int i) H') := by
  refine T.d__law_odd_number.ok sc__law_odd_number (by rintro vs H Q E ⟨_, _, rfl, _⟩; rfl) (fun f cdv A outer s H vs Q E hr h => ?_)
  obtain ⟨a, m, rfl, hS, m0, m1, k⟩ := h
  refine ⟨_, (pss_cons (ps_set (i := 2) sc__law_odd_number.nd rfl (by first | exact .inl rfl | exact .inr rfl) (pe_op op_add (pe_fn (ok__law_draw T) hr (by rfl) (pa_cons (pv 0) (pa_cons pe_int pa_nil))) (pe_op op_pow pe_int pe_int)))
  (pss_one (ps_ret (pe_ix ix_list (pe_lst (pa_cons (pe_un un_neg pe_int) (pa_cons (pe_op op_add (pv 1) pe_int) (pa_cons (pe_op op_sub (pe_un un_neg pe_int) (pv 1)) (pa_cons (pv 2) (pa_cons (pe_un un_neg (pv 2)) (pa_cons (pe_op op_add (pe_op op_mul pe_int (pv 1)) pe_int) pa_nil))))))) (pe_fn (ok__law_draw T) hr (by rfl) (pa_cons (pv 0) (pa_cons pe_int pa_nil))) (fun _ _ => rfl))))), ?_⟩
  walk_at "en"
  refine r_draw hS (by decide) (by decide) fun H1 d b1 s1 d0 d1 => ?_
  walk_at "rd"
  intro p H2 n2 e2 hp
  walk_at "rd"
  refine r_draw (s1.ex e2) (by decide) (by decide) fun H3 c b3 s3 c0 c1 => ?_
  have hpa : p ≠ a := by
    rintro rfl
    obtain ⟨xs, h⟩ := s1.lst
    rw [n2] at h; cases h
  have e30 : (10 : Int) ^ Int.toNat 30 = 1000000000000000000000000000000 := by decide +kernel
  rw [e30] at hp
  obtain ⟨v, hv, ha, _⟩ := atI_in (xs := [-1, m + 1, -1 - m, d + 1000000000000000000000000000000, -(d + 1000000000000000000000000000000), 2 * m + 2].map V.int) c0 c1
  refine r_ixL (SqL.of (b3 _ _ hpa hp)) ha ?_
  obtain ⟨i, hi, rfl⟩ := List.mem_map.mp hv
  simp only [List.mem_cons, List.not_mem_nil, or_false] at hi
  refine k _ _ ((b1.same' e2).trans b3) s3 ?_ ?_
  · rcases hi with rfl | rfl | rfl | rfl | rfl | rfl <;> omega
  · refine Nat.lt_of_le_of_lt (m := 2000000000000000000000000000000) ?_ (by decide +kernel)
    rcases hi with rfl | rfl | rfl | rfl | rfl | rfl <;> omega

def W13 : List Str := ["address", "text", "mail", "alias", "server", "start", "key", "link", "gap", "", "gaps", "Address", "a"]
theorem W13_asc : ∀ z ∈ W13, Asc z ∧ z.length ≤ 7 := by decide +kernel
theorem ok__law_odd_kinds (T : Txt K mg) : Fn P w K mg base 2 "_law_odd_kinds" ["source"] (fun vs H Q _ => ∃ a : Addr, vs = [.ref a] ∧ Src H a ∧ ∀ H' t ks, But a H H' → Src H' a → SqT K H' t (ks.map V.str) → KsD ks → (∀ z ∈ ks, z.length ≤ 7) → Q (.ref t) H') := by
  refine T.d__law_odd_kinds.ok sc__law_odd_kinds (by rintro vs H Q E ⟨_, rfl, _⟩; rfl) (fun f cdv A outer s H vs Q E hr h => ?_)
  obtain ⟨a, rfl, hS, k⟩ := h
  refine ⟨_, (pss_cons (ps_set (i := 1) sc__law_odd_kinds.nd rfl (by first | exact .inl rfl | exact .inr rfl) (pe_op op_cat (pe_fn0 (ok__law_kinds T) hr (by rfl)) (pe_lst (pa_cons pe_str (pa_cons pe_str (pa_cons pe_str (pa_cons pe_str pa_nil)))))))
  (pss_cons (ps_set (i := 2) sc__law_odd_kinds.nd rfl (by first | exact .inl rfl | exact .inr rfl) (pe_lst pa_nil))
  (pss_cons (ps_for PassesOwn.never rfl (pi_range1 rfl T.m_range (pa_cons (pe_op op_add pe_int (pe_fn (ok__law_draw T) hr (by rfl) (pa_cons (pv 0) (pa_cons pe_int pa_nil)))) pa_nil)) (pg_name (i := 3) sc__law_odd_kinds.nd rfl (.inl rfl))
  (pss_one (ps_expr (pe_bm PySem.F.plainAttrs_list PySem.F.slot_list_append PySem.F.type_list_append mt_append (pv 2) (pa_cons (pe_ix ix_list (pv 1) (pe_fn (ok__law_draw T) hr (by rfl) (pa_cons (pv 0) (pa_cons pe_int pa_nil))) (fun _ _ => rfl)) pa_nil)))))
  (pss_one (ps_ret (pe_callTy cTupOf (by rfl) T.m_tuple (by decide +kernel) (pa_cons (pv 2) pa_nil))))))), ?_⟩
  walk_at "en"
  refine ⟨rfl, fun H1 p e1 n1 hp => ?_⟩
  walk_at "rd"
  intro p2 H2 n2 e2 hp2
  walk_at "rd"
  refine r_cat (e2 _ _ hp) hp2 (by decide) fun p3 H3 n3 e3 hp3 => ?_
  have hp3 : H3 p3 = some (.lst (W13.map V.str)) := hp3
  walk_at "rd"
  intro q H4 n4 e4 hq
  have e04 := ((e1.trans e2).trans e3).trans e4
  have s4 := hS.ex e04
  have nq := fresh_back ((e1.trans e2).trans e3) n4
  have hqa : q ≠ a := by
    rintro rfl
    obtain ⟨xs, h⟩ := hS.lst
    rw [nq] at h; cases h
  have hp3a : p3 ≠ a := by
    rintro rfl
    obtain ⟨xs, h⟩ := (hS.ex (e1.trans e2)).lst
    rw [n3] at h; cases h
  have hqp : q ≠ p3 := by rintro rfl; rw [n4] at hp3; cases hp3
  walk_at "rd"
  refine r_draw s4 (by decide) (by decide) fun H5 d5 b5 s5 d50 d51 => ?_
  walk_at "rd"
  refine loopR (fun i σ' H' => (∃ v3, σ' = [some (.ref a), some (.ref p3), some (.ref q), v3]) ∧ But a H H' ∧ Src H' a ∧ H' p3 = some (.lst (W13.map V.str)) ∧ ∃ ks : List Str, H' q = some (.lst (ks.map V.str)) ∧ ks.length = i ∧ ∀ z ∈ ks, z ∈ W13) ⟨⟨_, rfl⟩, (But.of e04).trans b5, s5, b5 _ _ hp3a (e4 _ _ hp3), [], b5 _ _ hqa hq, rfl, by simp⟩ ?_ ?_
  · rintro i σ' H6 hi ⟨⟨v3, rfl⟩, b6, s6, h36, ks, hq6, hl, hk⟩
    walk_at "rd"
    refine r_append hq6 ?_
    walk_at "rd"
    refine r_draw s6 (by decide) (by decide) fun H7 d7 b7 s7 d70 d71 => ?_
    obtain ⟨v, hv, ha, _⟩ := atI_in (xs := W13.map V.str) d70 d71
    obtain ⟨z, hz, rfl⟩ := List.mem_map.mp hv
    refine r_ixL (SqL.of (b7 _ _ hp3a h36)) ha ?_
    walk_at "rd"
    have hq7 := b7 _ _ hqa hq6
    refine r_append1 hq7 (by rw [List.length_map]; omega) fun H8 b8 h8 => ?_
    refine ⟨⟨_, rfl⟩, (b6.trans b7).step b8 nq, s7.but b8 hqa.symm, b8 _ _ hqp.symm (b7 _ _ hp3a h36), ks ++ [z], by rw [h8, List.map_append]; rfl, by simp [hl], fun y hy => ?_⟩
    rcases List.mem_append.mp hy with hy | hy
    · exact hk y hy
    · rw [List.mem_singleton.mp hy]; exact hz
  · rintro σ' H6 ⟨⟨v3, rfl⟩, b6, s6, h36, ks, hq6, hl, hk⟩
    walk_at "rd"
    refine r_tupOf (SqL.of hq6) fun t H7 n7 e7 ht => ?_
    exact k H7 t ks (b6.same' e7) (s6.ex e7) (SqT.of ht) ⟨by omega, fun z hz => (W13_asc z (hk z hz)).1⟩ fun z hz => (W13_asc z (hk z hz)).2

/-! ### odd labels -/
theorem src_ne {H : Hp} {a q : Addr} (s : Src H a) (n : H q = none) : q ≠ a := by
  rintro rfl
  obtain ⟨xs, h⟩ := s.lst
  rw [n] at h; cases h
theorem src_noTup {H : Hp} {a : Addr} (s : Src H a) : NoTup H a := by
  obtain ⟨xs, h⟩ := s.lst
  exact noTup_l h
def OddL (zs : List Str) : Prop := ∀ z ∈ zs, Asc z ∧ z.length ≤ 21
def OddV (K : PySem.W.Frag) (H : Hp) (v : V) : Prop := ∃ t zs, v = .ref t ∧ SqT K H t (zs.map V.str) ∧ zs.length ≤ 14 ∧ OddL zs
theorem OddL.ins {zs : List Str} {z : Str} (h : OddL zs) (hz : Asc z ∧ z.length ≤ 21) (n : Nat) : OddL (zs.take n ++ [z] ++ zs.drop n) := fun y hy => by
  rcases List.mem_append.mp hy with hy | hy
  · rcases List.mem_append.mp hy with hy | hy
    · exact h y (List.mem_of_mem_take hy)
    · rw [List.mem_singleton.mp hy]; exact hz
  · exact h y (List.mem_of_mem_drop hy)
theorem OddL.snoc {zs : List Str} {z : Str} (h : OddL zs) (hz : Asc z ∧ z.length ≤ 21) : OddL (zs ++ [z]) := fun y hy => by
  rcases List.mem_append.mp hy with hy | hy
  · exact h y hy
  · rw [List.mem_singleton.mp hy]; exact hz
theorem plain_odd {z : Str} (h : plainB z = true) : Asc z ∧ z.length ≤ 21 := by
  obtain ⟨h1, h2⟩ := plain_iff.mp h
  have key : ∀ c ∈ CH.cps.toList, c < 128 := by decide +kernel
  exact ⟨fun c hc => key c (h2 c hc), by omega⟩
theorem name_odd {zs : List Str} (h : nameB zs = true) : OddL zs := fun z hz => by
  have := name_asc h hz
  exact ⟨this.2, by omega⟩
def O9 : List Str := ["", "aaaaaaaaaaaaaaaaaaaaa", "A", "a.b", "**", "a*", " ", "a_b", "~"]
theorem O9_asc : ∀ z ∈ O9, Asc z ∧ z.length ≤ 21 := by decide +kernel
theorem star_odd : Asc ("*" : Str) ∧ ("*" : Str).length ≤ 21 := by decide +kernel
theorem ins_map (zs : List Str) (z : Str) (n : Nat) : (zs.map V.str).take n ++ [V.str z] ++ (zs.map V.str).drop n = (zs.take n ++ [z] ++ zs.drop n).map V.str := by
  rw [List.map_append, List.map_append, List.map_take, List.map_drop]
  rfl
theorem ins_len {α : Type} (zs : List α) (z : α) (n : Nat) : (zs.take n ++ [z] ++ zs.drop n).length = zs.length + 1 := by
  simp only [List.length_append, List.length_take, List.length_drop, List.length_cons, List.length_nil]
  omega
theorem ok__law_odd_labels (T : Txt K mg) : Fn P w K mg base 4 "_law_odd_labels" ["source"] (spDrawn (OddV K)) := by
  refine T.d__law_odd_labels.ok sc__law_odd_labels (by rintro vs H Q E ⟨_, rfl, _⟩; rfl) (fun f cdv A outer s H vs Q E hr h => ?_)
  obtain ⟨a, rfl, hS, k⟩ := h
  refine ⟨_, (pss_cons (ps_set (i := 1) sc__law_odd_labels.nd rfl (by first | exact .inl rfl | exact .inr rfl) (pe_callTy cListOf (by rfl) T.m_list (by decide +kernel) (pa_cons (pe_fn (ok__law_name T) hr (by rfl) (pa_cons (pv 0) pa_nil)) pa_nil)))
  (pss_cons (ps_set (i := 2) sc__law_odd_labels.nd rfl (by first | exact .inl rfl | exact .inr rfl) (pe_fn (ok__law_draw T) (hr.mono (by decide)) (by rfl) (pa_cons (pv 0) (pa_cons pe_int pa_nil))))
  (pss_cons (ps_if (pt_cmpR op_eq (pv 2) pe_int (nomark _))
  (pss_cons (ps_while PassesOwn.never (pt_cmpR op_lt (pe_callB cLenQ (by rfl) T.m_len PySem.boot_len (pa_cons (pv 1) pa_nil)) pe_int (nomark _))
  (pss_one (ps_expr (pe_bm PySem.F.plainAttrs_list PySem.F.slot_list_insert PySem.F.type_list_insert mt_ins (pv 1) (pa_cons pe_int (pa_cons (pe_fn (ok__law_label T) (hr.mono (by decide)) (by rfl) (pa_cons (pv 0) pa_nil)) pa_nil))))))
  (pss_one (ps_ret (pe_callTy cTupOf (by rfl) T.m_tuple (by decide +kernel) (pa_cons (pv 1) pa_nil)))))
  pss_nil)
  (pss_cons (ps_set (i := 3) sc__law_odd_labels.nd rfl (by first | exact .inl rfl | exact .inr rfl) (pe_op op_mod (pe_callTy cInt (by rfl) T.m_int (by decide +kernel) (pa_cons (pe_fn (ok__law_draw T) (hr.mono (by decide)) (by rfl) (pa_cons (pv 0) (pa_cons pe_int pa_nil))) pa_nil)) (pe_op op_add (pe_callB cLenQ (by rfl) T.m_len PySem.boot_len (pa_cons (pv 1) pa_nil)) pe_int)))
  (pss_cons (ps_if (pt_cmpR op_eq (pv 2) pe_int (nomark _))
  (pss_cons (ps_expr (pe_bm PySem.F.plainAttrs_list PySem.F.slot_list_insert PySem.F.type_list_insert mt_ins (pv 1) (pa_cons (pv 3) (pa_cons pe_str pa_nil))))
  (pss_cons (ps_expr (pe_bm PySem.F.plainAttrs_list PySem.F.slot_list_append PySem.F.type_list_append mt_append (pv 1) (pa_cons (pe_fn (ok__law_label T) (hr.mono (by decide)) (by rfl) (pa_cons (pv 0) pa_nil)) pa_nil)))
  (pss_one (ps_ret (pe_callTy cTupOf (by rfl) T.m_tuple (by decide +kernel) (pa_cons (pv 1) pa_nil))))))
  pss_nil)
  (pss_cons (ps_set (i := 4) sc__law_odd_labels.nd rfl (by first | exact .inl rfl | exact .inr rfl) (pe_ix ix_list (pe_lst (pa_cons pe_str (pa_cons pe_str (pa_cons pe_str (pa_cons pe_str (pa_cons pe_str (pa_cons pe_str (pa_cons pe_str (pa_cons pe_str (pa_cons pe_str pa_nil)))))))))) (pe_fn (ok__law_draw T) (hr.mono (by decide)) (by rfl) (pa_cons (pv 0) (pa_cons pe_int pa_nil))) (fun _ _ => rfl)))
  (pss_cons (ps_expr (pe_bm PySem.F.plainAttrs_list PySem.F.slot_list_insert PySem.F.type_list_insert mt_ins (pv 1) (pa_cons (pv 3) (pa_cons (pv 4) pa_nil))))
  (pss_one (ps_ret (pe_callTy cTupOf (by rfl) T.m_tuple (by decide +kernel) (pa_cons (pv 1) pa_nil))))))))))), ?_⟩
  walk_at "en"
  refine r_drawn hS fun H1 v b1 s1 hv => ?_
  obtain ⟨p, zs, rfl, hp, hn⟩ := hv
  have hA := name_odd hn
  have hl := name_len hn
  walk_at "rd"
  refine r_listOf (.inr hp) fun q H2 n2 e2 hq => ?_
  walk_at "rd"
  have hqa := src_ne s1 n2
  have nq : H q = none := but_fresh b1 hqa n2
  refine r_draw (s1.ex e2) (by decide) (by decide) fun H3 d b3 s3 d0 d1 => ?_
  have b03 : But a H H3 := (b1.same' e2).trans b3
  have hq3 := b3 _ _ hqa hq
  walk_at "rd"
  walk_at "sp" <;> intro h0
  · walk_at "rd"
    refine ⟨fun m σ' H' => ∃ zs : List Str, σ' = [some (.ref a), some (.ref q), some (.int d), none, none] ∧ But a H H' ∧ Src H' a ∧ H' q = some (.lst (zs.map V.str)) ∧ zs.length ≤ 13 ∧ OddL zs ∧ m = 13 - zs.length, ⟨_, zs, rfl, b03, s3, hq3, by omega, hA, rfl⟩, ?_⟩
    rintro m σ' H4 ⟨zs, rfl, b4, s4, hq4, hl4, hA4, rfl⟩
    walk_at "rd"
    walk_at "sp" <;> intro h5
    · rw [List.length_map] at h5
      refine ⟨fun σ' H' => ∃ m', m' < 13 - zs.length ∧ ∃ zs : List Str, σ' = [some (.ref a), some (.ref q), some (.int d), none, none] ∧ But a H H' ∧ Src H' a ∧ H' q = some (.lst (zs.map V.str)) ∧ zs.length ≤ 13 ∧ OddL zs ∧ m' = 13 - zs.length, fun _ _ h => h, ?_⟩
      walk_at "rd"
      refine r_isL hq4 ?_
      walk_at "rd"
      refine r_drawn s4 fun H5 v5 b5 s5 hv5 => ?_
      obtain ⟨y, rfl, hy⟩ := hv5
      walk_at "rd"
      refine r_ins1 (b5 _ _ hqa hq4) (by rw [List.length_map]; omega) (by decide) (by decide) fun H6 b6 h6 => ?_
      rw [ins_map] at h6
      have hi := ins_len zs y (0 : Int).toNat
      exact ⟨_, (by omega : 13 - (zs.take (0 : Int).toNat ++ [y] ++ zs.drop (0 : Int).toNat).length < 13 - zs.length), _, rfl, (b4.trans b5).step b6 nq, s5.but b6 hqa.symm, h6, by omega, hA4.ins (plain_odd hy) _, rfl⟩
    · walk_at "rd"
      refine r_tupOf (SqL.of hq4) fun t H7 n7 e7 ht => ?_
      exact k H7 _ (b4.same' e7) (s4.ex e7) ⟨t, zs, rfl, SqT.of ht, by omega, hA4⟩
  walk_at "rd"
  refine r_draw s3 (by decide) (by decide) fun H4 d4 b4 s4 d40 d41 => ?_
  have b04 := b03.trans b4
  have hq4 := b4 _ _ hqa hq3
  walk_at "rd"
  rw [List.length_map]
  have w0 := Int.emod_nonneg d4 (show (zs.length : Int) + 1 ≠ 0 by omega)
  have w1 := Int.emod_lt_of_pos d4 (show (0 : Int) < (zs.length : Int) + 1 by omega)
  generalize d4 % ((zs.length : Int) + 1) = pl at w0 w1
  walk_at "sp" <;> intro h1
  · walk_at "rd"
    refine r_isL hq4 ?_
    walk_at "rd"
    refine r_ins1 hq4 (by rw [List.length_map]; omega) w0 (by omega) fun H5 b5 h5 => ?_
    rw [ins_map] at h5
    have hi := ins_len zs "*" pl.toNat
    have s5 := s4.but b5 hqa.symm
    walk_at "rd"
    refine r_append h5 ?_
    walk_at "rd"
    refine r_drawn s5 fun H6 v6 b6 s6 hv6 => ?_
    obtain ⟨y, rfl, hy⟩ := hv6
    walk_at "rd"
    refine r_append1 (b6 _ _ hqa h5) (by rw [List.length_map]; omega) fun H7 b7 h7 => ?_
    walk_at "rd"
    refine r_tupOf (SqL.of h7) fun t H8 n8 e8 ht => ?_
    exact k H8 _ (((b04.step b5 nq).trans b6).step b7 nq |>.same' e8) ((s6.but b7 hqa.symm).ex e8) ⟨t, zs.take pl.toNat ++ [("*" : Str)] ++ zs.drop pl.toNat ++ [y], rfl, by rw [List.map_append]; exact SqT.of ht, by rw [List.length_append, hi]; simp; omega, (hA.ins star_odd _).snoc (plain_odd hy)⟩
  · walk_at "rd"
    intro p5 H5 n5 e5 hp5
    have hp5a := src_ne s4 n5
    walk_at "rd"
    refine r_draw (s4.ex e5) (by decide) (by decide) fun H6 d6 b6 s6 d60 d61 => ?_
    obtain ⟨v, hv, ha, _⟩ := atI_in (xs := O9.map V.str) d60 d61
    refine r_ixL (SqL.of (b6 _ _ hp5a hp5)) ha ?_
    obtain ⟨y, hy, rfl⟩ := List.mem_map.mp hv
    have hq6 := b6 _ _ hqa (e5 _ _ hq4)
    walk_at "rd"
    refine r_isL hq6 ?_
    walk_at "rd"
    refine r_ins1 hq6 (by rw [List.length_map]; omega) w0 (by omega) fun H7 b7 h7 => ?_
    rw [ins_map] at h7
    have hi := ins_len zs y pl.toNat
    walk_at "rd"
    refine r_tupOf (SqL.of h7) fun t H8 n8 e8 ht => ?_
    exact k H8 _ ((((b04.same' e5).trans b6).step b7 nq).same' e8) ((s6.but b7 hqa.symm).ex e8) ⟨t, _, rfl, SqT.of ht, by omega, hA.ins (O9_asc y hy) _⟩

/-! ### odd values -/
def VlD (κ : Str) (d : PyData) : Prop := (∃ b, VlR κ d b) ∧ FitD d ∧ d.depth ≤ 2 ∧ ∀ z, d = .str z → ∀ c ∈ z.cps.toList, isCh (c : Int) = true
theorem fit_pure : ∀ {d : PyData}, FitD d → pureD d = true
  | _, .int i _ => by simp [pureD]
  | _, .str y h _ => pure_str h
  | _, .tup ds hl h => by
    have : pureAll ds = true := (pureAll_iff ds).mpr fun x hx => fit_pure (h x hx)
    simp only [pureD, this, Bool.and_true]
    exact decide_eq_true (by omega)
theorem VlD.pure {κ : Str} {d : PyData} (h : VlD κ d) : pureD d = true := fit_pure h.2.1
theorem vlG.toD {κ : Str} {d : PyData} (h : vlG κ d) : VlD κ d := by
  obtain ⟨h1, h2, h3⟩ := h.toR
  refine ⟨⟨_, h1⟩, h2, h3, fun z hz c hc => ?_⟩
  subst hz
  unfold vlG at h
  split at h
  · obtain ⟨y, e, _, h⟩ := h
    cases e
    unfold txtB at h
    simp only [Bool.and_eq_true, List.all_eq_true] at h
    exact h.2 c hc
  split at h
  · obtain ⟨_, _, e, _⟩ := h; cases e
  split at h
  · obtain ⟨_, e, _⟩ := h; cases e
  split at h
  · obtain ⟨_, _, e, _⟩ := h; cases e
  split at h
  · obtain ⟨_, _, e, _⟩ := h; cases e
  obtain ⟨_, e, _⟩ := h; cases e
def LbF (d : PyData) : Prop := (∃ zs, LbD d zs) ∧ FitD d ∧ d.depth ≤ 1
theorem OddV.lb {H : Hp} {v : V} (h : OddV K H v) : ∃ d, Dp K H v d ∧ LbF d := by
  obtain ⟨t, zs, rfl, ht, hl, hz⟩ := h
  exact ⟨_, dp_tup ht, ⟨zs, rfl, fun z h => by have := hz z h; exact ⟨by omega, this.1⟩⟩, fit_strs (fun z h => by have := hz z h; exact ⟨this.1, by omega⟩) (by omega), strs_depth zs⟩
theorem nmG.lbf {d : PyData} (h : nmG d) : LbF d := by
  obtain ⟨zs, h1, _⟩ := h.lb
  exact ⟨⟨zs, h1⟩, h.fit⟩
theorem vld_text {z : Str} (hA : Asc z) (hl : z.length ≤ 200) (hc : ∀ c ∈ z.cps.toList, isCh (c : Int) = true) : VlD "text" (.str z) :=
  ⟨⟨txtB z, by unfold VlR; rw [if_pos rfl]; exact ⟨z, rfl, hA, hl, rfl⟩⟩, .str z hA hl, by simp [PyData.depth], fun y hy => by cases hy; exact hc⟩
theorem vld_mail {i : Int} {n : PyData} (hi : i.natAbs < 10 ^ 100) (hn : LbF n) : VlD "mail" (.tuple [.int i, n]) := by
  obtain ⟨⟨zs, h1⟩, h2⟩ := hn
  exact ⟨⟨_, by unfold VlR; rw [if_neg (by decide), if_pos rfl]; exact ⟨i, n, zs, rfl, h1, rfl⟩⟩, (fit_pair (fitI hi) h2).1, (fit_pair (fitI hi) h2).2, fun _ e => by cases e⟩
theorem vld_name {κ : Str} {n : PyData} (hκ : κ = "alias" ∨ κ = "server") (hn : LbF n) : VlD κ n := by
  obtain ⟨⟨zs, h1⟩, h2, h3⟩ := hn
  refine ⟨⟨nameB zs, ?_⟩, h2, by omega, fun _ e => by rw [h1.1] at e; cases e⟩
  unfold VlR
  rw [if_neg (by rcases hκ with rfl | rfl <;> decide), if_neg (by rcases hκ with rfl | rfl <;> decide), if_pos hκ]
  exact ⟨zs, h1, rfl⟩
theorem vld_start {i j : Int} (hi : i.natAbs < 10 ^ 100) (hj : j.natAbs < 10 ^ 100) : VlD "start" (.tuple [.int i, .int j]) :=
  ⟨⟨_, by unfold VlR; rw [if_neg (by decide), if_neg (by decide), if_neg (by decide), if_pos rfl]; exact ⟨i, j, rfl, rfl⟩⟩, (fit_pair (fitI hi) (fitI hj)).1, (fit_pair (fitI hi) (fitI hj)).2, fun _ e => by cases e⟩
def KsF (ks : List Str) : Prop := KsD ks ∧ ∀ z ∈ ks, z.length ≤ 7
theorem pick_ksf (b : Nat) : KsF (pick b) := by
  have pf := pick_fact b
  exact ⟨⟨by omega, fun k hk => (KN_asc k (pf.1 k hk)).1⟩, fun k hk => (KN_asc k (pf.1 k hk)).2⟩
theorem vld_gap {n : PyData} {ks : List Str} (hn : LbF n) (hk : KsF ks) : VlD "gap" (.tuple [n, dT ks]) := by
  obtain ⟨⟨zs, h1⟩, h2⟩ := hn
  have hf := fit_pair h2 ⟨fit_strs (fun k h => ⟨hk.1.2 k h, by have := hk.2 k h; omega⟩) (by have := hk.1.1; omega), strs_depth ks⟩
  exact ⟨⟨_, by unfold VlR; rw [if_neg (by decide), if_neg (by decide), if_neg (by decide), if_neg (by decide), if_pos rfl]; exact ⟨n, zs, ks, rfl, h1, hk.1, rfl⟩⟩, hf.1, hf.2, fun _ e => by cases e⟩
theorem vld_int {κ : Str} {i : Int} (h0 : ¬ κ = "text") (h1 : ¬ κ = "mail") (h2 : ¬ (κ = "alias" ∨ κ = "server")) (h4 : ¬ κ = "start") (h5 : ¬ κ = "gap") (hi : i.natAbs < 10 ^ 100) : VlD κ (.int i) :=
  ⟨⟨WdB i, by unfold VlR; rw [if_neg h0, if_neg h1, if_neg h2, if_neg h4, if_neg h5]; exact ⟨i, rfl, rfl⟩⟩, (fitI hi).1, by simp [PyData.depth], fun _ e => by cases e⟩
theorem ok__law_odd_value (T : Txt K mg) : Fn P w K mg base 5 "_law_odd_value" ["kind", "source"] (fun vs H Q _ => ∃ (κ : Str) (a : Addr), vs = [.str κ, .ref a] ∧ Src H a ∧ ∀ H' v d, But a H H' → Src H' a → Dp K H' v d → VlD κ d → Q v H') := by
  refine T.d__law_odd_value.ok sc__law_odd_value (by rintro vs H Q E ⟨_, _, rfl, _⟩; rfl) (fun f cdv A outer s H vs Q E hr h => ?_)
  obtain ⟨κ, a, rfl, hS, k⟩ := h
  refine ⟨_, (pss_cons (ps_set (i := 2) sc__law_odd_value.nd rfl (by first | exact .inl rfl | exact .inr rfl) (pe_fn (ok__law_value T) hr (by rfl) (pa_cons (pv 0) (pa_cons (pv 1) pa_nil))))
  (pss_cons (ps_if (pt_cmpR op_eq (pv 0) pe_str (nomark _))
  (pss_one (ps_ret (pe_op oMulS pe_str (pe_op op_add pe_int (pe_fn (ok__law_draw T) (hr.mono (by decide)) (by rfl) (pa_cons (pv 1) (pa_cons pe_int pa_nil)))))))
  pss_nil)
  (pss_cons (ps_if (pt_cmpR op_eq (pv 0) pe_str (nomark _))
  (pss_cons (ps_if (pt_cmpR op_eq (pe_fn (ok__law_draw T) (hr.mono (by decide)) (by rfl) (pa_cons (pv 1) (pa_cons pe_int pa_nil))) pe_int (nomark _))
  (pss_one (ps_ret (pe_tup (pa_cons (pe_fn (ok__law_odd_number T) (hr.mono (by decide)) (by rfl) (pa_cons (pv 1) (pa_cons pe_int pa_nil))) (pa_cons (pe_ix ix_tup (pv 2) pe_int (fun _ _ => rfl)) pa_nil)))))
  pss_nil)
  (pss_one (ps_ret (pe_tup (pa_cons (pe_ix ix_tup (pv 2) pe_int (fun _ _ => rfl)) (pa_cons (pe_fn (ok__law_odd_labels T) hr (by rfl) (pa_cons (pv 1) pa_nil)) pa_nil))))))
  pss_nil)
  (pss_cons (ps_if (PW.pt (pw_or (pt_cmpR op_eq (pv 0) pe_str (nomark _)) (pw_or1 (pt_cmpR op_eq (pv 0) pe_str (nomark _)))))
  (pss_one (ps_ret (pe_fn (ok__law_odd_labels T) hr (by rfl) (pa_cons (pv 1) pa_nil))))
  pss_nil)
  (pss_cons (ps_if (pt_cmpR op_eq (pv 0) pe_str (nomark _))
  (pss_cons (ps_set (i := 3) sc__law_odd_value.nd rfl (by first | exact .inl rfl | exact .inr rfl) (pe_fn (ok__law_odd_number T) (hr.mono (by decide)) (by rfl) (pa_cons (pv 1) (pa_cons pe_int pa_nil))))
  (pss_one (ps_ret (pe_ix ix_list (pe_lst (pa_cons (pe_tup (pa_cons (pv 3) (pa_cons (pe_ix ix_tup (pv 2) pe_int (fun _ _ => rfl)) pa_nil))) (pa_cons (pe_tup (pa_cons (pe_ix ix_tup (pv 2) pe_int (fun _ _ => rfl)) (pa_cons (pv 3) pa_nil))) pa_nil))) (pe_fn (ok__law_draw T) (hr.mono (by decide)) (by rfl) (pa_cons (pv 1) (pa_cons pe_int pa_nil))) (fun _ _ => rfl)))))
  pss_nil)
  (pss_cons (ps_if (pt_cmpR op_eq (pv 0) pe_str (nomark _))
  (pss_cons (ps_if (pt_cmpR op_eq (pe_fn (ok__law_draw T) (hr.mono (by decide)) (by rfl) (pa_cons (pv 1) (pa_cons pe_int pa_nil))) pe_int (nomark _))
  (pss_one (ps_ret (pe_tup (pa_cons (pe_fn (ok__law_odd_labels T) hr (by rfl) (pa_cons (pv 1) pa_nil)) (pa_cons (pe_ix ix_tup (pv 2) pe_int (fun _ _ => rfl)) pa_nil)))))
  pss_nil)
  (pss_one (ps_ret (pe_tup (pa_cons (pe_ix ix_tup (pv 2) pe_int (fun _ _ => rfl)) (pa_cons (pe_fn (ok__law_odd_kinds T) (hr.mono (by decide)) (by rfl) (pa_cons (pv 1) pa_nil)) pa_nil))))))
  pss_nil)
  (pss_one (ps_ret (pe_fn (ok__law_odd_number T) (hr.mono (by decide)) (by rfl) (pa_cons (pv 1) (pa_cons pe_int pa_nil))))))))))), ?_⟩
  walk_at "en"
  refine ⟨κ, a, rfl, hS, fun H1 v d b1 s1 hd hv => ?_⟩
  walk_at "rd"
  have nt1 := src_noTup s1
  walk_at "sp" <;> intro h0
  · walk_at "rd"
    refine r_draw s1 (by decide) (by decide) fun H2 d2 b2 s2 d20 d21 => ?_
    walk_at "rd"
    refine r_mulS (by decide +kernel) ⟨by omega, by omega⟩ fun y hy1 hy2 => ?_
    have h97 : ∀ c ∈ ("a" : Str).cps.toList, c < 128 ∧ isCh (c : Int) = true := by decide +kernel
    have ea : ("a" : Str).length = 1 := by decide +kernel
    rw [ea] at hy1
    subst h0
    exact k _ _ _ (b1.trans b2) s2 (.str y) (vld_text (fun c hc => (h97 c (hy2 c hc)).1) (by omega) fun c hc => (h97 c (hy2 c hc)).2)
  walk_at "rd"
  walk_at "sp" <;> intro h1
  · subst h1
    unfold vlG at hv
    rw [if_neg h0, if_pos rfl] at hv
    obtain ⟨i, n, rfl, hn, i0, i1⟩ := hv
    obtain ⟨g, rfl, ⟨es, hs, hde⟩⟩ := dp_pt hd
    cases hde with | cons e1 hde => cases hde with | cons e2 hde => cases hde with | nil =>
    cases dp_intv e1
    have hsm : i.natAbs < 10 ^ 100 := Nat.lt_of_le_of_lt (m := 65535) (by omega) (by decide +kernel)
    walk_at "rd"
    refine r_draw s1 (by decide) (by decide) fun H2 d2 b2 s2 d20 d21 => ?_
    walk_at "rd"
    have hs2 := but_tN b2 nt1 hs
    have he2 := dp_but b2 nt1 _ _ (fit_pure hn.lbf.2.1) e2
    walk_at "sp" <;> intro h5
    · walk_at "rd"
      refine ⟨a, 65535, rfl, s2, by decide, by decide, fun H3 o b3 s3 ho hos => ?_⟩
      have hs3 := but_tN b3 (src_noTup s2) hs2
      have he3 := dp_but b3 (src_noTup s2) _ _ (fit_pure hn.lbf.2.1) he2
      walk_at "rd"
      intro t H4 n4 e4 ht
      exact k _ _ _ (((b1.trans b2).trans b3).same' e4) (s3.ex e4) (.tup (SqT.of ht) (.cons (.int o) (.cons (dp_ex e4 _ _ he3) .nil))) (vld_mail hos hn.lbf)
    · walk_at "rd"
      refine r_drawn s2 fun H3 lv b3 s3 hlv => ?_
      obtain ⟨ld, hl1, hl2⟩ := hlv.lb
      walk_at "rd"
      intro t H4 n4 e4 ht
      exact k _ _ _ (((b1.trans b2).trans b3).same' e4) (s3.ex e4) (.tup (SqT.of ht) (.cons (.int i) (.cons (dp_ex e4 _ _ hl1) .nil))) (vld_mail hsm hl2)
  walk_at "rd"
  have nameR : (κ = "alias" ∨ κ = "server") → spDrawn (OddV K) [.ref a] H1 Q E0 := fun h2 => r_drawn s1 fun H2 v b2 s2 hv => by
    obtain ⟨d, hd, hn⟩ := hv.lb
    exact k _ _ d (b1.trans b2) s2 hd (vld_name h2 hn)
  walk_at "sp" <;> intro h2
  · walk_at "rd"
    exact nameR (.inl h2)
  walk_at "rd"
  walk_at "sp" <;> intro h3
  · walk_at "rd"
    exact nameR (.inr h3)
  have h23 : ¬ (κ = "alias" ∨ κ = "server") := fun z => z.elim h2 h3
  walk_at "rd"
  walk_at "sp" <;> intro h4
  · subst h4
    unfold vlG at hv
    rw [if_neg h0, if_neg h1, if_neg h23, if_pos rfl] at hv
    obtain ⟨i, j, rfl, hi, hj⟩ := hv
    obtain ⟨g, rfl, ⟨es, hs, hde⟩⟩ := dp_pt hd
    cases hde with | cons e1 hde => cases hde with | cons e2 hde => cases hde with | nil =>
    cases dp_intv e1
    cases dp_intv e2
    walk_at "rd"
    refine ⟨a, 4294967295, rfl, s1, by decide, by decide, fun H3 o b3 s3 ho hos => ?_⟩
    have hs3 := but_tN b3 nt1 hs
    walk_at "rd"
    intro t H4 n4 e4 ht
    walk_at "rd"
    have hs4 := ex_t e4 hs3
    intro t2 H5 n5 e5 ht2
    walk_at "rd"
    intro t3 H6 n6 e6 ht3
    walk_at "rd"
    have e46 := (e4.trans e5).trans e6
    refine r_draw (s3.ex e46) (by decide) (by decide) fun H7 c b7 s7 c0 c1 => ?_
    have nt6 := src_noTup (s3.ex e46)
    have h3a := src_ne (s3.ex (e4.trans e5)) n6
    obtain ⟨v, hv, ha, _⟩ := atI_in (xs := [V.ref t, V.ref t2]) c0 c1
    refine r_ixL (SqL.of (b7 _ _ h3a ht3)) ha ?_
    have bb := ((b1.trans b3).same' e46).trans b7
    simp only [List.mem_cons, List.not_mem_nil, or_false] at hv
    rcases hv with rfl | rfl
    · exact k _ _ _ bb s7 (.tup (but_tN b7 nt6 (ex_t (e5.trans e6) (SqT.of ht))) (.cons (.int o) (.cons (.int j) .nil))) (vld_start hos (wd_small hj))
    · exact k _ _ _ bb s7 (.tup (but_tN b7 nt6 (ex_t e6 (SqT.of ht2))) (.cons (.int i) (.cons (.int o) .nil))) (vld_start (wd_small hi) hos)
  walk_at "rd"
  walk_at "sp" <;> intro h5
  · subst h5
    unfold vlG at hv
    rw [if_neg h0, if_neg h1, if_neg h23, if_neg h4, if_pos rfl] at hv
    obtain ⟨n, b, rfl, hn, hb⟩ := hv
    have hpk := pick_ksf b
    obtain ⟨g, rfl, ⟨es, hs, hde⟩⟩ := dp_pt hd
    cases hde with | cons e1 hde => cases hde with | cons e2 hde => cases hde with | nil =>
    obtain ⟨kp, rfl, hkp⟩ := nm_at e2
    walk_at "rd"
    refine r_draw s1 (by decide) (by decide) fun H2 d2 b2 s2 d20 d21 => ?_
    walk_at "rd"
    have hs2 := but_tN b2 nt1 hs
    have he2 := dp_but b2 nt1 _ _ (fit_pure hn.lbf.2.1) e1
    have hk2 := but_tN b2 nt1 hkp
    walk_at "sp" <;> intro h6
    · walk_at "rd"
      refine r_drawn s2 fun H3 lv b3 s3 hlv => ?_
      obtain ⟨ld, hl1, hl2⟩ := hlv.lb
      have hs3 := but_tN b3 (src_noTup s2) hs2
      have hk3 := but_tN b3 (src_noTup s2) hk2
      walk_at "rd"
      intro t H4 n4 e4 ht
      exact k _ _ _ (((b1.trans b2).trans b3).same' e4) (s3.ex e4) (.tup (SqT.of ht) (.cons (dp_ex e4 _ _ hl1) (.cons (dp_tup (ex_t e4 hk3)) .nil))) (vld_gap hl2 hpk)
    · walk_at "rd"
      refine ⟨a, rfl, s2, fun H3 t ks b3 s3 ht hks h7 => ?_⟩
      have he3 := dp_but b3 (src_noTup s2) _ _ (fit_pure hn.lbf.2.1) he2
      walk_at "rd"
      intro u H4 n4 e4 hu
      exact k _ _ _ (((b1.trans b2).trans b3).same' e4) (s3.ex e4) (.tup (SqT.of hu) (.cons (dp_ex e4 _ _ he3) (.cons (dp_tup (ex_t e4 ht)) .nil))) (vld_gap hn.lbf ⟨hks, h7⟩)
  walk_at "rd"
  refine ⟨a, 4294967295, rfl, s1, by decide, by decide, fun H3 o b3 s3 ho hos => ?_⟩
  exact k _ _ _ (b1.trans b3) s3 (.int o) (vld_int h0 h1 h23 h4 h5 hos)

theorem dig_len5 : ∀ n : Nat, n < 100000 → (TL.numL n).length ≤ 5 := by
  intro n h
  have go : ∀ k n : Nat, n < 10 ^ (k + 1) → (TL.numL n).length ≤ k + 1 := by
    intro k
    induction k with
    | zero => intro n h; rw [TL.numL_lt (by simpa using h)]; exact Nat.le_refl _
    | succ k ih =>
      intro n h
      by_cases c : n < 10
      · rw [TL.numL_lt c]; simp
      · rw [TL.numL_step (by omega), List.length_append]
        have := ih (n / 10) (by rw [Nat.pow_succ] at h; omega)
        simp
        exact this
  exact go 4 n (by simpa using h)
/-- digits -/
def digB (z : Str) : Prop := 1 ≤ z.length ∧ z.length ≤ 5 ∧ ∀ c ∈ z.cps.toList, 48 ≤ c ∧ c ≤ 57
theorem dig_of {i : Int} (h0 : 0 ≤ i) (h1 : i < 100000) : digB (Str.ofString (toString i)) := by
  obtain ⟨n, rfl⟩ := Int.eq_ofNat_of_zero_le h0
  have e : (Str.ofString (toString ((n : Nat) : Int))).cps.toList = TL.numL n := TL.tl_num n
  have el := len_list (Str.ofString (toString ((n : Nat) : Int)))
  rw [e] at el
  have h5 := dig_len5 n (by omega)
  refine ⟨?_, by omega, fun c hc => ?_⟩
  · have := TL.numL_ne n
    have : (TL.numL n).length ≠ 0 := fun h => this (List.length_eq_zero_iff.mp h)
    omega
  · rw [e] at hc
    have := TL.numL_digits n c hc
    omega
theorem r_strN {i : Int} {H : Hp} {Q : VK} (h0 : 0 ≤ i) (h1 : i < 100000) (q : ∀ z : Str, digB z → Q (.str z) H) : rStrI [.int i] H Q := ⟨i, rfl, log_small ⟨by omega, by omega⟩, q _ (dig_of h0 h1)⟩
theorem dig_ch : ∀ c : Nat, c < 58 → 48 ≤ c → c ∈ CH.cps.toList ∧ isCh (c : Int) = true ∧ c < 128 := by decide +kernel
theorem n_ch : ∀ c ∈ ("n" : Str).cps.toList, c ∈ CH.cps.toList ∧ isCh (c : Int) = true ∧ c < 128 := by decide +kernel
theorem nlab_ch {z : Str} (h : digB z) : ∀ c ∈ (("n" : Str) ++ z).cps.toList, c ∈ CH.cps.toList ∧ isCh (c : Int) = true ∧ c < 128 := fun c hc => by
  rw [cps_app] at hc
  rcases List.mem_append.mp hc with hc | hc
  · exact n_ch c hc
  · have := h.2.2 c hc
    exact dig_ch c (by omega) this.1
theorem nlab_len {z : Str} (h : digB z) : (("n" : Str) ++ z).length ≤ 6 := by
  rw [len_app, show ("n" : Str).length = 1 by decide +kernel]
  have := h.2.1
  omega
theorem nlab_plain {z : Str} (h : digB z) : plainB (("n" : Str) ++ z) = true := plain_iff.mpr ⟨⟨by rw [len_app, show ("n" : Str).length = 1 by decide +kernel]; omega, by have := nlab_len h; omega⟩, fun c hc => (nlab_ch h c hc).1⟩
theorem nlab_txt {z : Str} (h : digB z) : vlG "text" (.str (("n" : Str) ++ z)) := by
  unfold vlG
  rw [if_pos rfl]
  refine ⟨_, rfl, fun c hc => (nlab_ch h c hc).2.2, ?_⟩
  unfold txtB
  rw [decide_eq_true (by have := nlab_len h; omega), Bool.true_and, List.all_eq_true]
  exact fun c hc => (nlab_ch h c hc).2.1
theorem tree_plain : plainB ("tree" : Str) = true := by decide +kernel
theorem two_name {a b : Str} (ha : plainB a = true) (hb : plainB b = true) : nmG (dT [a, b]) := ⟨_, rfl, name_yes (by show 2 ≤ 12; decide) fun i y hy => .inl (by
  have := List.mem_of_getElem? hy
  simp only [List.mem_cons, List.not_mem_nil, or_false] at this
  rcases this with rfl | rfl
  · exact ha
  · exact hb)⟩
theorem vlG_word {κ : Str} {i : Int} (h0 : ¬ κ = "text") (h1 : ¬ κ = "mail") (h2 : ¬ (κ = "alias" ∨ κ = "server")) (h4 : ¬ κ = "start") (h5 : ¬ κ = "gap") (hi : WdB i = true) : vlG κ (.int i) := by
  unfold vlG
  rw [if_neg h0, if_neg h1, if_neg h2, if_neg h4, if_neg h5]
  exact ⟨i, rfl, hi⟩
theorem vlG_pure {κ : Str} (e : PyData) (h : vlG κ e) : pureD e = true := h.valK.pure.1
theorem r_appV {H : Hp} {Q : VK} {q : Addr} {κ : Str} {outs : List V} {es : List PyData} {v : V} {e : PyData} (h : H q = some (.lst outs)) (hd : DpAll K H outs es) (hv : ∀ e ∈ es, vlG κ e) (hl : es.length ≤ 10000) (hv2 : Dp K H v e) (he : vlG κ e)
    (qq : ∀ H2 outs2, But q H H2 → H2 q = some (.lst outs2) → DpAll K H2 outs2 (es ++ [e]) → (∀ x ∈ es ++ [e], vlG κ x) → Q .non H2) : rAppend (.ref q) [v] H Q := by
  have hol := dpAll_len hd
  have nt := noTup_l h
  refine r_append1 h (by omega) fun H2 b h2 => qq H2 _ b h2 (dpAll_app (dpAll_but b nt _ _ ((pureAll_iff es).mpr fun e he => vlG_pure e (hv e he)) hd) (.cons (dp_but b nt _ _ (vlG_pure e he) hv2) .nil)) fun x hx => ?_
  rcases List.mem_append.mp hx with hx | hx
  · exact hv x hx
  · rw [List.mem_singleton.mp hx]; exact he

/-! ### counted values -/
theorem vlG_p {es : List PyData} {κ : Str} (h : ∀ e ∈ es, vlG κ e) : pureAll es = true := (pureAll_iff es).mpr fun e he => vlG_pure e (h e he)
theorem ok__law_numbered (T : Txt K mg) : Fn P w K mg base 1 "_law_numbered" ["kind", "number"] (fun vs H Q _ => ∃ (κ : Str) (n : Int), vs = [.str κ, .int n] ∧ 0 ≤ n ∧ n < 65521 ∧ ∀ H' v d, Same H H' → Dp K H' v d → vlG κ d → Q v H') := by
  refine T.d__law_numbered.ok sc__law_numbered (by rintro vs H Q E ⟨_, _, rfl, _⟩; rfl) (fun f cdv A outer s H vs Q E hr h => ?_)
  obtain ⟨κ, n, rfl, n0, n1, k⟩ := h
  refine ⟨_, (pss_cons (ps_set (i := 2) sc__law_numbered.nd rfl (by first | exact .inl rfl | exact .inr rfl) (pe_op oAddS pe_str (pe_callTy cStrI (by rfl) T.m_str (by decide +kernel) (pa_cons (pv 1) pa_nil))))
  (pss_cons (ps_if (pt_cmpR op_eq (pv 0) pe_str (nomark _))
  (pss_one (ps_ret (pv 2)))
  pss_nil)
  (pss_cons (ps_if (pt_cmpR op_eq (pv 0) pe_str (nomark _))
  (pss_one (ps_ret (pe_tup (pa_cons (pv 1) (pa_cons (pe_tup (pa_cons pe_str (pa_cons (pv 2) pa_nil))) pa_nil)))))
  pss_nil)
  (pss_cons (ps_if (PW.pt (pw_or (pt_cmpR op_eq (pv 0) pe_str (nomark _)) (pw_or1 (pt_cmpR op_eq (pv 0) pe_str (nomark _)))))
  (pss_one (ps_ret (pe_tup (pa_cons (pv 2) (pa_cons pe_str pa_nil)))))
  pss_nil)
  (pss_cons (ps_if (pt_cmpR op_eq (pv 0) pe_str (nomark _))
  (pss_one (ps_ret (pe_tup (pa_cons pe_int (pa_cons (pv 1) pa_nil)))))
  pss_nil)
  (pss_cons (ps_if (pt_cmpR op_eq (pv 0) pe_str (nomark _))
  (pss_one (ps_ret (pe_tup (pa_cons (pe_tup (pa_cons (pv 2) pa_nil)) (pa_cons (pe_tup (pa_cons pe_str pa_nil)) pa_nil)))))
  pss_nil)
  (pss_one (ps_ret (pv 1))))))))), ?_⟩
  walk_at "en"
  refine r_strN n0 (by omega) fun z hz => ?_
  refine r_addS (by have := hz.2.1; rw [show ("n" : Str).length = 1 by decide +kernel]; omega) ?_
  have hp := nlab_plain hz
  have ht := nlab_txt hz
  generalize (("n" : Str) ++ z) = lab at hp ht
  walk_at "rd"
  walk_at "sp" <;> intro h0
  · walk_at "rd"
    exact k H _ _ (Same.refl _) (.str lab) (by subst h0; exact ht)
  walk_at "rd"
  walk_at "sp" <;> intro h1
  · walk_at "rd"
    intro t5 H5 n5 e5 ht5
    walk_at "rd"
    intro t6 H6 n6 e6 ht6
    exact k H6 _ _ (e5.trans e6) (.tup (SqT.of ht6) (.cons (.int n) (.cons (.tup (SqT.of (e6 _ _ ht5)) (.cons (.str ("tree" : Str)) (.cons (.str lab) .nil))) .nil))) (by subst h1; exact ⟨n, _, rfl, two_name tree_plain hp, n0, by omega⟩)
  have nameR : (κ = "alias" ∨ κ = "server") → ∀ (t5 : Addr) (H5 : Hp), Same H H5 → H5 t5 = some (.tup [.str lab, .str "tree"]) → Q (.ref t5) H5 := fun h2 t5 H5 e5 ht5 => k H5 _ _ e5 (.tup (SqT.of ht5) (.cons (.str lab) (.cons (.str ("tree" : Str)) .nil))) (by
    unfold vlG
    rw [if_neg h0, if_neg h1, if_pos h2]
    exact two_name hp tree_plain)
  walk_at "rd"
  walk_at "sp" <;> intro h2
  · walk_at "rd"
    intro t5 H5 n5 e5 ht5
    exact nameR (.inl h2) t5 H5 e5 ht5
  walk_at "rd"
  walk_at "sp" <;> intro h3
  · walk_at "rd"
    intro t5 H5 n5 e5 ht5
    exact nameR (.inr h3) t5 H5 e5 ht5
  have h23 : ¬ (κ = "alias" ∨ κ = "server") := fun z => z.elim h2 h3
  walk_at "rd"
  walk_at "sp" <;> intro h4
  · walk_at "rd"
    intro t5 H5 n5 e5 ht5
    exact k H5 _ _ e5 (.tup (SqT.of ht5) (.cons (.int 7) (.cons (.int n) .nil))) (by
      unfold vlG
      rw [if_neg h0, if_neg h1, if_neg h23, if_pos h4]
      exact ⟨7, n, rfl, by decide, decide_eq_true ⟨n0, by omega⟩⟩)
  walk_at "rd"
  walk_at "sp" <;> intro h5
  · walk_at "rd"
    intro t5 H5 n5 e5 ht5
    walk_at "rd"
    intro t6 H6 n6 e6 ht6
    walk_at "rd"
    intro t7 H7 n7 e7 ht7
    have e256 : pick 256 = [("gap" : Str)] := by decide +kernel
    exact k H7 _ _ ((e5.trans e6).trans e7) (.tup (SqT.of ht7) (.cons (.tup (SqT.of (e7 _ _ (e6 _ _ ht5))) (.cons (.str lab) .nil)) (.cons (.tup (SqT.of (e7 _ _ ht6)) (.cons (.str ("gap" : Str)) .nil)) .nil))) (by
      unfold vlG
      rw [if_neg h0, if_neg h1, if_neg h23, if_neg h4, if_pos h5]
      exact ⟨dT [lab], 256, by rw [e256]; rfl, ⟨_, rfl, name_yes (show 1 ≤ 12 by decide) fun i y hy => .inl (by
        have := List.mem_of_getElem? hy
        rw [List.mem_singleton.mp this]; exact hp)⟩, by decide⟩)
  walk_at "rd"
  exact k H _ _ (Same.refl _) (.int n) (vlG_word h0 h1 h23 h4 h5 (decide_eq_true ⟨n0, by omega⟩))
theorem ok__law_counted (T : Txt K mg) : Fn P w K mg base 2 "_law_counted" ["kind", "source"] (fun vs H Q _ => ∃ (κ : Str) (a : Addr), vs = [.str κ, .ref a] ∧ Src H a ∧ ∀ H' q, But a H H' → H q = none → Src H' a → (∃ outs es, H' q = some (.lst outs) ∧ DpAll K H' outs es ∧ (∀ e ∈ es, vlG κ e) ∧ es.length ≤ 200) → Q (.ref q) H') := by
  refine T.d__law_counted.ok sc__law_counted (by rintro vs H Q E ⟨_, _, rfl, _⟩; rfl) (fun f cdv A outer s H vs Q E hr h => ?_)
  obtain ⟨κ, a, rfl, hS, k⟩ := h
  refine ⟨_, (pss_cons (ps_set (i := 2) sc__law_counted.nd rfl (by first | exact .inl rfl | exact .inr rfl) (pe_fn (ok__law_draw T) hr (by rfl) (pa_cons (pv 1) (pa_cons pe_int pa_nil))))
  (pss_cons (ps_set (i := 3) sc__law_counted.nd rfl (by first | exact .inl rfl | exact .inr rfl) (pe_ix ix_list (pe_lst (pa_cons pe_int (pa_cons pe_int (pa_cons pe_int (pa_cons pe_int (pa_cons pe_int (pa_cons pe_int (pa_cons (pe_op op_add pe_int (pe_fn (ok__law_draw T) hr (by rfl) (pa_cons (pv 1) (pa_cons pe_int pa_nil)))) pa_nil)))))))) (pe_fn (ok__law_draw T) hr (by rfl) (pa_cons (pv 1) (pa_cons pe_int pa_nil))) (fun _ _ => rfl)))
  (pss_cons (ps_set (i := 4) sc__law_counted.nd rfl (by first | exact .inl rfl | exact .inr rfl) (pe_lst pa_nil))
  (pss_cons (ps_for PassesOwn.never rfl (pi_range1 rfl T.m_range (pa_cons (pv 3) pa_nil)) (pg_name (i := 5) sc__law_counted.nd rfl (.inl rfl))
  (pss_one (ps_expr (pe_bm PySem.F.plainAttrs_list PySem.F.slot_list_append PySem.F.type_list_append mt_append (pv 4) (pa_cons (pe_fn (ok__law_numbered T) hr (by rfl) (pa_cons (pv 0) (pa_cons (pe_op op_mod (pe_callTy cInt (by rfl) T.m_int (by decide +kernel) (pa_cons (pe_op op_add (pv 2) (pe_op op_mul pe_int (pv 5))) pa_nil)) pe_int) pa_nil))) pa_nil)))))
  (pss_cons (ps_set (i := 6) sc__law_counted.nd rfl (by first | exact .inl rfl | exact .inr rfl) (pe_ix ix_list (pe_lst (pa_cons pe_int (pa_cons pe_int (pa_cons pe_int (pa_cons (pe_fn (ok__law_draw T) hr (by rfl) (pa_cons (pv 1) (pa_cons pe_int pa_nil))) pa_nil))))) (pe_fn (ok__law_draw T) hr (by rfl) (pa_cons (pv 1) (pa_cons pe_int pa_nil))) (fun _ _ => rfl)))
  (pss_cons (ps_for PassesOwn.never rfl (pi_range1 rfl T.m_range (pa_cons (pv 6) pa_nil)) (pg_name (i := 5) sc__law_counted.nd rfl (.inl rfl))
  (pss_one (ps_if (pt_cmpR op_gt (pe_callB cLenQ (by rfl) T.m_len PySem.boot_len (pa_cons (pv 4) pa_nil)) pe_int (nomark _))
  (pss_cons (ps_set (i := 7) sc__law_counted.nd rfl (by first | exact .inl rfl | exact .inr rfl) (pe_ix ix_list (pv 4) (pe_op op_mod (pe_callTy cInt (by rfl) T.m_int (by decide +kernel) (pa_cons (pe_fn (ok__law_draw T) hr (by rfl) (pa_cons (pv 1) (pa_cons pe_int pa_nil))) pa_nil)) (pe_callB cLenQ (by rfl) T.m_len PySem.boot_len (pa_cons (pv 4) pa_nil))) (fun _ _ => rfl)))
  (pss_one (ps_expr (pe_bm PySem.F.plainAttrs_list PySem.F.slot_list_insert PySem.F.type_list_insert mt_ins (pv 4) (pa_cons (pe_op op_mod (pe_callTy cInt (by rfl) T.m_int (by decide +kernel) (pa_cons (pe_fn (ok__law_draw T) hr (by rfl) (pa_cons (pv 1) (pa_cons pe_int pa_nil))) pa_nil)) (pe_callB cLenQ (by rfl) T.m_len PySem.boot_len (pa_cons (pv 4) pa_nil))) (pa_cons (pv 7) pa_nil))))))
  pss_nil)))
  (pss_one (ps_ret (pv 4))))))))), ?_⟩
  walk_at "en"
  refine r_draw hS (by decide) (by decide) fun H1 d b1 s1 d0 d1 => ?_
  walk_at "rd"
  refine r_draw s1 (by decide) (by decide) fun H2 d2 b2 s2 d20 d21 => ?_
  walk_at "rd"
  intro p H3 n3 e3 hp
  walk_at "rd"
  refine r_draw (s2.ex e3) (by decide) (by decide) fun H4 d4 b4 s4 d40 d41 => ?_
  have hpa := src_ne s2 n3
  obtain ⟨v, hv, ha, _⟩ := atI_in (xs := [0, 0, 2, 100, 101, 101, 101 + d2].map V.int) d40 d41
  refine r_ixL (SqL.of (b4 _ _ hpa hp)) ha ?_
  obtain ⟨m, hm, rfl⟩ := List.mem_map.mp hv
  have hm2 : 0 ≤ m ∧ m ≤ 130 := by
    simp only [List.mem_cons, List.not_mem_nil, or_false] at hm
    rcases hm with rfl | rfl | rfl | rfl | rfl | rfl | rfl <;> omega
  clear hm ha hv
  have b04 := ((b1.trans b2).same' e3).trans b4
  walk_at "rd"
  intro q H5 n5 e5 hq
  have hqa := src_ne s4 n5
  have nq : H q = none := but_fresh b04 hqa n5
  walk_at "rd"
  refine loopR (fun i σ' H' => (∃ v5, σ' = [some (.str κ), some (.ref a), some (.int d), some (.int m), some (.ref q), v5, none, none]) ∧ But a H H' ∧ Src H' a ∧ ∃ outs es, H' q = some (.lst outs) ∧ DpAll K H' outs es ∧ (∀ e ∈ es, vlG κ e) ∧ es.length = i) ⟨⟨_, rfl⟩, b04.same' e5, s4.ex e5, [], [], hq, .nil, (fun _ h => by cases h), rfl⟩ ?_ ?_
  · rintro i σ' H' hi ⟨⟨v5, rfl⟩, b, s', outs, es, hq', hd, hv, hl⟩
    walk_at "rd"
    refine r_append hq' ?_
    walk_at "rd"
    have w0 := Int.emod_nonneg (d + 389 * (0 + (i : Int))) (show (65521 : Int) ≠ 0 by decide)
    have w1 := Int.emod_lt_of_pos (d + 389 * (0 + (i : Int))) (show (0 : Int) < 65521 by decide)
    refine ⟨κ, _, rfl, w0, w1, fun H6 nv nd e6 hnd hnv => ?_⟩
    walk_at "rd"
    refine r_appV (e6 _ _ hq') (dpAll_ex e6 _ _ hd) hv (by omega) hnd hnv fun H7 o7 b7 h7 hd7 hv7 => ?_
    exact ⟨⟨_, rfl⟩, (b.same' e6).step b7 nq, (s'.ex e6).but b7 hqa.symm, _, _, h7, hd7, hv7, by simp [hl]⟩
  rintro σ' H6 ⟨⟨v5, rfl⟩, b6, s6, outs, es, hq6, hd6, hv6, hl6⟩
  walk_at "rd"
  refine r_draw s6 (by decide) (by decide) fun H7 d7 b7 s7 d70 d71 => ?_
  walk_at "rd"
  intro p2 H8 n8 e8 hp2
  walk_at "rd"
  refine r_draw (s7.ex e8) (by decide) (by decide) fun H9 d9 b9 s9 d90 d91 => ?_
  have hpa2 := src_ne s7 n8
  obtain ⟨v, hv, ha, _⟩ := atI_in (xs := [0, 1, 3, d7].map V.int) d90 d91
  refine r_ixL (SqL.of (b9 _ _ hpa2 hp2)) ha ?_
  obtain ⟨r, hr9, rfl⟩ := List.mem_map.mp hv
  have hr2 : 0 ≤ r ∧ r ≤ 69 := by
    simp only [List.mem_cons, List.not_mem_nil, or_false] at hr9
    rcases hr9 with rfl | rfl | rfl | rfl <;> omega
  clear hr9 ha hv
  have b69 := ((b7.same' e8)).trans b9
  walk_at "rd"
  refine loopR (fun i σ' H' => (∃ v5 v7, σ' = [some (.str κ), some (.ref a), some (.int d), some (.int m), some (.ref q), v5, some (.int r), v7]) ∧ But a H H' ∧ Src H' a ∧ ∃ outs es, H' q = some (.lst outs) ∧ DpAll K H' outs es ∧ (∀ e ∈ es, vlG κ e) ∧ es.length ≤ 130 + i) ⟨⟨_, _, rfl⟩, b6.trans b69, s9, outs, es, b9 _ _ hqa (e8 _ _ (b7 _ _ hqa hq6)), dpAll_but b9 (src_noTup (s7.ex e8)) _ _ (vlG_p hv6) (dpAll_ex e8 _ _ (dpAll_but b7 (src_noTup s6) _ _ (vlG_p hv6) hd6)), hv6, by omega⟩ ?_ ?_
  · rintro i σ' H' hi ⟨⟨v5, v7, rfl⟩, b, s', outs, es, hq', hd, hv, hl⟩
    have hi99 : i < 69 := by omega
    have hol := dpAll_len hd
    walk_at "rd"
    walk_at "sp" <;> intro hne
    · walk_at "rd"
      refine r_draw s' (by decide) (by decide) fun H5 d5 b5 s5 d50 d51 => ?_
      have hq5 := b5 _ _ hqa hq'
      have hd5 := dpAll_but b5 (src_noTup s') _ _ (vlG_p hv) hd
      walk_at "rd"
      obtain ⟨v, _, ha, hg⟩ := atI_in (xs := outs) (i := d5 % (outs.length : Int)) (Int.emod_nonneg _ (by omega)) (Int.emod_lt_of_pos _ (by omega))
      obtain ⟨e, he, hde⟩ := dpAll_mem hd5 hg
      have hem := List.mem_of_getElem? he
      refine r_ixL (SqL.of hq5) ha ?_
      walk_at "rd"
      refine r_isL hq5 ?_
      walk_at "rd"
      refine r_draw s5 (by decide) (by decide) fun H6 d6 b6 s6 d60 d61 => ?_
      have hq6 := b6 _ _ hqa hq5
      have hd6 := dpAll_but b6 (src_noTup s5) _ _ (vlG_p hv) hd5
      have hde6 := dp_but b6 (src_noTup s5) _ _ (vlG_pure e (hv e hem)) hde
      walk_at "rd"
      have g0 := Int.emod_nonneg d6 (show (outs.length : Int) ≠ 0 by omega)
      have g1 := Int.emod_lt_of_pos d6 (show (0 : Int) < (outs.length : Int) by omega)
      refine r_ins1 hq6 (by omega) g0 (by omega) fun H7 b7 h7 => ?_
      have nt := noTup_l hq6
      refine ⟨⟨_, _, rfl⟩, ((b.trans b5).trans b6).step b7 nq, s6.but b7 hqa.symm, _, _, h7, dpAll_app (dpAll_app (dpAll_take _ (dpAll_but b7 nt _ _ (vlG_p hv) hd6)) (.cons (dp_but b7 nt _ _ (vlG_pure e (hv e hem)) hde6) .nil)) (dpAll_drop _ (dpAll_but b7 nt _ _ (vlG_p hv) hd6)), fun x hx => ?_, ?_⟩
      · rcases pl_mem.mp hx with hx | rfl
        · exact hv x hx
        · exact hv x hem
      · simp; omega
    · walk_at "rd"
      exact ⟨⟨_, _, rfl⟩, b, s', outs, es, hq', hd, hv, by omega⟩
  · rintro σ' H' ⟨⟨v5, v7, rfl⟩, b, s', outs, es, hq', hd, hv, hl⟩
    walk_at "rd"
    exact k H' q b nq s' ⟨outs, es, hq', hd, hv, by omega⟩
def U8 : List Str := ["", "gaps", "Address", "address ", "mx", "ga", "*", "signature"]
theorem U8_asc : ∀ z ∈ U8, Asc z ∧ z.length ≤ 60 := by decide +kernel
theorem KN_x : ∀ z ∈ KN, z ++ "x" ∉ KN ∧ Asc (z ++ "x") ∧ (z ++ "x").length ≤ 60 ∧ z.length + ("x" : Str).length ≤ 60 := by decide +kernel
theorem ok__law_unknown_kind (T : Txt K mg) : Fn P w K mg base 3 "_law_unknown_kind" ["source"] (spDrawn fun _ v => ∃ z : Str, v = .str z ∧ z ∉ KN ∧ Asc z ∧ z.length ≤ 60) := by
  refine T.d__law_unknown_kind.ok sc__law_unknown_kind (by rintro vs H Q E ⟨_, rfl, _⟩; rfl) (fun f cdv A outer s H vs Q E hr h => ?_)
  obtain ⟨a, rfl, hS, k⟩ := h
  refine ⟨_, (pss_cons (ps_set (i := 1) sc__law_unknown_kind.nd rfl (by first | exact .inl rfl | exact .inr rfl) (pe_ix ix_list (pe_lst (pa_cons pe_str (pa_cons pe_str (pa_cons pe_str (pa_cons pe_str (pa_cons pe_str (pa_cons pe_str (pa_cons pe_str (pa_cons pe_str pa_nil))))))))) (pe_fn (ok__law_draw T) (hr.mono (by decide)) (by rfl) (pa_cons (pv 0) (pa_cons pe_int pa_nil))) (fun _ _ => rfl)))
  (pss_cut (ps_if (pt_cmpR op_eq (pe_fn (ok__law_draw T) (hr.mono (by decide)) (by rfl) (pa_cons (pv 0) (pa_cons pe_int pa_nil))) pe_int (nomark _))
  (pss_one (ps_set (i := 1) sc__law_unknown_kind.nd rfl (by first | exact .inl rfl | exact .inr rfl) (pe_fn (ok__law_text T) hr (by rfl) (pa_cons (pv 0) pa_nil))))
  pss_nil)
  (pss_cut (ps_if (pt_cmpR op_in_seq (pv 1) (pe_fn0 (ok__law_kinds T) (hr.mono (by decide)) (by rfl)) (by first | rfl | with_unfolding_all rfl))
  (pss_one (ps_set (i := 1) sc__law_unknown_kind.nd rfl (by first | exact .inl rfl | exact .inr rfl) (pe_op oAddS (pv 1) pe_str)))
  pss_nil)
  (pss_one (ps_ret (pv 1)))))), ?_⟩
  walk_at "en"
  intro p H1 n1 e1 hp
  have hpa := src_ne hS n1
  walk_at "rd"
  refine r_draw (hS.ex e1) (by decide) (by decide) fun H2 d b2 s2 d0 d1 => ?_
  obtain ⟨v, hv, ha, _⟩ := atI_in (xs := U8.map V.str) d0 d1
  refine r_ixL (SqL.of (b2 _ _ hpa hp)) ha ?_
  obtain ⟨z, hz, rfl⟩ := List.mem_map.mp hv
  have hzA := U8_asc z hz
  have b02 := (But.of (l := a) e1).trans b2
  clear hz ha hv
  walk_at "rd"
  refine r_cut (fun σ' H' => ∃ z : Str, σ' = [some (.ref a), some (.str z)] ∧ But a H H' ∧ Src H' a ∧ Asc z ∧ z.length ≤ 60) ?_ ?_
  · walk_at "rd"
    refine r_draw s2 (by decide) (by decide) fun H3 d3 b3 s3 d30 d31 => ?_
    walk_at "rd"
    walk_at "sp" <;> intro h0
    · walk_at "rd"
      refine r_drawn s3 fun H4 v b4 s4 hv => ?_
      obtain ⟨y, rfl, hy, hA⟩ := hv
      walk_at "rd"
      exact ⟨y, rfl, (b02.trans b3).trans b4, s4, fun c hc => C94_asc c (hA c hc), hy⟩
    · walk_at "rd"
      exact ⟨z, rfl, b02.trans b3, s3, hzA⟩
  rintro σ' H3 ⟨y, rfl, b3, s3, hy⟩
  refine r_cut (fun σ' H' => ∃ z : Str, σ' = [some (.ref a), some (.str z)] ∧ But a H H' ∧ Src H' a ∧ z ∉ KN ∧ Asc z ∧ z.length ≤ 60) ?_ ?_
  · walk_at "rd"
    refine ⟨rfl, fun H4 q e4 nq hq => ?_⟩
    walk_at "rd"
    refine r_inF (.inl (SqL.of hq)) rfl rfl ?_
    by_cases hκ : y ∈ KN
    · rw [inKN y hκ]
      have hx := KN_x y hκ
      walk_at "rd"
      exact ⟨_, rfl, b3.same' e4, s3.ex e4, hx.1, hx.2.1, hx.2.2.1⟩
    · rw [notKN hκ]
      walk_at "rd"
      exact ⟨y, rfl, b3.same' e4, s3.ex e4, hκ, hy⟩
  rintro σ' H4 ⟨y, rfl, b4, s4, hy⟩
  walk_at "rd"
  exact k _ _ b4 s4 ⟨y, rfl, hy⟩

/-! ### what was drawn for one record set, and the record of it -/
structure Row6 where
  zs : List Str
  κ : Str
  t : Int
  es : List PyData
def MadeAt (K : PySem.W.Frag) (H : Hp) (u : Addr) (m : Row6) : Prop := ∃ n l outs, H u = some (.tup [.ref n, .str m.κ, .int m.t, .ref l]) ∧ SqT K H n (m.zs.map V.str) ∧ H l = some (.lst outs) ∧ DpAll K H outs m.es

/-! ### what is drawn for one record set -/
/-- a drawn row, while it is made: the kind its values were drawn for, the five flags, and how many values at most -/
def Mst (K : PySem.W.Frag) (H : Hp) (a : Addr) (wr : Int) (κ0 : Str) (sm : Addr) (bs : List Bool) (un : Prop) (N : Nat) (σ' : L2.St) (H' : Hp) : Prop := ∃ (κ : Str) (n : Addr) (t : Int) (l : Addr) (kv pv : Option V) (zs : List Str) (outs : List V) (es : List PyData),
  σ' = [some (.ref a), some (.int wr), some (.str κ), some (.ref n), some (.int t), some (.ref l), kv, some (.ref sm), pv] ∧ But a H H' ∧ Src H' a ∧ H' sm = some (.lst (bs.map V.bl)) ∧ (κ = κ0 ∨ un ∧ κ ∉ KN ∧ Asc κ ∧ κ.length ≤ 60) ∧ SqT K H' n (zs.map V.str) ∧ OddL zs ∧ zs.length ≤ 14 ∧ t.natAbs < 10 ^ 100 ∧ H l = none ∧ H' l = some (.lst outs) ∧ DpAll K H' outs es ∧ (∀ e ∈ es, VlD κ0 e) ∧ es.length ≤ N
theorem cutV_from {xs : List V} {n : Int} (h0 : 0 ≤ n) : cutV xs (some n) none = xs.drop n.toNat := by
  unfold cutV
  have e1 : HT.sIx xs.length xs.length none = xs.length := rfl
  have e0 : HT.sIx xs.length 0 (some n) = min n.toNat xs.length := by
    show (if n < 0 then (n + (xs.length : Int)).toNat else min n.toNat xs.length) = _
    rw [if_neg (by omega)]
  rw [e0, e1]
  by_cases h : n.toNat ≤ xs.length
  · rw [Nat.min_eq_left h, List.take_of_length_le (by rw [List.length_drop]; omega)]
  · rw [Nat.min_eq_right (by omega), List.drop_of_length_le (Nat.le_refl _), List.drop_of_length_le (by omega)]
    simp
theorem vld_p {es : List PyData} {κ : Str} (h : ∀ e ∈ es, VlD κ e) : pureAll es = true := (pureAll_iff es).mpr fun e he => (h e he).pure
def Made7 (m : Row6) : Prop := OddL m.zs ∧ m.zs.length ≤ 14 ∧ Asc m.κ ∧ m.κ.length ≤ 60 ∧ m.t.natAbs < 10 ^ 100 ∧ m.es.length ≤ 201 ∧ ∃ κ0, (m.κ = κ0 ∨ m.κ ∉ KN) ∧ ∀ e ∈ m.es, VlD κ0 e
theorem some_at {bs : List Bool} (hb : bs.length = 5) {i : Nat} (hi : i < 5) : ∃ b, (bs.map V.bl)[i]? = some (.bl b) := by
  refine ⟨bs[i], ?_⟩
  rw [List.getElem?_map, List.getElem?_eq_getElem (by omega)]
  rfl
theorem ok__law_made (T : Txt K mg) : Fn P w K mg base 6 "_law_made" ["source"] (fun vs H Q _ => ∃ a : Addr, vs = [.ref a] ∧ Src H a ∧ ∀ H' u n l outs m, But a H H' → Src H' a → H u = none → H l = none → H' u = some (.tup [.ref n, .str m.κ, .int m.t, .ref l]) → SqT K H' n (m.zs.map V.str) → H' l = some (.lst outs) → DpAll K H' outs m.es → Made7 m → Q (.ref u) H') := by
  refine T.d__law_made.ok sc__law_made (by rintro vs H Q E ⟨_, rfl, _⟩; rfl) (fun f cdv A outer s H vs Q E hr h => ?_)
  obtain ⟨a, rfl, hS, k⟩ := h
  refine ⟨_, (pss_cons (ps_set (i := 1) sc__law_made.nd rfl (by first | exact .inl rfl | exact .inr rfl) (pe_fn (ok__law_draw T) (hr.mono (by decide)) (by rfl) (pa_cons (pv 0) (pa_cons pe_int pa_nil))))
  (pss_cons (ps_set (i := 2) sc__law_made.nd rfl (by first | exact .inl rfl | exact .inr rfl) (pe_ix ix_list (pe_fn0 (ok__law_kinds T) (hr.mono (by decide)) (by rfl)) (pe_fn (ok__law_draw T) (hr.mono (by decide)) (by rfl) (pa_cons (pv 0) (pa_cons pe_int pa_nil))) (fun _ _ => rfl)))
  (pss_cut (ps_if (pt_cut (PW.pt (pw_and (pt_cmpR op_eq (pv 1) pe_int (nomark _)) (pw_and1 (pt_cmpR op_eq (pe_fn (ok__law_draw T) (hr.mono (by decide)) (by rfl) (pa_cons (pv 0) (pa_cons pe_int pa_nil))) pe_int (nomark _))))))
  (pss_one (ps_set (i := 2) sc__law_made.nd rfl (by first | exact .inl rfl | exact .inr rfl) pe_str))
  pss_nil)
  (pss_cons (ps_set (i := 3) sc__law_made.nd rfl (by first | exact .inl rfl | exact .inr rfl) (pe_fn (ok__law_name T) (hr.mono (by decide)) (by rfl) (pa_cons (pv 0) pa_nil)))
  (pss_cons (ps_set (i := 4) sc__law_made.nd rfl (by first | exact .inl rfl | exact .inr rfl) (pe_fn (ok__law_word T) (hr.mono (by decide)) (by rfl) (pa_cons (pv 0) pa_nil)))
  (pss_cons (ps_set (i := 5) sc__law_made.nd rfl (by first | exact .inl rfl | exact .inr rfl) (pe_lst (pa_cons (pe_fn (ok__law_value T) (hr.mono (by decide)) (by rfl) (pa_cons (pv 2) (pa_cons (pv 0) pa_nil))) pa_nil)))
  (pss_cut (ps_if (pt_cmpR op_notIn_seq (pv 2) (pe_lst (pa_cons pe_str (pa_cons pe_str (pa_cons pe_str pa_nil)))) (by first | rfl | with_unfolding_all rfl))
  (pss_one (ps_for PassesOwn.never rfl (pi_range1 rfl T.m_range (pa_cons (pe_fn (ok__law_draw T) (hr.mono (by decide)) (by rfl) (pa_cons (pv 0) (pa_cons pe_int pa_nil))) pa_nil)) (pg_name (i := 6) sc__law_made.nd rfl (.inl rfl))
  (pss_one (ps_expr (pe_bm PySem.F.plainAttrs_list PySem.F.slot_list_append PySem.F.type_list_append mt_append (pv 5) (pa_cons (pe_fn (ok__law_value T) (hr.mono (by decide)) (by rfl) (pa_cons (pv 2) (pa_cons (pv 0) pa_nil))) pa_nil))))))
  pss_nil)
  (pss_cons (ps_setLc (i := 7) (own := [("k", 6)]) (g := (gName 6)) (tt := tYes) rfl sc__law_made.nd rfl rfl (sw_true rfl rfl rfl (by decide +kernel)) (pi_range1 rfl T.m_range (pa_cons pe_int pa_nil)) (blkOk_by (N := ["source", "wrong", "kind", "name", "ttl", "values", "k", "some", "place"]) (sc := defScope s__law_made) (by decide +kernel)) (fun _ _ _ _ _ => (pg_name (i := 6) sc__law_made.nd rfl (Or.inl rfl))) (fun _ _ _ _ _ => pts_nil) (fun _ _ _ _ _ => (pe_and (pe_cmpR op_eq (pv 1) pe_int (nomark _)) (pe_one (pe_cmpR op_eq (pe_fn (ok__law_draw T) (hr.mono (by decide)) (by rfl) (pa_cons (pv 0) (pa_cons pe_int pa_nil))) pe_int (nomark _))))))
  (pss_cut (ps_if (pt_cut (PW.pt (pw_or (pt_cmpR op_eq (pv 1) pe_int (nomark _)) (pw_or1 (pt_val (pe_ix ix_list (pv 7) pe_int (fun _ _ => rfl)))))))
  (pss_one (ps_set (i := 5) sc__law_made.nd rfl (by first | exact .inl rfl | exact .inr rfl) (pe_fn (ok__law_counted T) (hr.mono (by decide)) (by rfl) (pa_cons (pv 2) (pa_cons (pv 0) pa_nil)))))
  pss_nil)
  (pss_cut (ps_if (pt_cut (PW.pt (pw_or (pt_cmpR op_eq (pv 1) pe_int (nomark _)) (pw_or1 (pt_val (pe_ix ix_list (pv 7) pe_int (fun _ _ => rfl)))))))
  (pss_cons (ps_set (i := 8) sc__law_made.nd rfl (by first | exact .inl rfl | exact .inr rfl) (pe_op op_mod (pe_callTy cInt (by rfl) T.m_int (by decide +kernel) (pa_cons (pe_fn (ok__law_draw T) (hr.mono (by decide)) (by rfl) (pa_cons (pv 0) (pa_cons pe_int pa_nil))) pa_nil)) (pe_op op_add (pe_callB cLenQ (by rfl) T.m_len PySem.boot_len (pa_cons (pv 5) pa_nil)) pe_int)))
  (pss_one (ps_set (i := 5) sc__law_made.nd rfl (by first | exact .inl rfl | exact .inr rfl) (pe_op op_cat (pe_op op_cat (pe_slice sl_list (pv 5) po_none (po_some (pv 8))) (pe_lst (pa_cons (pe_fn (ok__law_odd_value T) hr (by rfl) (pa_cons (pv 2) (pa_cons (pv 0) pa_nil))) pa_nil))) (pe_slice sl_list (pv 5) (po_some (pe_op op_add (pv 8) pe_int)) po_none)))))
  pss_nil)
  (pss_cut (ps_if (pt_cut (PW.pt (pw_or (pt_cmpR op_eq (pv 1) pe_int (nomark _)) (pw_or1 (pt_val (pe_ix ix_list (pv 7) pe_int (fun _ _ => rfl)))))))
  (pss_one (ps_set (i := 4) sc__law_made.nd rfl (by first | exact .inl rfl | exact .inr rfl) (pe_fn (ok__law_odd_number T) (hr.mono (by decide)) (by rfl) (pa_cons (pv 0) (pa_cons pe_int pa_nil)))))
  pss_nil)
  (pss_cut (ps_if (pt_cut (PW.pt (pw_or (pt_cmpR op_eq (pv 1) pe_int (nomark _)) (pw_or1 (pt_val (pe_ix ix_list (pv 7) pe_int (fun _ _ => rfl)))))))
  (pss_one (ps_set (i := 2) sc__law_made.nd rfl (by first | exact .inl rfl | exact .inr rfl) (pe_fn (ok__law_unknown_kind T) (hr.mono (by decide)) (by rfl) (pa_cons (pv 0) pa_nil))))
  pss_nil)
  (pss_cut (ps_if (pt_cut (PW.pt (pw_or (pt_cmpR op_eq (pv 1) pe_int (nomark _)) (pw_or1 (pt_val (pe_ix ix_list (pv 7) pe_int (fun _ _ => rfl)))))))
  (pss_one (ps_set (i := 3) sc__law_made.nd rfl (by first | exact .inl rfl | exact .inr rfl) (pe_fn (ok__law_odd_labels T) (hr.mono (by decide)) (by rfl) (pa_cons (pv 0) pa_nil))))
  pss_nil)
  (pss_one (ps_ret (pe_tup (pa_cons (pv 3) (pa_cons (pv 2) (pa_cons (pv 4) (pa_cons (pv 5) pa_nil)))))))))))))))))))), ?_⟩
  walk_at "en"
  refine r_draw hS (by decide) (by decide) fun H1 wr b1 s1 d0 d1 => ?_
  walk_at "rd"
  refine ⟨rfl, fun H2 p e2 n2 hp => ?_⟩
  walk_at "rd"
  refine r_draw (s1.ex e2) (by decide) (by decide) fun H3 d3 b3 s3 d30 d31 => ?_
  have hpa := src_ne s1 n2
  obtain ⟨v, hv, ha, _⟩ := atI_in (xs := KN.map V.str) d30 d31
  refine r_ixL (SqL.of (b3 _ _ hpa hp)) ha ?_
  obtain ⟨κ, hκ, rfl⟩ := List.mem_map.mp hv
  have b03 := (b1.same' e2).trans b3
  clear ha hv
  walk_at "rd"
  refine r_cut (fun σ' H' => ∃ κ : Str, σ' = [some (.ref a), some (.int wr), some (.str κ), none, none, none, none, none, none] ∧ But a H H' ∧ Src H' a ∧ κ ∈ KN) ?_ ?_
  · walk_at "rd"
    refine r_cutT (fun _ H' => But a H H' ∧ Src H' a) ?_ ?_
    · walk_at "rd"
      walk_at "sp" <;> intro h0
      · walk_at "rd"
        refine r_draw s3 (by decide) (by decide) fun H4 d4 b4 s4 d40 d41 => ?_
        walk_at "rd"
        exact ⟨b03.trans b4, s4⟩
      · walk_at "rd"
        exact ⟨b03, s3⟩
    · rintro c H' ⟨b', s'⟩
      cases c with
      | true =>
        walk_at "rd"
        exact ⟨_, rfl, b', s', by decide +kernel⟩
      | false =>
        walk_at "rd"
        exact ⟨κ, rfl, b', s', hκ⟩

  rintro σ' H4 ⟨κ, rfl, b4, s4, hκ⟩
  walk_at "rd"
  refine r_drawn s4 fun H5 v b5 s5 hv => ?_
  obtain ⟨n, zs, rfl, hn5, hnb⟩ := hv
  walk_at "rd"
  refine r_drawn s5 fun H6 v b6 s6 hv => ?_
  obtain ⟨t, rfl, t0, t1⟩ := hv
  have hn6 := but_tN b6 (src_noTup s5) hn5
  walk_at "rd"
  refine ⟨κ, a, rfl, s6, fun H7 v d b7 s7 hd hv => ?_⟩
  have hn7 := but_tN b7 (src_noTup s6) hn6
  walk_at "rd"
  intro l H8 n8 e8 hl
  have b08 : But a H H8 := (((b4.trans b5).trans b6).trans b7).same' e8
  have hla := src_ne s7 n8
  have nl : H l = none := but_fresh (((b4.trans b5).trans b6).trans b7) hla n8
  walk_at "rd"
  refine r_cut (fun σ' H' => ∃ kv outs es, σ' = [some (.ref a), some (.int wr), some (.str κ), some (.ref n), some (.int t), some (.ref l), kv, none, none] ∧ But a H H' ∧ Src H' a ∧ SqT K H' n (zs.map V.str) ∧ H' l = some (.lst outs) ∧ DpAll K H' outs es ∧ (∀ e ∈ es, vlG κ e) ∧ es.length ≤ 4) ?_ ?_
  · walk_at "rd"
    intro q H9 n9 e9 hq
    refine r_notInF (.inl (SqL.of hq)) rfl rfl ?_
    rw [inS3]
    walk_at "rd"
    have s9 := (s7.ex e8).ex e9
    have hl9 := e9 _ _ hl
    have hd9 : DpAll K H9 [v] [d] := .cons (dp_ex (e8.trans e9) _ _ hd) .nil
    have hn9 := ex_t (e8.trans e9) hn7
    have hv1 : ∀ e ∈ [d], vlG κ e := fun e he => by rw [List.mem_singleton.mp he]; exact hv
    cases hs : sgB κ with
    | true =>
      walk_at "rd"
      exact ⟨_, _, _, rfl, b08.same' e9, s9, hn9, hl9, hd9, hv1, by simp⟩
    | false =>
      walk_at "rd"
      refine r_draw s9 (by decide) (by decide) fun H10 d10 b10 s10 d100 d101 => ?_
      have nt9 := src_noTup s9
      walk_at "rd"
      refine loopR (fun i σ' H' => ∃ kv outs es, σ' = [some (.ref a), some (.int wr), some (.str κ), some (.ref n), some (.int t), some (.ref l), kv, none, none] ∧ But a H H' ∧ Src H' a ∧ SqT K H' n (zs.map V.str) ∧ H' l = some (.lst outs) ∧ DpAll K H' outs es ∧ (∀ e ∈ es, vlG κ e) ∧ es.length ≤ 1 + i) ⟨_, _, _, rfl, (b08.same' e9).trans b10, s10, but_tN b10 nt9 hn9, b10 _ _ hla hl9, dpAll_but b10 nt9 _ _ (vlG_p hv1) hd9, hv1, by simp⟩ ?_ ?_
      · rintro i σ' H' hi ⟨kv, outs, es, rfl, b, s', hn', hl', hd', hv', hle⟩
        walk_at "rd"
        refine r_append hl' ?_
        walk_at "rd"
        refine ⟨κ, a, rfl, s', fun H11 v11 e11 b11 s11 hd11 hv11 => ?_⟩
        walk_at "rd"
        have nt := src_noTup s'
        have hn11 := but_tN b11 nt hn'
        refine r_appV (b11 _ _ hla hl') (dpAll_but b11 nt _ _ (vlG_p hv') hd') hv' (by omega) hd11 hv11 fun H12 o12 b12 h12 hd12 hv12 => ?_
        exact ⟨_, _, _, rfl, (b.trans b11).step b12 nl, s11.but b12 hla.symm, but_tN b12 (noTup_l (b11 _ _ hla hl')) hn11, h12, hd12, hv12, by simp; omega⟩
      · rintro σ' H' ⟨kv, outs, es, rfl, b, s', hn', hl', hd', hv', hle⟩
        walk_at "rd"
        exact ⟨_, _, _, rfl, b, s', hn', hl', hd', hv', by omega⟩
  rintro σ' H9 ⟨kv, outs, es, rfl, b9, s9, hn9, hl9, hd9, hv9, hle9⟩
  have hv9 : ∀ e ∈ es, VlD κ e := fun e he => (hv9 e he).toD
  clear hl hn7 hn6 hn5 hd hv s7 b08 b7 b6 b5 b4
  walk_at "rd"
  refine lcRg (fun D i H' => But a H9 H' ∧ Src H' a ∧ H9 D = none ∧ ∃ bs : List Bool, H' D = some (.lst (bs.map V.bl)) ∧ bs.length = i) (fun D H2 n2 e2 h2 => ⟨But.of e2, s9.ex e2, n2, [], h2, rfl⟩) ?_ ?_
  · rintro D i H' hi ⟨b, s', nD, bs, hD, hbs⟩
    have hDa := src_ne s9 nD
    walk_at "rd"
    refine ⟨rfl, ?_⟩
    walk_at "rd"
    by_cases h8 : wr = 8
    · rw [decide_eq_true h8]
      walk_at "rd"
      refine r_draw s' (by decide) (by decide) fun H11 d11 b11 s11 _ _ => ?_
      walk_at "rd"
      exact r_yield (b11 _ _ hDa hD) (by rw [List.length_map]; omega) fun H12 b12 h12 => ⟨(b.trans b11).step b12 nD, s11.but b12 hDa.symm, nD, bs ++ [_], by rw [h12, List.map_append]; rfl, by simp [hbs]⟩
    · rw [decide_eq_false h8]
      walk_at "rd"
      exact r_yield hD (by rw [List.length_map]; omega) fun H12 b12 h12 => ⟨b.step b12 nD, s'.but b12 hDa.symm, nD, bs ++ [_], by rw [h12, List.map_append]; rfl, by simp [hbs]⟩
  rintro D H10 ⟨b10, s10, nD, bs, hD, hbs⟩
  have hDa := src_ne s9 nD
  have hla9 := hla
  have nt9 := src_noTup s9
  walk_at "rd"
  have nDH : H D = none := but_fresh b9 hDa nD
  have hD0 : D ≠ a := hDa
  have hn10 := but_tN b10 nt9 hn9
  have hl10 := b10 _ _ hla hl9
  have hd10 := dpAll_but b10 nt9 _ _ (vld_p hv9) hd9
  have b010 := b9.trans b10
  have htt : t.natAbs < 10 ^ 100 := Nat.lt_of_le_of_lt (m := 4294967295) (by omega) (by decide +kernel)
  have hzl : zs.length ≤ 14 := by have := name_len hnb; omega
  refine r_cut (fun σ' H' => Mst K H a wr κ D bs False 200 σ' H') ?_ ?_
  · walk_at "rd"
    refine r_cutT (fun _ H' => H' = H10) ?_ ?_
    · walk_at "rd"
      walk_at "sp" <;> intro h0
      · rfl
      · obtain ⟨b, hb⟩ := some_at hbs (i := 0) (by decide)
        walk_at "rd"
        refine r_ixL (SqL.of hD) (atI_nat hb) ?_
        exact r_bl rfl
    · rintro c H' rfl
      cases c with
      | true =>
        walk_at "rd"
        refine ⟨κ, a, rfl, s10, fun H11 q b11 nq s11 ⟨outs2, es2, hq2, hd2, hv2, hl2⟩ => ?_⟩
        have hqa := src_ne s10 nq
        have nt := src_noTup s10
        walk_at "rd"
        exact ⟨κ, n, t, q, _, _, zs, outs2, es2, rfl, b010.trans b11, s11, b11 _ _ hD0 hD, .inl rfl, but_tN b11 nt hn10, name_odd hnb, hzl, htt, but_fresh b010 hqa nq, hq2, hd2, fun e he => (hv2 e he).toD, hl2⟩
      | false =>
        walk_at "rd"
        exact ⟨κ, n, t, l, _, _, zs, outs, es, rfl, b010, s10, hD, .inl rfl, hn10, name_odd hnb, hzl, htt, nl, hl10, hd10, hv9, by omega⟩
  clear hn10 hl10 hd10 b010 htt hzl hD b10 s10 hn9 hl9 hd9 hv9 hle9 nl hla hla9
  rintro σ' H11 ⟨κ1, n, t, l, kv, pv, zs, outs, es, rfl, b11, s11, hsm, hk, hn, hz, hzl, ht, nl, hl, hd, hv, hle⟩
  have hk : κ1 = κ := hk.resolve_right fun z => z.1
  subst hk
  have hla : l ≠ a := src_ne hS nl
  refine r_cut (fun σ' H' => Mst K H a wr κ1 D bs True 201 σ' H') ?_ ?_
  · walk_at "rd"
    refine r_cutT (fun _ H' => H' = H11) ?_ ?_
    · walk_at "rd"
      walk_at "sp" <;> intro h0
      · rfl
      · obtain ⟨b, hb⟩ := some_at hbs (i := 1) (by decide)
        walk_at "rd"
        refine r_ixL (SqL.of hsm) (atI_nat hb) ?_
        exact r_bl rfl
    · rintro c H' rfl
      cases c with
      | true =>
        walk_at "rd"
        refine r_draw s11 (by decide) (by decide) fun H12 d12 b12 s12 d120 d121 => ?_
        have nt11 := src_noTup s11
        have hl12 := b12 _ _ hla hl
        have hd12 := dpAll_but b12 nt11 _ _ (vld_p hv) hd
        have hol := dpAll_len hd
        walk_at "rd"
        have w0 := Int.emod_nonneg d12 (show (outs.length : Int) + 1 ≠ 0 by omega)
        have w1 := Int.emod_lt_of_pos d12 (show (0 : Int) < (outs.length : Int) + 1 by omega)
        generalize d12 % ((outs.length : Int) + 1) = pl at w0 w1
        walk_at "rd"
        refine r_slL (SqL.of hl12) fun p1 H13 n13 e13 hp1 => ?_
        rw [cutV_to w0] at hp1
        have hp1a := src_ne s12 n13
        walk_at "rd"
        refine ⟨κ1, a, rfl, s12.ex e13, fun H14 ov od b14 s14 hod hov => ?_⟩
        have nt13 := src_noTup (s12.ex e13)
        have hp1' := b14 _ _ hp1a hp1
        have hl14 := b14 _ _ hla (e13 _ _ hl12)
        have hd14 := dpAll_but b14 nt13 _ _ (vld_p hv) (dpAll_ex e13 _ _ hd12)
        walk_at "rd"
        intro p2 H15 n15 e15 hp2
        walk_at "rd"
        refine r_cat (e15 _ _ hp1') hp2 (by simp; omega) fun p3 H16 n16 e16 hp3 => ?_
        walk_at "rd"
        refine r_slL (SqL.of (e16 _ _ (e15 _ _ hl14))) fun p4 H17 n17 e17 hp4 => ?_
        rw [cutV_from (by omega)] at hp4
        walk_at "rd"
        refine r_cat (e17 _ _ hp3) hp4 (by simp; omega) fun p5 H18 n18 e18 hp5 => ?_
        walk_at "rd"
        have e1418 := e15.trans (e16.trans (e17.trans e18))
        have b018 : But a H H18 := (((b11.trans b12).same' e13).trans b14).same' e1418
        have hp5a := src_ne (s14.ex (e15.trans (e16.trans e17))) n18
        have n5 : H p5 = none := but_fresh (((b11.trans b12).same' e13).trans b14) hp5a (fresh_back (e15.trans (e16.trans e17)) n18)
        have hd18 := dpAll_ex e1418 _ _ hd14
        refine ⟨κ1, n, t, p5, _, _, zs, _, es.take pl.toNat ++ [od] ++ es.drop (pl + 1).toNat, rfl, b018, s14.ex e1418, e1418 _ _ (b14 _ _ hD0 (e13 _ _ (b12 _ _ hD0 hsm))), .inl rfl, ex_t e1418 (but_tN b14 nt13 (ex_t e13 (but_tN b12 nt11 hn))), hz, hzl, ht, n5, hp5, dpAll_app (dpAll_app (dpAll_take _ hd18) (.cons (dp_ex e1418 _ _ hod) .nil)) (dpAll_drop _ hd18), fun e he => ?_, ?_⟩
        · rcases List.mem_append.mp he with he | he
          · rcases List.mem_append.mp he with he | he
            · exact hv e (List.mem_of_mem_take he)
            · rw [List.mem_singleton.mp he]; exact hov
          · exact hv e (List.mem_of_mem_drop he)
        · simp; omega
      | false =>
        walk_at "rd"
        exact ⟨κ1, n, t, l, _, _, zs, outs, es, rfl, b11, s11, hsm, .inl rfl, hn, hz, hzl, ht, nl, hl, hd, hv, by omega⟩
  clear hn hl hd hv hz hzl ht nl hle hsm b11 s11 hla kv pv
  rintro σ' H12 ⟨κ2, n, t, l, kv, pv, zs, outs, es, rfl, b12, s12, hsm, hk, hn, hz, hzl, ht, nl, hl, hd, hv, hle⟩
  have hla : l ≠ a := src_ne hS nl
  refine r_cut (fun σ' H' => Mst K H a wr κ1 D bs True 201 σ' H') ?_ ?_
  · walk_at "rd"
    refine r_cutT (fun _ H' => H' = H12) ?_ ?_
    · walk_at "rd"
      walk_at "sp" <;> intro h0
      · rfl
      · obtain ⟨b, hb⟩ := some_at hbs (i := 2) (by decide)
        walk_at "rd"
        refine r_ixL (SqL.of hsm) (atI_nat hb) ?_
        exact r_bl rfl
    · rintro c H' rfl
      cases c with
      | true =>
        walk_at "rd"
        refine ⟨a, 4294967295, rfl, s12, by decide, by decide, fun H13 o b13 s13 _ hos => ?_⟩
        have nt := src_noTup s12
        walk_at "rd"
        exact ⟨κ2, n, o, l, _, _, zs, outs, es, rfl, b12.trans b13, s13, b13 _ _ hD0 hsm, hk, but_tN b13 nt hn, hz, hzl, hos, nl, b13 _ _ hla hl, dpAll_but b13 nt _ _ (vld_p hv) hd, hv, hle⟩
      | false =>
        walk_at "rd"
        exact ⟨κ2, n, t, l, _, _, zs, outs, es, rfl, b12, s12, hsm, hk, hn, hz, hzl, ht, nl, hl, hd, hv, hle⟩
  clear hn hl hd hv hz hzl ht nl hle hsm b12 s12 hla kv pv
  rintro σ' H13 ⟨κ2, n, t, l, kv, pv, zs, outs, es, rfl, b13, s13, hsm, hk, hn, hz, hzl, ht, nl, hl, hd, hv, hle⟩
  have hla : l ≠ a := src_ne hS nl
  refine r_cut (fun σ' H' => Mst K H a wr κ1 D bs True 201 σ' H') ?_ ?_
  · walk_at "rd"
    refine r_cutT (fun _ H' => H' = H13) ?_ ?_
    · walk_at "rd"
      walk_at "sp" <;> intro h0
      · rfl
      · obtain ⟨b, hb⟩ := some_at hbs (i := 3) (by decide)
        walk_at "rd"
        refine r_ixL (SqL.of hsm) (atI_nat hb) ?_
        exact r_bl rfl
    · rintro c H' rfl
      cases c with
      | true =>
        walk_at "rd"
        refine r_drawn s13 fun H14 v b14 s14 hv14 => ?_
        obtain ⟨z, rfl, hzK, hzA, hzl60⟩ := hv14
        have nt := src_noTup s13
        walk_at "rd"
        exact ⟨z, n, t, l, _, _, zs, outs, es, rfl, b13.trans b14, s14, b14 _ _ hD0 hsm, .inr ⟨trivial, hzK, hzA, hzl60⟩, but_tN b14 nt hn, hz, hzl, ht, nl, b14 _ _ hla hl, dpAll_but b14 nt _ _ (vld_p hv) hd, hv, hle⟩
      | false =>
        walk_at "rd"
        exact ⟨κ2, n, t, l, _, _, zs, outs, es, rfl, b13, s13, hsm, hk, hn, hz, hzl, ht, nl, hl, hd, hv, hle⟩
  clear hn hl hd hv hz hzl ht nl hle hsm b13 s13 hla kv pv hk
  rintro σ' H14 ⟨κ3, n, t, l, kv, pv, zs, outs, es, rfl, b14, s14, hsm, hk, hn, hz, hzl, ht, nl, hl, hd, hv, hle⟩
  have hla : l ≠ a := src_ne hS nl
  refine r_cut (fun σ' H' => Mst K H a wr κ1 D bs True 201 σ' H') ?_ ?_
  · walk_at "rd"
    refine r_cutT (fun _ H' => H' = H14) ?_ ?_
    · walk_at "rd"
      walk_at "sp" <;> intro h0
      · rfl
      · obtain ⟨b, hb⟩ := some_at hbs (i := 4) (by decide)
        walk_at "rd"
        refine r_ixL (SqL.of hsm) (atI_nat hb) ?_
        exact r_bl rfl
    · rintro c H' rfl
      cases c with
      | true =>
        walk_at "rd"
        refine r_drawn s14 fun H15 v b15 s15 hv15 => ?_
        obtain ⟨n2, zs2, rfl, hn2, hzl2, hz2⟩ := hv15
        have nt := src_noTup s14
        walk_at "rd"
        exact ⟨κ3, n2, t, l, _, _, zs2, outs, es, rfl, b14.trans b15, s15, b15 _ _ hD0 hsm, hk, hn2, hz2, hzl2, ht, nl, b15 _ _ hla hl, dpAll_but b15 nt _ _ (vld_p hv) hd, hv, hle⟩
      | false =>
        walk_at "rd"
        exact ⟨κ3, n, t, l, _, _, zs, outs, es, rfl, b14, s14, hsm, hk, hn, hz, hzl, ht, nl, hl, hd, hv, hle⟩
  clear hn hl hd hv hz hzl ht nl hle hsm b14 s14 hla kv pv hk
  rintro σ' H15 ⟨κ3, n, t, l, kv, pv, zs, outs, es, rfl, b15, s15, hsm, hk, hn, hz, hzl, ht, nl, hl, hd, hv, hle⟩
  have hla : l ≠ a := src_ne hS nl
  walk_at "rd"
  intro u H16 n16 e16 hu
  have hua := src_ne s15 n16
  refine k H16 u n l outs ⟨zs, κ3, t, es⟩ (b15.same' e16) (s15.ex e16) (but_fresh b15 hua n16) nl hu (ex_t e16 hn) (e16 _ _ hl) (dpAll_ex e16 _ _ hd) ⟨hz, hzl, ?_, ?_, ht, hle, κ1, hk.imp id fun z => z.2.1, hv⟩
  · rcases hk with hk | hk
    · show Asc κ3
      rw [hk]; exact (KN_asc _ hκ).1
    · exact hk.2.2.1
  · rcases hk with hk | hk
    · show κ3.length ≤ 60
      rw [hk]; have := (KN_asc _ hκ).2; omega
    · exact hk.2.2.2

/-! ### what the law holds for a name, a value, an allowed set -/
theorem ok__law_is_name (T : Txt K mg) : Fn P w K mg base 1 "_law_is_name" ["labels"] (fun vs H Q _ => ∃ (a : Addr) (zs : List Str), vs = [.ref a] ∧ SqT K H a (zs.map V.str) ∧ (∀ z ∈ zs, z.length ≤ 2000 ∧ Asc z) ∧ Q (.bl (nameB zs)) H) := by
  refine T.d__law_is_name.ok sc__law_is_name (by rintro vs H Q E ⟨_, _, rfl, _⟩; rfl) (fun f cdv A outer s H vs Q E hr h => ?_)
  obtain ⟨a, zs, rfl, ha, hz, k⟩ := h
  refine ⟨_, (pss_cons (ps_if (pt_cmpR op_gt (pe_callB cLenQ (by rfl) T.m_len PySem.boot_len (pa_cons (pv 0) pa_nil)) pe_int (nomark _))
  (pss_one (ps_ret pe_bl))
  pss_nil)
  (pss_cons (ps_for PassesOwn.never rfl (pi_range1 rfl T.m_range (pa_cons (pe_callB cLenQ (by rfl) T.m_len PySem.boot_len (pa_cons (pv 0) pa_nil)) pa_nil)) (pg_name (i := 1) sc__law_is_name.nd rfl (.inl rfl))
  (pss_cons (ps_set (i := 2) sc__law_is_name.nd rfl (by first | exact .inl rfl | exact .inr rfl) (pe_ix ix_tup (pv 0) (pv 1) (fun _ _ => rfl)))
  (pss_one (ps_if (pt_cut (PW.pt (pw_or (pt_cmpR op_ne (pv 2) pe_str (nomark _)) (pw_or1 (pt_cmpR op_lt (pv 1) (pe_op op_sub (pe_callB cLenQ (by rfl) T.m_len PySem.boot_len (pa_cons (pv 0) pa_nil)) pe_int) (nomark _))))))
  (pss_cons (ps_if (pt_cut (PW.pt (pw_or (pt_cmpR op_lt (pe_callB cLenS (by rfl) T.m_len PySem.boot_len (pa_cons (pv 2) pa_nil)) pe_int (nomark _)) (pw_or1 (pt_cmpR op_gt (pe_callB cLenS (by rfl) T.m_len PySem.boot_len (pa_cons (pv 2) pa_nil)) pe_int (nomark _))))))
  (pss_one (ps_ret pe_bl))
  pss_nil)
  (pss_one (ps_for PassesOwn.never rfl (pi_str (pv 2)) (pg_name (i := 3) sc__law_is_name.nd rfl (.inl rfl))
  (pss_one (ps_if (pt_cmpR oNotInS (pv 3) pe_str (by first | rfl | with_unfolding_all rfl))
  (pss_one (ps_ret pe_bl))
  pss_nil)))))
  pss_nil))))
  (pss_one (ps_ret pe_bl)))), ?_⟩
  walk_at "en"
  walk_at "sp" <;> intro h0
  · walk_at "rd"
    rw [List.length_map] at h0
    rw [show nameB zs = false by unfold nameB; rw [decide_eq_false (by omega)]; rfl] at k
    exact k
  rw [List.length_map] at h0
  walk_at "rd"
  rw [Int.toNat_natCast, List.length_map]
  refine loopR (fun i σ' H' => (∃ v1 v2 v3, σ' = [some (.ref a), v1, v2, v3]) ∧ H' = H ∧ ∀ (j : Nat) y, j < i → zs[j]? = some y → plainB y = true ∨ (j = zs.length - 1 ∧ y = "*")) ⟨⟨_, _, _, rfl⟩, rfl, fun j y h => by omega⟩ ?_ ?_
  · rintro i σ' H' hi ⟨⟨v1, v2, v3, rfl⟩, rfl, hall⟩
    obtain ⟨y, hy⟩ : ∃ y, zs[i]? = some y := ⟨_, List.getElem?_eq_getElem hi⟩
    have hyl := (hz y (List.mem_of_getElem? hy)).1
    have hz0 : (0 : Int) + (i : Nat) = (i : Nat) := by omega
    rw [hz0]
    walk_at "rd"
    refine r_ixT ha (atI_nat (by rw [List.getElem?_map, hy]; rfl)) ?_
    walk_at "rd"
    refine r_cutT (fun c H'' => H'' = H' ∧ (c = false → i = zs.length - 1 ∧ y = "*") ∧ (c = true → ¬ (i = zs.length - 1 ∧ y = "*"))) ?_ ?_
    · walk_at "rd"
      walk_at "sp" <;> intro h1
      · exact ⟨rfl, (fun h => by cases h), fun _ h => h1 h.2⟩
      · walk_at "rd"
        rw [List.length_map]
        by_cases h2 : (i : Int) < (zs.length : Int) - 1
        · rw [decide_eq_true h2]
          exact ⟨rfl, (fun h => by cases h), fun _ h => by omega⟩
        · rw [decide_eq_false h2]
          exact ⟨rfl, fun _ => ⟨by omega, h1⟩, fun h => by cases h⟩
    · rintro c G ⟨rfl, hc0, hc1⟩
      cases c with
      | false =>
        walk_at "rd"
        exact ⟨⟨_, _, _, rfl⟩, rfl, fun j x hj hx => by
          rcases Nat.lt_succ_iff_lt_or_eq.mp hj with hj | rfl
          · exact hall j x hj hx
          · rw [hy] at hx; cases hx; exact .inr (hc0 rfl)⟩
      | true =>
        have hq := hc1 rfl
        walk_at "rd"
        refine r_cutT (fun c G2 => G2 = G ∧ (c = false ↔ (1 ≤ y.length ∧ y.length ≤ 20))) ?_ ?_
        · walk_at "rd"
          walk_at "sp" <;> intro h2
          · exact ⟨rfl, ⟨(fun h => by cases h), fun h => by omega⟩⟩
          · walk_at "rd"
            refine ⟨rfl, ⟨fun h => ?_, fun h => decide_eq_false (by omega)⟩⟩
            have := of_decide_eq_false h
            omega
        · rintro c G2 ⟨rfl, hc⟩
          cases c with
          | true =>
            walk_at "rd"
            rw [name_no hy (by
              cases hp : plainB y with
              | false => rfl
              | true => cases hc.mpr (plain_iff.mp hp).1) hq] at k
            exact k
          | false =>
            have hlen := hc.mp rfl
            walk_at "rd"
            refine loopS (fun j σ' G3 => (∃ v3, σ' = [some (.ref a), some (.int (i : Nat)), some (.str y), v3]) ∧ G3 = G2 ∧ ∀ c ∈ y.cps.toList.take j, c ∈ CH.cps.toList) ⟨⟨_, rfl⟩, rfl, by simp⟩ ?_ ?_
            · rintro j c σ' _ hj ⟨⟨v3, rfl⟩, rfl, hch⟩
              walk_at "rd"
              walk_at "sp" <;> intro h4
              · walk_at "rd"
                rw [name_no hy (by
                  cases hp : plainB y with
                  | false => rfl
                  | true => exact absurd ((plain_iff.mp hp).2 c (List.mem_of_getElem? hj)) (by simpa [CH] using h4)) hq] at k
                exact k
              · walk_at "rd"
                exact ⟨⟨_, rfl⟩, rfl, take_mem hj hch (by simpa [CH] using h4)⟩
            · rintro σ' _ ⟨⟨v3, rfl⟩, rfl, hch⟩
              walk_at "rd"
              exact ⟨⟨_, _, _, rfl⟩, rfl, fun j x hj hx => by
                rcases Nat.lt_succ_iff_lt_or_eq.mp hj with hj | rfl
                · exact hall j x hj hx
                · rw [hy] at hx; cases hx; exact .inl (plain_iff.mpr ⟨hlen, fun c hc => hch c (by rw [List.take_length]; exact hc)⟩)⟩
  · rintro σ' H' ⟨⟨v1, v2, v3, rfl⟩, rfl, hall⟩
    walk_at "rd"
    rw [name_yes (by omega) fun j y hy => hall j y (List.getElem?_eq_some_iff.mp hy).1 hy] at k
    exact k
/-! the kinds in their order -/
theorem up_unique {f : Str → Nat} : ∀ {xs ys : List Str}, xs.Pairwise (fun a b => f a < f b) → ys.Pairwise (fun a b => f a < f b) → (∀ z, z ∈ xs ↔ z ∈ ys) → xs = ys
  | [], [], _, _, _ => rfl
  | [], y :: ys, _, _, h => absurd ((h y).mpr List.mem_cons_self) (by simp)
  | x :: xs, [], _, _, h => absurd ((h x).mp List.mem_cons_self) (by simp)
  | x :: xs, y :: ys, hx, hy, h => by
    obtain ⟨hx1, hx2⟩ := List.pairwise_cons.mp hx
    obtain ⟨hy1, hy2⟩ := List.pairwise_cons.mp hy
    have e : x = y := by
      rcases List.mem_cons.mp ((h x).mp List.mem_cons_self) with e | m1
      · exact e
      rcases List.mem_cons.mp ((h y).mpr List.mem_cons_self) with e | m2
      · exact e.symm
      have := hy1 x m1
      have := hx1 y m2
      omega
    subst e
    have ne1 : ∀ z ∈ xs, z ≠ x := fun z hz e => by subst e; have := hx1 z hz; omega
    have ne2 : ∀ z ∈ ys, z ≠ x := fun z hz e => by subst e; have := hy1 z hz; omega
    rw [up_unique hx2 hy2 fun z => ⟨fun m => (List.mem_cons.mp ((h z).mp (List.mem_cons_of_mem _ m))).resolve_left (ne1 z m), fun m => (List.mem_cons.mp ((h z).mpr (List.mem_cons_of_mem _ m))).resolve_left (ne2 z m)⟩]
theorem KN_up : KN.Pairwise (fun a b => kIdx a < kIdx b) := by decide +kernel
theorem inV_strs {z : Str} : ∀ {ks : List Str}, inV (.str z) (ks.map V.str) = true ↔ z ∈ ks
  | [] => by simp [inV]
  | k :: ks => by
    have e : inV (.str z) ((k :: ks).map V.str) = (k == z || inV (.str z) (ks.map V.str)) := rfl
    rw [e, Bool.or_eq_true, inV_strs, List.mem_cons, beq_iff_eq]
    exact ⟨fun h => h.imp Eq.symm id, fun h => h.imp Eq.symm id⟩
theorem ord_eq {ks : List Str} (hA : ∀ k ∈ ks, Asc k) (hl : ks.length ≤ 12) : ordB ks = true ↔ ks = KN.filter fun z => inV (.str z) (ks.map V.str) := by
  unfold ordB
  have p2 : pureD (dT ks) = true := (show nameD (dT ks) from ⟨_, rfl, hA, by omega⟩).pure.1
  have p3 : pureD (dT (KN.filter fun z => inV (.str z) (ks.map V.str))) = true := (show nameD _ from ⟨_, rfl, fun z hz => (KN_asc z (List.mem_filter.mp hz).1).1, by have h1 := List.length_filter_le (fun z => inV (.str z) (ks.map V.str)) KN; have h2 : KN.length = 9 := rfl; omega⟩).pure.1
  rw [eqv_iff p2 p3]
  exact ⟨dT_inj, fun h => congrArg dT h⟩
theorem ord_iff {ks : List Str} (h : KsD ks) : ordB ks = true ↔ (∀ z ∈ ks, z ∈ KN) ∧ ks.Pairwise fun a b => kIdx a < kIdx b := by
  rw [ord_eq h.2 h.1]
  constructor
  · intro e
    rw [e]
    exact ⟨fun z hz => (List.mem_filter.mp hz).1, List.Pairwise.sublist List.filter_sublist KN_up⟩
  · rintro ⟨h1, h2⟩
    refine up_unique h2 (List.Pairwise.sublist List.filter_sublist KN_up) fun z => ?_
    rw [List.mem_filter, inV_strs]
    exact ⟨fun m => ⟨h1 z m, m⟩, fun m => m.2⟩
theorem filter_map_if {f : Str → Bool} : ∀ xs : List Str, xs.filter f = (xs.map fun z => (z, f z)).filterMap fun p => if p.2 = true then some p.1 else none
  | [] => rfl
  | x :: xs => by
    rw [List.map_cons, List.filterMap_cons, List.filter_cons, filter_map_if xs]
    cases h : f x <;> simp [h]
theorem pick_all : ∀ b0 b1 b2 b3 b4 b5 b6 b7 b8 : Bool, ([("address", b0), ("text", b1), ("mail", b2), ("alias", b3), ("server", b4), ("start", b5), ("key", b6), ("link", b7), ("gap", b8)] : List (Str × Bool)).filterMap (fun p => if p.2 = true then some p.1 else none) = pick (b0.toNat + 2 * b1.toNat + 4 * b2.toNat + 8 * b3.toNat + 16 * b4.toNat + 32 * b5.toNat + 64 * b6.toNat + 128 * b7.toNat + 256 * b8.toNat) := by decide +kernel
theorem filter_pick (f : Str → Bool) : ∃ b, b < 512 ∧ KN.filter f = pick b := by
  rw [filter_map_if]
  refine ⟨_, ?_, pick_all (f "address") (f "text") (f "mail") (f "alias") (f "server") (f "start") (f "key") (f "link") (f "gap")⟩
  have h1 : ∀ b : Bool, b.toNat ≤ 1 := by decide
  have a0 := h1 (f "address"); have a1 := h1 (f "text"); have a2 := h1 (f "mail"); have a3 := h1 (f "alias"); have a4 := h1 (f "server"); have a5 := h1 (f "start"); have a6 := h1 (f "key"); have a7 := h1 (f "link"); have a8 := h1 (f "gap")
  omega
theorem ord_pick {ks : List Str} (h : KsD ks) (ho : ordB ks = true) : ∃ b, b < 512 ∧ ks = pick b := by
  obtain ⟨b, hb, e⟩ := filter_pick fun z => inV (.str z) (ks.map V.str)
  exact ⟨b, hb, ((ord_eq h.2 h.1).mp ho).trans e⟩
theorem and_t {a b : Bool} (h : true = (a && b)) : a = true ∧ b = true := by
  cases a <;> cases b <;> first | exact ⟨rfl, rfl⟩ | cases h
/-- what is said to be a value is a good one -/
theorem VlR.good {κ : Str} {d : PyData} (h : VlR κ d true) : vlG κ d := by
  unfold VlR at h
  unfold vlG
  split
  · rename_i c; rw [if_pos c] at h
    obtain ⟨z, rfl, hA, _, e⟩ := h
    exact ⟨z, rfl, hA, e.symm⟩
  rename_i c; rw [if_neg c] at h
  split
  · rename_i c; rw [if_pos c] at h
    obtain ⟨i, n, zs, rfl, h1, e⟩ := h
    obtain ⟨e1, e2⟩ := and_t e
    have e1 := of_decide_eq_true e1
    exact ⟨i, n, rfl, ⟨zs, h1.1, e2⟩, e1.1, e1.2⟩
  rename_i c; rw [if_neg c] at h
  split
  · rename_i c; rw [if_pos c] at h
    obtain ⟨zs, h1, e⟩ := h
    exact ⟨zs, h1.1, e.symm⟩
  rename_i c; rw [if_neg c] at h
  split
  · rename_i c; rw [if_pos c] at h
    obtain ⟨i, j, rfl, e⟩ := h
    exact ⟨i, j, rfl, and_t e⟩
  rename_i c; rw [if_neg c] at h
  split
  · rename_i c; rw [if_pos c] at h
    obtain ⟨n, zs, ks, rfl, h1, hk, e⟩ := h
    obtain ⟨e1, e2⟩ := and_t e
    obtain ⟨b, hb, rfl⟩ := ord_pick hk e2
    exact ⟨n, b, rfl, ⟨zs, h1.1, e1⟩, hb⟩
  rename_i c; rw [if_neg c] at h
  obtain ⟨i, rfl, e⟩ := h
  exact ⟨i, rfl, e.symm⟩
theorem ord_good {κ : Str} {es : List PyData} (h : ∀ d ∈ es, vlG κ d) : Ord es := fun d hd => by
  have hv := (h d hd).valK
  exact ⟨⟨hv.pure.1, by have := hv.pure.2; omega⟩, fun e he => hv.alike (h e he).valK⟩
theorem ok__law_fits (T : Txt K mg) : Fn P w K mg base 2 "_law_fits" ["kind", "value"] (fun vs H Q _ => ∃ (κ : Str) (v : V) (d : PyData) (b : Bool), vs = [.str κ, v] ∧ Dp K H v d ∧ VlD κ d ∧ VlR κ d b ∧ ∀ H', Same H H' → Q (.bl b) H') := by
  refine T.d__law_fits.ok sc__law_fits (by rintro vs H Q E ⟨_, _, _, _, rfl, _⟩; rfl) (fun f cdv A outer s H vs Q E hr h => ?_)
  obtain ⟨κ, v, d, b, rfl, hv, hd, hb, k⟩ := h
  have k0 := k H (Same.refl _)
  refine ⟨_, (pss_cons (ps_if (pt_cmpR op_eq (pv 0) pe_str (nomark _))
  (pss_one (ps_ret (pe_cmpR op_le (pe_callB cLenS (by rfl) T.m_len PySem.boot_len (pa_cons (pv 1) pa_nil)) pe_int (nomark _))))
  pss_nil)
  (pss_cons (ps_if (pt_cmpR op_eq (pv 0) pe_str (nomark _))
  (pss_one (ps_ret (pe_and (pe_cmpR op_le pe_int (pe_ix ix_tup (pv 1) pe_int (fun _ _ => rfl)) (nomark _)) (pe_and (pe_cmpR op_le (pe_ix ix_tup (pv 1) pe_int (fun _ _ => rfl)) pe_int (nomark _)) (pe_one (pe_fn (ok__law_is_name T) hr (by rfl) (pa_cons (pe_ix ix_tup (pv 1) pe_int (fun _ _ => rfl)) pa_nil)))))))
  pss_nil)
  (pss_cons (ps_if (PW.pt (pw_or (pt_cmpR op_eq (pv 0) pe_str (nomark _)) (pw_or1 (pt_cmpR op_eq (pv 0) pe_str (nomark _)))))
  (pss_one (ps_ret (pe_fn (ok__law_is_name T) hr (by rfl) (pa_cons (pv 1) pa_nil))))
  pss_nil)
  (pss_cons (ps_if (pt_cmpR op_eq (pv 0) pe_str (nomark _))
  (pss_one (ps_ret (pe_and (pe_fn (ok__law_is_word T) hr (by rfl) (pa_cons (pe_ix ix_tup (pv 1) pe_int (fun _ _ => rfl)) pa_nil)) (pe_one (pe_fn (ok__law_is_word T) hr (by rfl) (pa_cons (pe_ix ix_tup (pv 1) pe_int (fun _ _ => rfl)) pa_nil))))))
  pss_nil)
  (pss_cons (ps_if (pt_cmpR op_eq (pv 0) pe_str (nomark _))
  (pss_cons (ps_set (i := 2) sc__law_fits.nd rfl (by first | exact .inl rfl | exact .inr rfl) (pe_un un_neg pe_int))
  (pss_cons (ps_for PassesOwn.never rfl (pi_tup (pe_ix ix_tup (pv 1) pe_int (fun _ _ => rfl))) (pg_name (i := 3) sc__law_fits.nd rfl (.inl rfl))
  (pss_cons (ps_if (PW.pt (pw_or (pt_cmpR op_notIn_seq (pv 3) (pe_fn0 (ok__law_kinds T) hr (by rfl)) (by first | rfl | with_unfolding_all rfl)) (pw_or1 (pt_cmpR op_le (pe_bm PySem.F.plainAttrs_list PySem.F.slot_list_index PySem.F.type_list_index mtIdxS (pe_fn0 (ok__law_kinds T) hr (by rfl)) (pa_cons (pv 3) pa_nil)) (pv 2) (nomark _)))))
  (pss_one (ps_ret pe_bl))
  pss_nil)
  (pss_one (ps_set (i := 2) sc__law_fits.nd rfl (by first | exact .inl rfl | exact .inr rfl) (pe_bm PySem.F.plainAttrs_list PySem.F.slot_list_index PySem.F.type_list_index mtIdxS (pe_fn0 (ok__law_kinds T) hr (by rfl)) (pa_cons (pv 3) pa_nil))))))
  (pss_one (ps_ret (pe_fn (ok__law_is_name T) hr (by rfl) (pa_cons (pe_ix ix_tup (pv 1) pe_int (fun _ _ => rfl)) pa_nil))))))
  pss_nil)
  (pss_one (ps_ret (pe_fn (ok__law_is_word T) hr (by rfl) (pa_cons (pv 1) pa_nil))))))))), ?_⟩
  unfold VlR at hb
  walk_at "en"
  walk_at "sp" <;> intro h0
  · rw [if_pos h0] at hb
    obtain ⟨z, rfl, hA, hz, rfl⟩ := hb
    cases dp_strv hv
    have e : txtB z = decide ((z.length : Int) ≤ 60) := by
      unfold txtB
      rw [List.all_eq_true.mpr (hd.2.2.2 z rfl), Bool.and_true]
      exact decide_eq_decide.mpr (by omega)
    rw [e] at k0
    walk_at "rd"
    exact k0
  rw [if_neg h0] at hb
  walk_at "rd"
  walk_at "sp" <;> intro h1
  · rw [if_pos h1] at hb
    obtain ⟨i, n, zs, rfl, ⟨rfl, hz⟩, rfl⟩ := hb
    obtain ⟨g, rfl, ⟨es, hs, hde⟩⟩ := dp_pt hv
    cases hde with | cons e1 hde => cases hde with | cons e2 hde => cases hde with | nil =>
    cases dp_intv e1
    obtain ⟨q, rfl, hq⟩ := nm_at e2
    walk_at "rd"
    by_cases i0 : 0 ≤ i
    · rw [decide_eq_true i0]
      walk_at "rd"
      by_cases i1 : i ≤ 65535
      · rw [decide_eq_true i1]
        walk_at "rd"
        refine ⟨q, zs, rfl, hq, hz, ?_⟩
        rw [decide_eq_true ⟨i0, i1⟩, Bool.true_and] at k0
        exact k0
      · rw [decide_eq_false i1]
        walk_at "rd"
        rw [decide_eq_false (fun z => i1 z.2), Bool.false_and] at k0
        exact k0
    · rw [decide_eq_false i0]
      walk_at "rd"
      rw [decide_eq_false (fun z => i0 z.1), Bool.false_and] at k0
      exact k0
  rw [if_neg h1] at hb
  walk_at "rd"
  have nameR : ∀ zs, LbD d zs → b = nameB zs → ∃ (a : Addr), v = .ref a ∧ SqT K H a (zs.map V.str) := fun zs h _ => by
    rw [h.1] at hv
    exact nm_at hv
  walk_at "sp" <;> intro h2
  · rw [if_pos (.inl h2)] at hb
    obtain ⟨zs, h3, rfl⟩ := hb
    obtain ⟨q, rfl, hq⟩ := nameR zs h3 rfl
    walk_at "rd"
    exact ⟨q, zs, rfl, hq, h3.2, k0⟩
  walk_at "rd"
  walk_at "sp" <;> intro h3
  · rw [if_pos (.inr h3)] at hb
    obtain ⟨zs, h3, rfl⟩ := hb
    obtain ⟨q, rfl, hq⟩ := nameR zs h3 rfl
    walk_at "rd"
    exact ⟨q, zs, rfl, hq, h3.2, k0⟩
  rw [if_neg (fun z => z.elim h2 h3)] at hb
  walk_at "rd"
  walk_at "sp" <;> intro h4
  · rw [if_pos h4] at hb
    obtain ⟨i, j, rfl, rfl⟩ := hb
    obtain ⟨g, rfl, ⟨es, hs, hde⟩⟩ := dp_pt hv
    cases hde with | cons e1 hde => cases hde with | cons e2 hde => cases hde with | nil =>
    cases dp_intv e1
    cases dp_intv e2
    walk_at "rd"
    refine ⟨i, rfl, ?_⟩
    cases hi : WdB i with
    | true =>
      rw [hi] at k0
      walk_at "rd"
      exact ⟨j, rfl, k0⟩
    | false =>
      rw [hi] at k0
      walk_at "rd"
      exact k0
  rw [if_neg h4] at hb
  walk_at "rd"
  walk_at "sp" <;> intro h5
  · rw [if_pos h5] at hb
    obtain ⟨n, zs, ks, rfl, ⟨rfl, hz⟩, hk, rfl⟩ := hb
    obtain ⟨g, rfl, ⟨es, hs, hde⟩⟩ := dp_pt hv
    cases hde with | cons e1 hde => cases hde with | cons e2 hde => cases hde with | nil =>
    obtain ⟨q, rfl, hq⟩ := nm_at e1
    obtain ⟨q2, rfl, hq2⟩ := nm_at e2
    have hfe := ord_iff hk
    walk_at "rd"
    refine loopT (xs := ks.map V.str) (fun i σ' H' => (∃ (L : Int) (v3 : Option V), σ' = [some (.str κ), some (.ref g), some (.int L), v3] ∧ -1 ≤ L ∧ (L = -1 ∨ ∃ j z, j < i ∧ ks[j]? = some z ∧ L = (kIdx z : Nat)) ∧ (∀ z ∈ ks.take i, z ∈ KN ∧ (kIdx z : Int) ≤ L) ∧ (ks.take i).Pairwise fun a b => kIdx a < kIdx b) ∧ Same H H') ⟨⟨-1, _, rfl, by decide, .inl rfl, by simp, by simp⟩, Same.refl _⟩ (fun i σ' H' _ h => ex_t h.2 hq2) ?_ ?_
    · rintro i x σ' H' hi ⟨⟨L, v3, rfl, hL, hL2, hall, hpw⟩, e⟩
      obtain ⟨y, hy, rfl⟩ := map_get hi
      have hym := List.mem_of_getElem? hy
      walk_at "rd"
      refine ⟨rfl, fun H1 p e1 n1 hp => ?_⟩
      walk_at "rd"
      refine r_notInF (.inl (SqL.of hp)) rfl rfl ?_
      by_cases hyk : y ∈ KN
      · rw [inKN y hyk]
        obtain ⟨f1, f2, f3⟩ := kIdx_fact y hyk
        walk_at "rd"
        refine ⟨rfl, fun H2 p2 e2 n2 hp2 => ?_⟩
        walk_at "rd"
        refine r_isL hp2 ?_
        walk_at "rd"
        refine r_idxS (SqL.of hp2) f1 f2 ?_
        walk_at "rd"
        walk_at "sp" <;> intro hc
        · walk_at "rd"
          have ho : ordB ks = false := by
            cases ho : ordB ks with
            | false => rfl
            | true =>
              obtain ⟨o1, o2⟩ := hfe.mp ho
              rcases hL2 with rfl | ⟨j, z, hj, hz2, rfl⟩
              · omega
              · have := List.pairwise_iff_getElem.mp o2 j i (List.getElem?_eq_some_iff.mp hz2).1 (List.getElem?_eq_some_iff.mp hy).1 hj
                rw [(List.getElem?_eq_some_iff.mp hz2).2, (List.getElem?_eq_some_iff.mp hy).2] at this
                omega
          have := k H2 (e.trans (e1.trans e2))
          rw [ho, Bool.and_false] at this
          exact this
        · walk_at "rd"
          refine ⟨rfl, fun H3 p3 e3 n3 hp3 => ?_⟩
          walk_at "rd"
          refine r_isL hp3 ?_
          walk_at "rd"
          refine r_idxS (SqL.of hp3) f1 f2 ?_
          walk_at "rd"
          have et : ks.take (i + 1) = ks.take i ++ [y] := by rw [List.take_add_one, hy]; rfl
          refine ⟨⟨_, _, rfl, by omega, .inr ⟨i, y, by omega, hy, rfl⟩, fun z hz3 => ?_, ?_⟩, e.trans (e1.trans (e2.trans e3))⟩
          · rw [et] at hz3
            rcases List.mem_append.mp hz3 with hz3 | hz3
            · have := hall z hz3
              exact ⟨this.1, by omega⟩
            · rw [List.mem_singleton.mp hz3]; exact ⟨hyk, Int.le_refl _⟩
          · rw [et]
            refine List.pairwise_append.mpr ⟨hpw, List.pairwise_singleton _ _, fun z hz3 w hw => ?_⟩
            rw [List.mem_singleton.mp hw]
            have := (hall z hz3).2
            omega
      · rw [notKN hyk]
        walk_at "rd"
        have ho : ordB ks = false := by
          cases ho : ordB ks with
          | false => rfl
          | true => exact absurd ((hfe.mp ho).1 y hym) hyk
        have := k H1 (e.trans e1)
        rw [ho, Bool.and_false] at this
        exact this
    · rintro σ' H' ⟨⟨L, v3, rfl, hL, hL2, hall, hpw⟩, e⟩
      rw [List.length_map, List.take_length] at hall hpw
      have ho : ordB ks = true := hfe.mpr ⟨fun z h => (hall z h).1, hpw⟩
      walk_at "rd"
      refine ⟨q, zs, rfl, ex_t e hq, hz, ?_⟩
      have := k H' e
      rw [ho, Bool.and_true] at this
      exact this
  rw [if_neg h5] at hb
  obtain ⟨i, rfl, rfl⟩ := hb
  cases dp_intv hv
  walk_at "rd"
  exact ⟨i, rfl, k0⟩

def Bad7 (m : Row6) : Prop := m.κ ∉ KN ∨ WdB m.t = false ∨ (m.κ ∈ KN ∧ ∃ d ∈ m.es, VlR m.κ d false) ∨ (m.κ ∈ KN ∧ ∃ es, AscD es ∧ (∀ d, d ∈ es ↔ d ∈ m.es) ∧ cntB m.κ es.length = false)
theorem Made7.vals {m : Row6} (h : Made7 m) (hκ : m.κ ∈ KN) : ∀ d ∈ m.es, VlD m.κ d := by
  obtain ⟨κ0, h1, h2⟩ := h.2.2.2.2.2.2
  rcases h1 with h1 | h1
  · rw [h1]; exact h2
  · exact absurd hκ h1
theorem Made7.pureEs {m : Row6} (h : Made7 m) : pureAll m.es = true := by
  obtain ⟨κ0, h1, h2⟩ := h.2.2.2.2.2.2
  exact vld_p h2
theorem Made7.setOk {m : Row6} (h : Made7 m) (hv : ∀ d ∈ m.es, VlR m.κ d true) : SetOk m.es := by
  have := h.2.2.2.2.2.1
  exact kind_set (fun d hd => (hv d hd).good) (by omega) fun _ => by omega
theorem Made7.lab {m : Row6} (h : Made7 m) : ∀ z ∈ m.zs, z.length ≤ 2000 ∧ Asc z := fun z hz => by
  have := h.1 z hz
  exact ⟨by omega, this.1⟩
theorem MadeAt.ex {H H' : Hp} {u : Addr} {m : Row6} (h : MadeAt K H u m) (e : Same H H') : MadeAt K H' u m := by
  obtain ⟨n, l, outs, h1, h2, h3, h4⟩ := h
  exact ⟨n, l, outs, e _ _ h1, ex_t e h2, e _ _ h3, dpAll_ex e _ _ h4⟩
theorem cnt_sg {κ : Str} (h : sgB κ = true) (n : Nat) : cntB κ n = decide ((n : Int) = 1) := by
  unfold cntB
  rw [if_pos h]
theorem cnt_not {κ : Str} (h : sgB κ = false) (n : Nat) : cntB κ n = decide (1 ≤ (n : Int) ∧ (n : Int) ≤ 100) := by
  unfold cntB
  rw [if_neg (by rw [h]; decide)]
theorem ok__law_allowed (T : Txt K mg) : Fn P w K mg base 3 "_law_allowed" ["made"] (fun vs H Q _ => ∃ (u : Addr) (m : Row6), vs = [.ref u] ∧ MadeAt K H u m ∧ Made7 m ∧ (Bad7 m → ∀ H', Same H H' → Q (.bl false) H') ∧
    (m.κ ∈ KN → WdB m.t = true → (∀ d ∈ m.es, VlR m.κ d true) → ∀ as, AscD as → (∀ d, d ∈ as ↔ d ∈ m.es) → cntB m.κ as.length = true → ∀ H', Same H H' → Q (.bl true) H')) := by
  refine T.d__law_allowed.ok sc__law_allowed (by rintro vs H Q E ⟨_, _, rfl, _⟩; rfl) (fun f cdv A outer s H vs Q E hr h => ?_)
  obtain ⟨u, m, rfl, hm, ok, kN, kY⟩ := h
  refine ⟨_, (pss_cons (ps_if (PW.pt (pw_or (pt_cmpR op_notIn_seq (pe_ix ix_tup (pv 0) pe_int (fun _ _ => rfl)) (pe_fn0 (ok__law_kinds T) (hr.mono (by decide)) (by rfl)) (by first | rfl | with_unfolding_all rfl)) (pw_or1 (pt_not (pt_val (pe_fn (ok__law_is_word T) (hr.mono (by decide)) (by rfl) (pa_cons (pe_ix ix_tup (pv 0) pe_int (fun _ _ => rfl)) pa_nil)))))))
  (pss_one (ps_ret pe_bl))
  pss_nil)
  (pss_cons (ps_for PassesOwn.never rfl (pi_list (pe_ix ix_tup (pv 0) pe_int (fun _ _ => rfl))) (pg_name (i := 1) sc__law_allowed.nd rfl (.inl rfl))
  (pss_one (ps_if (pt_not (pt_val (pe_fn (ok__law_fits T) hr (by rfl) (pa_cons (pe_ix ix_tup (pv 0) pe_int (fun _ _ => rfl)) (pa_cons (pv 1) pa_nil)))))
  (pss_one (ps_ret pe_bl))
  pss_nil)))
  (pss_cons (ps_set (i := 2) sc__law_allowed.nd rfl (by first | exact .inl rfl | exact .inr rfl) (pe_callB cLenQ (by rfl) T.m_len PySem.boot_len (pa_cons (pe_fn (ok__law_sorted T) (hr.mono (by decide)) (by rfl) (pa_cons (pe_ix ix_tup (pv 0) pe_int (fun _ _ => rfl)) pa_nil)) pa_nil)))
  (pss_cons (ps_if (pt_cmpR op_in_seq (pe_ix ix_tup (pv 0) pe_int (fun _ _ => rfl)) (pe_lst (pa_cons pe_str (pa_cons pe_str (pa_cons pe_str pa_nil)))) (by first | rfl | with_unfolding_all rfl))
  (pss_one (ps_ret (pe_cmpR op_eq (pv 2) pe_int (nomark _))))
  pss_nil)
  (pss_one (ps_ret (pe_and (pe_cmpR op_le pe_int (pv 2) (nomark _)) (pe_one (pe_cmpR op_le (pv 2) pe_int (nomark _)))))))))), ?_⟩
  obtain ⟨n, l, outs, h1, h2, h3, h4⟩ := hm
  have hol := dpAll_len h4
  walk_at "en"
  refine ⟨rfl, fun H1 p e1 n1 hp => ?_⟩
  walk_at "rd"
  refine r_notInF (.inl (SqL.of hp)) rfl rfl ?_
  by_cases hκ : m.κ ∈ KN
  · rw [inKN _ hκ]
    walk_at "rd"
    refine ⟨m.t, rfl, ?_⟩
    cases hw : WdB m.t with
    | false =>
      walk_at "rd"
      exact kN (.inr (.inl hw)) H1 e1
    | true =>
      walk_at "rd"
      refine loopL (xs := outs) (fun i σ' H' => (∃ v1, σ' = [some (.ref u), v1, none]) ∧ Same H H' ∧ ∀ d ∈ m.es.take i, VlR m.κ d true) ⟨⟨_, rfl⟩, e1, by simp⟩ (fun i σ' H' _ h => SqL.of (h.2.1 _ _ h3)) ?_ ?_
      · rintro i x σ' H' hi ⟨⟨v1, rfl⟩, e, hall⟩
        obtain ⟨d, hdi, hdx⟩ := dpAll_mem h4 hi
        have hdm := List.mem_of_getElem? hdi
        have hv := ok.vals hκ d hdm
        obtain ⟨b, hb⟩ := hv.1
        have h1' := e _ _ h1
        walk_at "rd"
        refine ⟨m.κ, x, d, b, rfl, dp_ex e _ _ hdx, hv, hb, fun H2 e2 => ?_⟩
        cases b with
        | true =>
          walk_at "rd"
          exact ⟨⟨_, rfl⟩, e.trans e2, take_mem hdi hall hb⟩
        | false =>
          walk_at "rd"
          exact kN (.inr (.inr (.inl ⟨hκ, d, hdm, hb⟩))) H2 (e.trans e2)
      rintro σ' H' ⟨⟨v1, rfl⟩, e, hall⟩
      have hall : ∀ d ∈ m.es, VlR m.κ d true := fun d hd2 => hall d (by rw [List.take_of_length_le (by omega)]; exact hd2)
      have h1' := e _ _ h1
      walk_at "rd"
      refine ⟨l, outs, m.es, rfl, SqL.of (e _ _ h3), dpAll_ex e _ _ h4, ord_good fun d hd => (hall d hd).good, by have := ok.2.2.2.2.2.1; omega, fun H2 q out as e2 hq hd hasc hmem _ => ?_⟩
      have hql := dpAll_len hd
      have h12 := e2 _ _ h1'
      walk_at "rd"
      intro r H3 n3 e3 hr3
      refine r_inF (.inl (SqL.of hr3)) rfl rfl ?_
      rw [inS3]
      have e03 := (e.trans e2).trans e3
      walk_at "rd"
      cases hs : sgB m.κ with
      | true =>
        walk_at "rd"
        rw [hql]
        cases hc : cntB m.κ as.length with
        | true =>
          rw [← cnt_sg hs, hc]
          exact kY hκ hw hall as hasc hmem hc H3 e03
        | false =>
          rw [← cnt_sg hs, hc]
          exact kN (.inr (.inr (.inr ⟨hκ, as, hasc, hmem, hc⟩))) H3 e03
      | false =>
        walk_at "rd"
        rw [hql]
        have key : ∀ b : Bool, b = cntB m.κ as.length → Q (.bl b) H3 := fun b hb => by
          subst hb
          cases hc : cntB m.κ as.length with
          | true => exact kY hκ hw hall as hasc hmem hc H3 e03
          | false => exact kN (.inr (.inr (.inr ⟨hκ, as, hasc, hmem, hc⟩))) H3 e03
        rw [cnt_not hs] at key
        by_cases c : (1 : Int) ≤ as.length
        · rw [decide_eq_true c]
          walk_at "rd"
          exact key _ (decide_eq_decide.mpr ⟨fun z => ⟨c, z⟩, fun z => z.2⟩)
        · rw [decide_eq_false c]
          walk_at "rd"
          exact key _ (decide_eq_false (fun z => c z.1)).symm
  · rw [notKN hκ]
    walk_at "rd"
    exact kN (.inl hκ) H1 e1
theorem ok__law_refused (T : Txt K mg) : Fn P w K mg base 6 "_law_refused" ["made", "passed", "by_name"] (fun vs H Q _ => ∃ (u l2 : Addr) (m : Row6) (outs2 : List V) (bn : Bool), vs = [.ref u, .ref l2, .bl bn] ∧ MadeAt K H u m ∧ Made7 m ∧ SqL K H l2 outs2 ∧ DpAll K H outs2 m.es ∧ nameB m.zs = !bn ∧ (bn = false → Bad7 m) ∧ ∀ H', Same H H' → Q (.bl true) H') := by
  refine T.d__law_refused.ok sc__law_refused (by rintro vs H Q E ⟨_, _, _, _, _, rfl, _⟩; rfl) (fun f cdv A outer s H vs Q E hr h => ?_)
  obtain ⟨u, l2, m, outs2, bn, rfl, hm, ok, hl2, hd2, hnb, hbad, k⟩ := h
  refine ⟨_, (pss_cons (ps_tryAs (K := K) (i := 3) rfl rfl rfl sc__law_refused.nd rfl rfl ⟨rfl, by decide, .inl T.g_ProvenamesError⟩ (fun W pn xe tk => (pss_one (ps_expr (pe_fnS (ok_make_set T) hr (by rfl) tk (pa_cons (pe_kix (K := K) (r := rIxT) rfl ix_tup (pv 0) pe_int (fun _ _ => rfl)) (pa_cons (pe_kix (K := K) (r := rIxT) rfl ix_tup (pv 0) pe_int (fun _ _ => rfl)) (pa_cons (pe_kix (K := K) (r := rIxT) rfl ix_tup (pv 0) pe_int (fun _ _ => rfl)) (pa_cons (pv 1) pa_nil))))))))
  (fun ae oe cls d pn hz hf => (pss_cons (ps_if (PW.pt (pw_or (pt_not (pt_val (pe_callB (call_isX (K := K) rfl hz hf) (by rfl) T.m_isinstance (by decide +kernel) (pa_cons (pv 3) (pa_cons (pe_bltn (v := .ty "ValueError") rfl T.m_ValueError (by decide +kernel) rfl) pa_nil))))) (pw_or1 (pt_cmpR op_ne (pe_callB (call_isX (K := K) rfl hz hf) (by rfl) T.m_isinstance (by decide +kernel) (pa_cons (pv 3) (pa_cons (pe_glob (v := .ref T.a_BadName) rfl T.g_BadName rfl) pa_nil))) (pv 2) (nomark _)))))
  (pss_one (ps_ret pe_bl))
  pss_nil)
  (pss_cons (ps_if (PW.pt (pw_or (pt_cmpR op_eq (pe_callB (call_isX (K := K) rfl hz hf) (by rfl) T.m_isinstance (by decide +kernel) (pa_cons (pv 3) (pa_cons (pe_glob (v := .ref T.a_BadRecord) rfl T.g_BadRecord rfl) pa_nil))) (pv 2) (nomark _)) (pw_or (pt_val (pe_callB (call_isX (K := K) rfl hz hf) (by rfl) T.m_isinstance (by decide +kernel) (pa_cons (pv 3) (pa_cons (pe_glob (v := .ref T.a_BadEdition) rfl T.g_BadEdition rfl) pa_nil)))) (pw_or1 (pt_val (pe_callB (call_isX (K := K) rfl hz hf) (by rfl) T.m_isinstance (by decide +kernel) (pa_cons (pv 3) (pa_cons (pe_glob (v := .ref T.a_BadOctets) rfl T.g_BadOctets rfl) pa_nil))))))))
  (pss_one (ps_ret pe_bl))
  pss_nil)
  (pss_one (ps_ret (pe_and (pe_not (pe_callB (call_isX (K := K) rfl hz hf) (by rfl) T.m_isinstance (by decide +kernel) (pa_cons (pv 3) (pa_cons (pe_glob (v := .ref T.a_ZoneConflict) rfl T.g_ZoneConflict rfl) pa_nil)))) (pe_and (pe_not (pe_callB (call_isX (K := K) rfl hz hf) (by rfl) T.m_isinstance (by decide +kernel) (pa_cons (pv 3) (pa_cons (pe_glob (v := .ref T.a_DeskConflict) rfl T.g_DeskConflict rfl) pa_nil)))) (pe_one (pe_not (pe_callB (call_isX (K := K) rfl hz hf) (by rfl) T.m_isinstance (by decide +kernel) (pa_cons (pv 3) (pa_cons (pe_glob (v := .ref T.a_Unknown) rfl T.g_Unknown rfl) pa_nil)))))))))))))
  (pss_one (ps_ret pe_bl))), ?_⟩
  obtain ⟨n, l, outs, h1, h2, h3, h4⟩ := hm
  have hasX : ∀ es, AscD es → (∀ d, d ∈ es ↔ d ∈ m.es) → bn = false → WdB m.t = true → m.κ ∈ KN → (∀ d ∈ m.es, VlR m.κ d true) → cntB m.κ es.length = true → False := by
    intro es hasc hmem hbn hw hκ hall hc
    rcases hbad hbn with h | h | ⟨_, d, hd, h⟩ | ⟨_, es2, h5, h6, h7⟩
    · exact h hκ
    · rw [hw] at h; cases h
    · have := (hall d hd).uniq h; cases this
    · rw [asc_unique hasc h5 fun d => (hmem d).trans (h6 d).symm, h7] at hc; cases hc
  walk_at "en"
  refine ⟨n, l2, m.zs, m.κ, m.t, outs2, m.es, rfl, h2, ok.lab, by have := ok.2.2.2.1; omega, ok.2.2.2.2.1, hl2, hd2, fun hκ d hd => ⟨(ok.vals hκ d hd).1, (ok.vals hκ d hd).2.1, (ok.vals hκ d hd).2.2.1⟩, fun _ hv => ok.setOk hv, fun hn H1 e1 => ?_, fun hn hb H1 e1 => ?_, fun hn hκ hw hall es hasc hmem hc H1 p q e1 hp hq => ?_⟩
  · rw [hn] at hnb
    have hbt : bn = true := by cases bn <;> first | rfl | cases hnb
    subst hbt
    refine w_as T.x_BadName_ProvenamesError fun x nx => ?_
    walk_at "rd"
    refine r_isXb T.e_BadName T.i_BadName_ValueError ?_
    walk_at "rd"
    refine r_isX T.e_BadName T.i_BadName_BadName ?_
    walk_at "rd"
    refine r_isX T.e_BadName T.i_BadName_BadRecord ?_
    walk_at "rd"
    refine r_isX T.e_BadName T.i_BadName_BadEdition ?_
    walk_at "rd"
    refine r_isX T.e_BadName T.i_BadName_BadOctets ?_
    walk_at "rd"
    refine r_isX T.e_BadName T.i_BadName_ZoneConflict ?_
    walk_at "rd"
    refine r_isX T.e_BadName T.i_BadName_DeskConflict ?_
    walk_at "rd"
    refine r_isX T.e_BadName T.i_BadName_Unknown ?_
    walk_at "rd"
    exact k _ e1
  · rw [hn] at hnb
    have hbt : bn = false := by cases bn <;> first | rfl | cases hnb
    subst hbt
    refine w_as T.x_BadRecord_ProvenamesError fun x nx => ?_
    walk_at "rd"
    refine r_isXb T.e_BadRecord T.i_BadRecord_ValueError ?_
    walk_at "rd"
    refine r_isX T.e_BadRecord T.i_BadRecord_BadName ?_
    walk_at "rd"
    refine r_isX T.e_BadRecord T.i_BadRecord_BadRecord ?_
    walk_at "rd"
    refine r_isX T.e_BadRecord T.i_BadRecord_BadEdition ?_
    walk_at "rd"
    refine r_isX T.e_BadRecord T.i_BadRecord_BadOctets ?_
    walk_at "rd"
    refine r_isX T.e_BadRecord T.i_BadRecord_ZoneConflict ?_
    walk_at "rd"
    refine r_isX T.e_BadRecord T.i_BadRecord_DeskConflict ?_
    walk_at "rd"
    refine r_isX T.e_BadRecord T.i_BadRecord_Unknown ?_
    walk_at "rd"
    exact k _ e1
  · rw [hn] at hnb
    have hbt : bn = false := by cases bn <;> first | rfl | cases hnb
    exact (hasX es hasc hmem hbt hw hκ hall hc).elim

def spLaw (K : PySem.W.Frag) : Sp := fun vs H Q _ => ∃ (a : Addr) (ns : List Int), vs = [.ref a] ∧ SqL K H a (ns.map V.int) ∧ ns.length ≤ 63 ∧ ∀ H', Q (.bl true) H'
def MadeX7 (K : PySem.W.Frag) (H : Hp) (R u : Addr) (m : Row6) : Prop := ∃ n l outs, l ≠ R ∧ H u = some (.tup [.ref n, .str m.κ, .int m.t, .ref l]) ∧ SqT K H n (m.zs.map V.str) ∧ H l = some (.lst outs) ∧ DpAll K H outs m.es
theorem MadeX7.at {H : Hp} {R u : Addr} {m : Row6} (h : MadeX7 K H R u m) : MadeAt K H u m := by
  obtain ⟨n, l, outs, _, h1, h2, h3, h4⟩ := h
  exact ⟨n, l, outs, h1, h2, h3, h4⟩
theorem MadeX7.ex {H H' : Hp} {R u : Addr} {m : Row6} (h : MadeX7 K H R u m) (e : Same H H') : MadeX7 K H' R u m := by
  obtain ⟨n, l, outs, h0, h1, h2, h3, h4⟩ := h
  exact ⟨n, l, outs, h0, e _ _ h1, ex_t e h2, e _ _ h3, dpAll_ex e _ _ h4⟩
theorem MadeX7.but {H H' : Hp} {R u : Addr} {m : Row6} {xs : List V} (h : MadeX7 K H R u m) (ok : Made7 m) (b : But R H H') (hR : H R = some (.lst xs)) : MadeX7 K H' R u m := by
  obtain ⟨n, l, outs, h0, h1, h2, h3, h4⟩ := h
  have nt := noTup_l hR
  exact ⟨n, l, outs, h0, b _ _ (fun z => by subst z; rw [hR] at h1; cases h1) h1, but_tN b nt h2, b _ _ h0 h3, dpAll_but b nt _ _ ok.pureEs h4⟩
def All7 (K : PySem.W.Frag) (H : Hp) (R : Addr) (us : List Addr) : Prop := ∀ u ∈ us, ∃ m, MadeX7 K H R u m ∧ Made7 m
theorem All7.ex {H H' : Hp} {R : Addr} {us : List Addr} (h : All7 K H R us) (e : Same H H') : All7 K H' R us := fun u hu => by
  obtain ⟨m, h1, h2⟩ := h u hu
  exact ⟨m, h1.ex e, h2⟩
theorem All7.but {H H' : Hp} {R : Addr} {us : List Addr} {xs : List V} (h : All7 K H R us) (b : But R H H') (hR : H R = some (.lst xs)) : All7 K H' R us := fun u hu => by
  obtain ⟨m, h1, h2⟩ := h u hu
  exact ⟨m, h1.but h2 b hR, h2⟩
theorem All7.snoc {H : Hp} {R : Addr} {us : List Addr} (h : All7 K H R us) {u : Addr} {m : Row6} (h1 : MadeX7 K H R u m) (h2 : Made7 m) : All7 K H R (us ++ [u]) := fun v hv => by
  rcases List.mem_append.mp hv with hv | hv
  · exact h v hv
  · rw [List.mem_singleton.mp hv]; exact ⟨m, h1, h2⟩
theorem tup_pure {ds : List PyData} {n : Nat} (hl : ds.length ≤ 10000) (hp : pureAll ds = true) (hd : ∀ d ∈ ds, d.depth ≤ n) : pureD (.tuple ds) = true ∧ (PyData.tuple ds).depth ≤ n + 1 := by
  constructor
  · simp only [pureD, hp, Bool.and_true]
    exact decide_eq_true hl
  · have := (depthAll_iff n ds).mpr hd
    simp only [PyData.depth]
    omega
theorem Made7.tup {m : Row6} (h : Made7 m) : pureD (.tuple m.es) = true ∧ (PyData.tuple m.es).depth ≤ 3 := by
  have hl := h.2.2.2.2.2.1
  have hp := h.pureEs
  obtain ⟨κ0, _, h2⟩ := h.2.2.2.2.2.2
  exact tup_pure (n := 2) (by omega) hp fun d hd => (h2 d hd).2.2.1
theorem Made7.rec {m : Row6} (h : Made7 m) {as : List PyData} (hasc : AscD as) (hmem : ∀ x, x ∈ as ↔ x ∈ m.es) : pureD (.tuple [dT m.zs, .str m.κ, .int m.t, .tuple as]) = true ∧ (PyData.tuple [dT m.zs, .str m.κ, .int m.t, .tuple as]).depth ≤ 8 := by
  have hl := nodup_len hasc.nodup fun x hx => (hmem x).mp hx
  have l2 := h.2.2.2.2.2.1
  have hp := h.pureEs
  obtain ⟨κ0, _, h2⟩ := h.2.2.2.2.2.2
  have pa : pureAll as = true := (pureAll_iff _).mpr fun e he => (pureAll_iff _).mp hp e ((hmem e).mp he)
  have ht := tup_pure (n := 2) (by omega) pa fun d hd => (h2 d ((hmem d).mp hd)).2.2.1
  have hn : pureD (dT m.zs) = true := pure_strs (by have := h.2.1; omega) fun z hz => (h.1 z hz).1
  have := tup_pure (n := 3) (ds := [dT m.zs, .str m.κ, .int m.t, .tuple as]) (by simp) ((pureAll_iff _).mpr fun e he => by
    simp only [List.mem_cons, List.not_mem_nil, or_false] at he
    rcases he with rfl | rfl | rfl | rfl
    · exact hn
    · exact pure_str h.2.2.1
    · simp [pureD]
    · exact ht.1) fun e he => by
    simp only [List.mem_cons, List.not_mem_nil, or_false] at he
    rcases he with rfl | rfl | rfl | rfl
    · exact Nat.le_trans (strs_depth _) (by decide)
    · simp [PyData.depth]
    · simp [PyData.depth]
    · exact ht.2
  exact ⟨this.1, by omega⟩
theorem ok_law (T : Txt K mg) : Fn P w K mg base 10 "law" ["script"] (spLaw K) := by
  refine T.d_law.ok sc_law (by rintro vs H Q E ⟨_, _, rfl, _⟩; rfl) (fun f cdv A outer s H vs Q E hr h => ?_)
  obtain ⟨l, ns, rfl, hl, hz, k⟩ := h
  refine ⟨_, (pss_cons (ps_set (i := 1) sc_law.nd rfl (by first | exact .inl rfl | exact .inr rfl) (pe_lst pa_nil))
  (pss_cons (ps_for PassesOwn.never rfl (pi_range1 rfl T.m_range (pa_cons (pe_op op_add pe_int (pe_op op_mod (pe_callTy cInt (by rfl) T.m_int (by decide +kernel) (pa_cons (pe_fn (ok__law_cell T) (hr.mono (by decide)) (by rfl) (pa_cons (pv 0) (pa_cons pe_int pa_nil))) pa_nil)) pe_int)) pa_nil)) (pg_name (i := 2) sc_law.nd rfl (.inl rfl))
  (pss_one (ps_expr (pe_bm PySem.F.plainAttrs_list PySem.F.slot_list_append PySem.F.type_list_append mt_append (pv 1) (pa_cons (pe_fn (ok__law_made T) (hr.mono (by decide)) (by rfl) (pa_cons (pe_fn (ok__law_source T) (hr.mono (by decide)) (by rfl) (pa_cons (pe_fn (ok__law_cell T) (hr.mono (by decide)) (by rfl) (pa_cons (pv 0) (pa_cons (pe_op op_add pe_int (pv 2)) pa_nil))) pa_nil)) pa_nil)) pa_nil)))))
  (pss_cons (ps_for PassesOwn.never rfl (pi_list (pe_op op_cat (pv 1) (pv 1))) (pg_name (i := 3) sc_law.nd rfl (.inl rfl))
  (pss_cons (ps_set (i := 4) sc_law.nd rfl (by first | exact .inl rfl | exact .inr rfl) (pe_callTy cListOf (by rfl) T.m_list (by decide +kernel) (pa_cons (pe_ix ix_tup (pv 3) pe_int (fun _ _ => rfl)) pa_nil)))
  (pss_cut (ps_if (pt_not (pt_val (pe_fn (ok__law_is_name T) (hr.mono (by decide)) (by rfl) (pa_cons (pe_ix ix_tup (pv 3) pe_int (fun _ _ => rfl)) pa_nil))))
  (pss_one (ps_if (pt_not (pt_val (pe_fn (ok__law_refused T) (hr.mono (by decide)) (by rfl) (pa_cons (pv 3) (pa_cons (pv 4) (pa_cons pe_bl pa_nil))))))
  (pss_one (ps_ret pe_bl))
  pss_nil))
  (pss_one (ps_if (pt_not (pt_val (pe_fn (ok__law_allowed T) (hr.mono (by decide)) (by rfl) (pa_cons (pv 3) pa_nil))))
  (pss_one (ps_if (pt_not (pt_val (pe_fn (ok__law_refused T) (hr.mono (by decide)) (by rfl) (pa_cons (pv 3) (pa_cons (pv 4) (pa_cons pe_bl pa_nil))))))
  (pss_one (ps_ret pe_bl))
  pss_nil))
  (pss_cons (ps_set (i := 5) sc_law.nd rfl (by first | exact .inl rfl | exact .inr rfl) (pe_tup (pa_cons (pe_ix ix_tup (pv 3) pe_int (fun _ _ => rfl)) (pa_cons (pe_ix ix_tup (pv 3) pe_int (fun _ _ => rfl)) (pa_cons (pe_ix ix_tup (pv 3) pe_int (fun _ _ => rfl)) (pa_cons (pe_callTy cTupOf (by rfl) T.m_tuple (by decide +kernel) (pa_cons (pe_fn (ok__law_sorted T) (hr.mono (by decide)) (by rfl) (pa_cons (pe_ix ix_tup (pv 3) pe_int (fun _ _ => rfl)) pa_nil)) pa_nil)) pa_nil))))))
  (pss_one (ps_if (pt_not (pt_val (pe_fn (ok__law_same T 9) hr (by rfl) (pa_cons (pe_fnX (ok_make_set T) (hr.mono (by decide)) (by rfl) (pa_cons (pe_ix ix_tup (pv 3) pe_int (fun _ _ => rfl)) (pa_cons (pe_ix ix_tup (pv 3) pe_int (fun _ _ => rfl)) (pa_cons (pe_ix ix_tup (pv 3) pe_int (fun _ _ => rfl)) (pa_cons (pv 4) pa_nil))))) (pa_cons (pv 5) pa_nil)))))
  (pss_one (ps_ret pe_bl))
  pss_nil))))))
  (pss_one (ps_if (pt_not (pt_val (pe_fn (ok__law_same T 9) hr (by rfl) (pa_cons (pe_callTy cTupOf (by rfl) T.m_tuple (by decide +kernel) (pa_cons (pv 4) pa_nil)) (pa_cons (pe_callTy cTupOf (by rfl) T.m_tuple (by decide +kernel) (pa_cons (pe_ix ix_tup (pv 3) pe_int (fun _ _ => rfl)) pa_nil)) pa_nil)))))
  (pss_one (ps_ret pe_bl))
  pss_nil)))))
  (pss_one (ps_ret pe_bl))))), ?_⟩
  walk_at "en"
  intro R H1 n1 e1 hR
  walk_at "rd"
  refine r_cell (ex_l e1 hl) hz (by omega) (by omega) fun c0 => ?_
  have hc0 := Int.emod_nonneg c0 (show (2 : Int) ≠ 0 by decide)
  have hc1 := Int.emod_lt_of_pos c0 (show (0 : Int) < 2 by decide)
  walk_at "rd"
  have nR := n1
  refine loopR (fun i σ' H' => ∃ us v2, σ' = [some (.ref l), some (.ref R), v2, none, none, none] ∧ Same H H' ∧ H' R = some (.lst (us.map V.ref)) ∧ All7 K H' R us ∧ us.length = i) ⟨[], _, rfl, e1, hR, (fun u h => by cases h), rfl⟩ ?_ ?_
  · rintro i σ' H4 hi ⟨us, v2, rfl, e4, hR4, hA, hlen⟩
    walk_at "rd"
    refine r_append hR4 ?_
    walk_at "rd"
    refine r_cell (ex_l e4 hl) hz (by omega) (by omega) fun c1 => ?_
    walk_at "rd"
    refine r_source fun H6 s1 e6 n6 hs6 => ?_
    walk_at "rd"
    refine ⟨s1, rfl, hs6, fun H7 u n lv outs m b7 s7 nu nl hu hn hlv hd hm => ?_⟩
    have e47 : Same H4 H7 := same_but e6 b7 n6
    walk_at "rd"
    have hR7 := e47 _ _ hR4
    refine r_append1 hR7 (by rw [List.length_map]; omega) fun H8 b8 h8 => ?_
    have nt := noTup_l hR7
    have hlR : lv ≠ R := fun z => by rw [z, e6 _ _ hR4] at nl; cases nl
    have huR : u ≠ R := fun z => by rw [z, e6 _ _ hR4] at nu; cases nu
    exact ⟨us ++ [u], _, rfl, same_but (e4.trans e47) b8 nR, by rw [h8, List.map_append]; rfl, ((hA.ex e47).but b8 hR7).snoc ⟨n, lv, outs, hlR, b8 _ _ huR hu, but_tN b8 nt hn, b8 _ _ hlR hlv, dpAll_but b8 nt _ _ hm.pureEs hd⟩ hm, by simp [hlen]⟩
  rintro σ' H4 ⟨us, v2, rfl, e4, hR4, hA, hlen⟩
  walk_at "rd"
  refine r_cat hR4 hR4 (by rw [List.length_map, hlen]; omega) fun S H5 n5 e5 hS => ?_
  rw [← List.map_append] at hS
  walk_at "rd"
  refine loopL (xs := (us ++ us).map V.ref) (fun i σ' H' => ∃ v3 v4 v5, σ' = [some (.ref l), some (.ref R), v2, v3, v4, v5] ∧ Same H5 H') ⟨_, _, _, rfl, Same.refl _⟩ (fun i σ' H' _ ⟨_, _, _, _, e⟩ => SqL.of (e _ _ hS)) ?_ ?_
  · rintro i x σ' H6 hi ⟨v3, v4, v5, rfl, e6⟩
    obtain ⟨u, hu, rfl⟩ := map_get hi
    have hum : u ∈ us := by
      rcases List.mem_append.mp (List.mem_of_getElem? hu) with h | h <;> exact h
    obtain ⟨m, hma, hmo⟩ := (hA.ex (e5.trans e6)) u hum
    have hat := hma.at
    obtain ⟨n, q, outs, _, h1, h2, h3, h4⟩ := hma
    have hol := dpAll_len h4
    have hml := hmo.2.2.2.2.2.1
    walk_at "rd"
    refine r_listOf (.inl (SqL.of h3)) fun pl H7 n7 e7 hpl => ?_
    have h17 := e7 _ _ h1
    have hat7 := hat.ex e7
    have hd7 := dpAll_ex e7 _ _ h4
    walk_at "rd"
    refine r_cut (fun σ' H' => ∃ v5, σ' = [some (.ref l), some (.ref R), v2, some (.ref u), some (.ref pl), v5] ∧ Same H7 H') ?_ ?_
    · walk_at "rd"
      refine ⟨n, m.zs, rfl, ex_t e7 h2, hmo.lab, ?_⟩
      cases hnb : nameB m.zs with
      | false =>
        walk_at "rd"
        refine ⟨u, pl, m, outs, true, rfl, hat7, hmo, SqL.of hpl, hd7, by rw [hnb]; rfl, (fun h => by cases h), fun H8 e8 => ?_⟩
        walk_at "rd"
        exact ⟨_, rfl, e8⟩
      | true =>
        walk_at "rd"
        refine ⟨u, m, rfl, hat7, hmo, fun hb H8 e8 => ?_, fun hκ hw hall as hasc hmem hc H8 e8 => ?_⟩
        · walk_at "rd"
          refine ⟨u, pl, m, outs, false, rfl, hat7.ex e8, hmo, SqL.of (e8 _ _ hpl), dpAll_ex e8 _ _ hd7, by rw [hnb]; rfl, fun _ => hb, fun H9 e9 => ?_⟩
          walk_at "rd"
          exact ⟨_, rfl, e8.trans e9⟩
        · have h18 := e8 _ _ h17
          have e68 := e7.trans e8
          walk_at "rd"
          refine ⟨q, outs, m.es, rfl, SqL.of (e68 _ _ h3), dpAll_ex e68 _ _ h4, ord_good fun d hd => (hall d hd).good, by omega, fun H9 sq out as2 e9 hsq hd9 hasc2 hmem2 _ => ?_⟩
          have ea : as2 = as := asc_unique hasc2 hasc fun d => (hmem2 d).trans (hmem d).symm
          subst ea
          walk_at "rd"
          refine r_tupOf (SqL.of hsq) fun tp H10 n10 e10 htp => ?_
          walk_at "rd"
          intro r H11 n11 e11 hr11
          have e911 := e10.trans e11
          have e811 := e9.trans e911
          have e611 := e68.trans e811
          have hexp : Dp K H11 (.ref r) (.tuple [dT m.zs, .str m.κ, .int m.t, .tuple as2]) := .tup (SqT.of hr11) (.cons (dp_tup (ex_t e611 h2)) (.cons (.str m.κ) (.cons (.int m.t) (.cons (.tup (SqT.of (e11 _ _ htp)) (dpAll_ex e911 _ _ hd9)) .nil))))
          have h111 := e811 _ _ h18
          walk_at "rd"
          refine ⟨n, pl, m.zs, m.κ, m.t, outs, m.es, rfl, ex_t e611 h2, hmo.lab, by have := hmo.2.2.2.1; omega, hmo.2.2.2.2.1, SqL.of ((e8.trans e811) _ _ hpl), dpAll_ex e611 _ _ h4, fun hκ d hd => ⟨(hmo.vals hκ d hd).1, (hmo.vals hκ d hd).2.1, (hmo.vals hκ d hd).2.2.1⟩, fun _ hv => hmo.setOk hv, (fun hn => by rw [hnb] at hn; cases hn), fun _ hb => ?_, fun _ _ _ _ as3 hasc3 hmem3 _ H12 p12 q12 e12 hp12 hq12 => ?_⟩
          · exfalso
            rcases hb with h | h | ⟨_, d, hd, h⟩ | ⟨_, es2, h5, h6, h7⟩
            · exact h hκ
            · rw [hw] at h; cases h
            · have := (hall d hd).uniq h; cases this
            · rw [asc_unique hasc h5 fun d => (hmem d).trans (h6 d).symm, h7] at hc; cases hc
          · have ea : as3 = as2 := asc_unique hasc3 hasc fun d => (hmem3 d).trans (hmem d).symm
            subst ea
            have hp : Dp K H12 (.ref p12) (.tuple [dT m.zs, .str m.κ, .int m.t, .tuple as3]) := .tup (SqT.of hp12) (.cons (dp_tup (ex_t (e611.trans e12) h2)) (.cons (.str m.κ) (.cons (.int m.t) (.cons hq12.dp .nil))))
            have hpu := hmo.rec hasc hmem
            walk_at "rd"
            refine ⟨_, _, _, _, rfl, hp, dp_ex e12 _ _ hexp, hpu.1, hpu.1, hpu.2, ?_⟩
            rw [(eqv_iff hpu.1 hpu.1).mpr rfl]
            walk_at "rd"
            exact ⟨_, rfl, e8.trans (e811.trans e12)⟩
    · rintro σ' H8 ⟨w5, rfl, e8⟩
      have e78 := e7.trans e8
      have h18 := e8 _ _ h17
      walk_at "rd"
      refine r_tupOf (SqL.of (e8 _ _ hpl)) fun t1 H9 n9 e9 ht1 => ?_
      have h19 := e9 _ _ h18
      walk_at "rd"
      refine r_tupOf (SqL.of ((e78.trans e9) _ _ h3)) fun t2 H10 n10 e10 ht2 => ?_
      have e910 := e9.trans e10
      walk_at "rd"
      refine ⟨_, _, .tuple m.es, .tuple m.es, rfl, .tup (SqT.of (e10 _ _ ht1)) (dpAll_ex (e8.trans e910) _ _ hd7), .tup (SqT.of ht2) (dpAll_ex (e8.trans e910) _ _ hd7), hmo.tup.1, hmo.tup.1, Nat.le_trans hmo.tup.2 (by decide), ?_⟩
      rw [(eqv_iff hmo.tup.1 hmo.tup.1).mpr rfl]
      walk_at "rd"
      exact ⟨_, _, _, rfl, e6.trans (e78.trans e910)⟩
  · rintro σ' H6 ⟨v3, v4, v5, rfl, e6⟩
    walk_at "rd"
    exact k H6

end
end My
open PySem PySem.W PyProof.Rows
theorem My.law_fin {P : Program} {w : World} {K : PySem.W.Frag} {mg : Str → Option Value} {h : Heap} {fa : Addr} (KX : K.In h) (hmg : mg "law" = some (.ref fa)) (T : My.Txt K mg) :
    ∃ fd : FuncData, (∀ (s : Shared) (u : Value), BindsTo s fd ⟨[u], []⟩ [("script", u)]) ∧ ∀ base : Heap, K.In base → base.Ns mainGlobals mg → L2.FnOk P w K mg base L2.CX0 10 fa fd ["script"] (My.spLaw K) :=
  My.Fn.fin T.d_law hmg (fun _ _ _ _ _ _ _ => rfl) (fun base => My.ok_law T)
theorem My.txt_mk_ok : True := trivial
def My.txt_mk {K : PySem.W.Frag} {mg : Str → Option Value} {a_ProvenamesError : Addr} {a_BadName : Addr} {a_BadRecord : Addr} {a_BadEdition : Addr} {a_BadOctets : Addr} {a_ZoneConflict : Addr} {a_DeskConflict : Addr} {a_Unknown : Addr} (m_bool : mg "bool" = none) (m_int : mg "int" = none) (m_isinstance : mg "isinstance" = none) (m_len : mg "len" = none) (m_list : mg "list" = none) (m_ord : mg "ord" = none) (m_range : mg "range" = none) (m_set : mg "set" = none) (m_sorted : mg "sorted" = none) (m_str : mg "str" = none) (m_tuple : mg "tuple" = none) (d_is_plain_label : My.Def1 K mg "is_plain_label" ["label"] My.s_is_plain_label) (d_is_name : My.Def1 K mg "is_name" ["labels"] My.s_is_name) (d_is_wildcard : My.Def1 K mg "is_wildcard" ["name"] My.s_is_wildcard) (d_is_word : My.Def1 K mg "is_word" ["number"] My.s_is_word) (d_is_character_code : My.Def1 K mg "is_character_code" ["code"] My.s_is_character_code) (d_is_text : My.Def1 K mg "is_text" ["value"] My.s_is_text) (d_is_mail : My.Def1 K mg "is_mail" ["value"] My.s_is_mail) (d_is_start : My.Def1 K mg "is_start" ["value"] My.s_is_start) (d_are_ordered_kinds : My.Def1 K mg "are_ordered_kinds" ["kinds"] My.s_are_ordered_kinds) (d_is_gap : My.Def1 K mg "is_gap" ["value"] My.s_is_gap) (d_is_value : My.Def1 K mg "is_value" ["kind", "value"] My.s_is_value) (d_is_allowed_count : My.Def1 K mg "is_allowed_count" ["kind", "count"] My.s_is_allowed_count) (d_make_set : My.Def1 K mg "make_set" ["name", "kind", "ttl", "values"] My.s_make_set) (d__law_cell : My.Def1 K mg "_law_cell" ["script", "k"] My.s__law_cell) (d__law_source : My.Def1 K mg "_law_source" ["cell"] My.s__law_source) (d__law_draw : My.Def1 K mg "_law_draw" ["source", "many"] My.s__law_draw) (d__law_label : My.Def1 K mg "_law_label" ["source"] My.s__law_label) (d__law_name : My.Def1 K mg "_law_name" ["source"] My.s__law_name) (d__law_kinds : My.Def1 K mg "_law_kinds" [] My.s__law_kinds) (d__law_word : My.Def1 K mg "_law_word" ["source"] My.s__law_word) (d__law_text : My.Def1 K mg "_law_text" ["source"] My.s__law_text) (d__law_value : My.Def1 K mg "_law_value" ["kind", "source"] My.s__law_value) (d__law_same : My.Def1 K mg "_law_same" ["actual", "expected"] My.s__law_same) (d__law_sorted : My.Def1 K mg "_law_sorted" ["values"] My.s__law_sorted) (d__law_odd_labels : My.Def1 K mg "_law_odd_labels" ["source"] My.s__law_odd_labels) (d__law_odd_number : My.Def1 K mg "_law_odd_number" ["source", "most"] My.s__law_odd_number) (d__law_odd_kinds : My.Def1 K mg "_law_odd_kinds" ["source"] My.s__law_odd_kinds) (d__law_odd_value : My.Def1 K mg "_law_odd_value" ["kind", "source"] My.s__law_odd_value) (d__law_numbered : My.Def1 K mg "_law_numbered" ["kind", "number"] My.s__law_numbered) (d__law_counted : My.Def1 K mg "_law_counted" ["kind", "source"] My.s__law_counted) (d__law_unknown_kind : My.Def1 K mg "_law_unknown_kind" ["source"] My.s__law_unknown_kind) (d__law_made : My.Def1 K mg "_law_made" ["source"] My.s__law_made) (d__law_is_name : My.Def1 K mg "_law_is_name" ["labels"] My.s__law_is_name) (d__law_is_word : My.Def1 K mg "_law_is_word" ["number"] My.s__law_is_word) (d__law_fits : My.Def1 K mg "_law_fits" ["kind", "value"] My.s__law_fits) (d__law_allowed : My.Def1 K mg "_law_allowed" ["made"] My.s__law_allowed) (d__law_refused : My.Def1 K mg "_law_refused" ["made", "passed", "by_name"] My.s__law_refused) (d_law : My.Def1 K mg "law" ["script"] My.s_law) (c_STAR_LABEL : My.GC mg "STAR_LABEL" (L2.V.str "*")) (c_LABEL_CHARACTERS : My.GC mg "LABEL_CHARACTERS" (L2.V.str "abcdefghijklmnopqrstuvwxyz0123456789-")) (c_MOST_CHARACTERS : My.GC mg "MOST_CHARACTERS" (L2.V.int 20)) (c_MOST_LABELS : My.GC mg "MOST_LABELS" (L2.V.int 12)) (c_KINDS : My.GK K mg "KINDS" ([.str "address", .str "text", .str "mail", .str "alias", .str "server", .str "start", .str "key", .str "link", .str "gap"] : List L2.V)) (c_NAME_KINDS : My.GK K mg "NAME_KINDS" ([.str "alias", .str "server"] : List L2.V)) (c_SINGLE_KINDS : My.GK K mg "SINGLE_KINDS" ([.str "alias", .str "start", .str "gap"] : List L2.V)) (c_MOST_VALUES : My.GC mg "MOST_VALUES" (L2.V.int 100)) (c_MOST_TEXT : My.GC mg "MOST_TEXT" (L2.V.int 60)) (c_LAST_WORD : My.GC mg "LAST_WORD" (L2.V.int 4294967295)) (c_LAST_MAIL_NUMBER : My.GC mg "LAST_MAIL_NUMBER" (L2.V.int 65535)) (c_SPACE_CODE : My.GC mg "SPACE_CODE" (L2.V.int 32)) (c_TILDE_CODE : My.GC mg "TILDE_CODE" (L2.V.int 126)) (c_PERCENT_CODE : My.GC mg "PERCENT_CODE" (L2.V.int 37)) (m_ValueError : mg "ValueError" = none) (g_ProvenamesError : mg "ProvenamesError" = some (.ref a_ProvenamesError)) (g_BadName : mg "BadName" = some (.ref a_BadName)) (g_BadRecord : mg "BadRecord" = some (.ref a_BadRecord)) (g_BadEdition : mg "BadEdition" = some (.ref a_BadEdition)) (g_BadOctets : mg "BadOctets" = some (.ref a_BadOctets)) (g_ZoneConflict : mg "ZoneConflict" = some (.ref a_ZoneConflict)) (g_DeskConflict : mg "DeskConflict" = some (.ref a_DeskConflict)) (g_Unknown : mg "Unknown" = some (.ref a_Unknown)) (q_BadName : PySem.W.excIn K a_BadName [.type "ValueError", .type "Exception", .type "BaseException", .type "object"] "ValueError.__new__" = true) (k_BadName : PySem.W.keepIn K (.ref a_BadName) = true) (b_BadName : PySem.W.subIn K (.ref a_BadName) (.type "BaseException") = some true) (t_BadName : PySem.W.typeIn K (.ref a_BadName) = some (.type "type")) (e_BadName : L2.ExcC K a_BadName) (x_BadName_ProvenamesError : PySem.W.exmOne K (.ref a_BadName) (.ref a_ProvenamesError) = some true) (i_BadName_ProvenamesError : PySem.W.kitOne K (.ref a_BadName) (.ref a_ProvenamesError) = some true) (i_BadName_BadName : PySem.W.kitOne K (.ref a_BadName) (.ref a_BadName) = some true) (i_BadName_BadRecord : PySem.W.kitOne K (.ref a_BadName) (.ref a_BadRecord) = some false) (i_BadName_BadEdition : PySem.W.kitOne K (.ref a_BadName) (.ref a_BadEdition) = some false) (i_BadName_BadOctets : PySem.W.kitOne K (.ref a_BadName) (.ref a_BadOctets) = some false) (i_BadName_ZoneConflict : PySem.W.kitOne K (.ref a_BadName) (.ref a_ZoneConflict) = some false) (i_BadName_DeskConflict : PySem.W.kitOne K (.ref a_BadName) (.ref a_DeskConflict) = some false) (i_BadName_Unknown : PySem.W.kitOne K (.ref a_BadName) (.ref a_Unknown) = some false) (i_BadName_ValueError : PySem.W.kitOne K (.ref a_BadName) (.type "ValueError") = some true) (q_BadRecord : PySem.W.excIn K a_BadRecord [.type "ValueError", .type "Exception", .type "BaseException", .type "object"] "ValueError.__new__" = true) (k_BadRecord : PySem.W.keepIn K (.ref a_BadRecord) = true) (b_BadRecord : PySem.W.subIn K (.ref a_BadRecord) (.type "BaseException") = some true) (t_BadRecord : PySem.W.typeIn K (.ref a_BadRecord) = some (.type "type")) (e_BadRecord : L2.ExcC K a_BadRecord) (x_BadRecord_ProvenamesError : PySem.W.exmOne K (.ref a_BadRecord) (.ref a_ProvenamesError) = some true) (i_BadRecord_ProvenamesError : PySem.W.kitOne K (.ref a_BadRecord) (.ref a_ProvenamesError) = some true) (i_BadRecord_BadName : PySem.W.kitOne K (.ref a_BadRecord) (.ref a_BadName) = some false) (i_BadRecord_BadRecord : PySem.W.kitOne K (.ref a_BadRecord) (.ref a_BadRecord) = some true) (i_BadRecord_BadEdition : PySem.W.kitOne K (.ref a_BadRecord) (.ref a_BadEdition) = some false) (i_BadRecord_BadOctets : PySem.W.kitOne K (.ref a_BadRecord) (.ref a_BadOctets) = some false) (i_BadRecord_ZoneConflict : PySem.W.kitOne K (.ref a_BadRecord) (.ref a_ZoneConflict) = some false) (i_BadRecord_DeskConflict : PySem.W.kitOne K (.ref a_BadRecord) (.ref a_DeskConflict) = some false) (i_BadRecord_Unknown : PySem.W.kitOne K (.ref a_BadRecord) (.ref a_Unknown) = some false) (i_BadRecord_ValueError : PySem.W.kitOne K (.ref a_BadRecord) (.type "ValueError") = some true) : My.Txt K mg :=
  ⟨m_bool, m_int, m_isinstance, m_len, m_list, m_ord, m_range, m_set, m_sorted, m_str, m_tuple, d_is_plain_label, d_is_name, d_is_wildcard, d_is_word, d_is_character_code, d_is_text, d_is_mail, d_is_start, d_are_ordered_kinds, d_is_gap, d_is_value, d_is_allowed_count, d_make_set, d__law_cell, d__law_source, d__law_draw, d__law_label, d__law_name, d__law_kinds, d__law_word, d__law_text, d__law_value, d__law_same, d__law_sorted, d__law_odd_labels, d__law_odd_number, d__law_odd_kinds, d__law_odd_value, d__law_numbered, d__law_counted, d__law_unknown_kind, d__law_made, d__law_is_name, d__law_is_word, d__law_fits, d__law_allowed, d__law_refused, d_law, c_STAR_LABEL, c_LABEL_CHARACTERS, c_MOST_CHARACTERS, c_MOST_LABELS, c_KINDS, c_NAME_KINDS, c_SINGLE_KINDS, c_MOST_VALUES, c_MOST_TEXT, c_LAST_WORD, c_LAST_MAIL_NUMBER, c_SPACE_CODE, c_TILDE_CODE, c_PERCENT_CODE, m_ValueError, a_ProvenamesError, a_BadName, a_BadRecord, a_BadEdition, a_BadOctets, a_ZoneConflict, a_DeskConflict, a_Unknown, g_ProvenamesError, g_BadName, g_BadRecord, g_BadEdition, g_BadOctets, g_ZoneConflict, g_DeskConflict, g_Unknown, q_BadName, k_BadName, b_BadName, t_BadName, e_BadName, x_BadName_ProvenamesError, i_BadName_ProvenamesError, i_BadName_BadName, i_BadName_BadRecord, i_BadName_BadEdition, i_BadName_BadOctets, i_BadName_ZoneConflict, i_BadName_DeskConflict, i_BadName_Unknown, i_BadName_ValueError, q_BadRecord, k_BadRecord, b_BadRecord, t_BadRecord, e_BadRecord, x_BadRecord_ProvenamesError, i_BadRecord_ProvenamesError, i_BadRecord_BadName, i_BadRecord_BadRecord, i_BadRecord_BadEdition, i_BadRecord_BadOctets, i_BadRecord_ZoneConflict, i_BadRecord_DeskConflict, i_BadRecord_Unknown, i_BadRecord_ValueError⟩
set_option maxRecDepth 100000 in
set_option maxHeartbeats 0 in
theorem PySem.Challenge.cw_provenames_k07_make_set_refuses_holds : PySem.Challenge.rw_provenames_k07_make_set_refuses.Holds := by
  w_on; o_law; k_head; (case hw => w_witness2)
  k_fill
  refine L2.walk_of (l := PySem.Challenge.rw_provenames_k07_make_set_refuses) (n := 63) (k := 10) (x := "script") (CX := fun _ => L2.CX0) (sp := fun w => My.spLaw _) rfl (by decide) rfl ⟨rfl, by decide, by decide⟩ (fun w h Y => PySem.W.kIn_of Y) ?F (fun _ _ a ns hl _ hS => ⟨a, ns, rfl, hS, hl, fun _ => rfl⟩) (fun _ _ _ _ _ h => h)
  case F =>
    intro w mg fa h KX G hmg
    refine My.law_fin KX hmg ?T
    case T =>
      refine' My.txt_mk ?m_bool ?m_int ?m_isinstance ?m_len ?m_list ?m_ord ?m_range ?m_set ?m_sorted ?m_str ?m_tuple ?d_is_plain_label ?d_is_name ?d_is_wildcard ?d_is_word ?d_is_character_code ?d_is_text ?d_is_mail ?d_is_start ?d_are_ordered_kinds ?d_is_gap ?d_is_value ?d_is_allowed_count ?d_make_set ?d__law_cell ?d__law_source ?d__law_draw ?d__law_label ?d__law_name ?d__law_kinds ?d__law_word ?d__law_text ?d__law_value ?d__law_same ?d__law_sorted ?d__law_odd_labels ?d__law_odd_number ?d__law_odd_kinds ?d__law_odd_value ?d__law_numbered ?d__law_counted ?d__law_unknown_kind ?d__law_made ?d__law_is_name ?d__law_is_word ?d__law_fits ?d__law_allowed ?d__law_refused ?d_law ?c_STAR_LABEL ?c_LABEL_CHARACTERS ?c_MOST_CHARACTERS ?c_MOST_LABELS ?c_KINDS ?c_NAME_KINDS ?c_SINGLE_KINDS ?c_MOST_VALUES ?c_MOST_TEXT ?c_LAST_WORD ?c_LAST_MAIL_NUMBER ?c_SPACE_CODE ?c_TILDE_CODE ?c_PERCENT_CODE ?m_ValueError ?g_ProvenamesError ?g_BadName ?g_BadRecord ?g_BadEdition ?g_BadOctets ?g_ZoneConflict ?g_DeskConflict ?g_Unknown ?q_BadName ?k_BadName ?b_BadName ?t_BadName ?e_BadName ?x_BadName_ProvenamesError ?i_BadName_ProvenamesError ?i_BadName_BadName ?i_BadName_BadRecord ?i_BadName_BadEdition ?i_BadName_BadOctets ?i_BadName_ZoneConflict ?i_BadName_DeskConflict ?i_BadName_Unknown ?i_BadName_ValueError ?q_BadRecord ?k_BadRecord ?b_BadRecord ?t_BadRecord ?e_BadRecord ?x_BadRecord_ProvenamesError ?i_BadRecord_ProvenamesError ?i_BadRecord_BadName ?i_BadRecord_BadRecord ?i_BadRecord_BadEdition ?i_BadRecord_BadOctets ?i_BadRecord_ZoneConflict ?i_BadRecord_DeskConflict ?i_BadRecord_Unknown ?i_BadRecord_ValueError
      (case m_bool => exact PySem.W.mg_none_of KX G (by k_is))
      (case m_int => exact PySem.W.mg_none_of KX G (by k_is))
      (case m_isinstance => exact PySem.W.mg_none_of KX G (by k_is))
      (case m_len => exact PySem.W.mg_none_of KX G (by k_is))
      (case m_list => exact PySem.W.mg_none_of KX G (by k_is))
      (case m_ord => exact PySem.W.mg_none_of KX G (by k_is))
      (case m_range => exact PySem.W.mg_none_of KX G (by k_is))
      (case m_set => exact PySem.W.mg_none_of KX G (by k_is))
      (case m_sorted => exact PySem.W.mg_none_of KX G (by k_is))
      (case m_str => exact PySem.W.mg_none_of KX G (by k_is))
      (case m_tuple => exact PySem.W.mg_none_of KX G (by k_is))
      (case m_ValueError => exact PySem.W.mg_none_of KX G (by k_is))
      (case d_is_plain_label => (refine' My.def1_mk KX G (fun _ _ _ _ _ _ us hl => match us, hl with | [_], _ => rfl) ?a ?l ?c ?k; (case a => k_is); (case l => k_is); (case c => k_is); (case k => k_is)))
      (case d_is_name => (refine' My.def1_mk KX G (fun _ _ _ _ _ _ us hl => match us, hl with | [_], _ => rfl) ?a ?l ?c ?k; (case a => k_is); (case l => k_is); (case c => k_is); (case k => k_is)))
      (case d_is_wildcard => (refine' My.def1_mk KX G (fun _ _ _ _ _ _ us hl => match us, hl with | [_], _ => rfl) ?a ?l ?c ?k; (case a => k_is); (case l => k_is); (case c => k_is); (case k => k_is)))
      (case d_is_word => (refine' My.def1_mk KX G (fun _ _ _ _ _ _ us hl => match us, hl with | [_], _ => rfl) ?a ?l ?c ?k; (case a => k_is); (case l => k_is); (case c => k_is); (case k => k_is)))
      (case d_is_character_code => (refine' My.def1_mk KX G (fun _ _ _ _ _ _ us hl => match us, hl with | [_], _ => rfl) ?a ?l ?c ?k; (case a => k_is); (case l => k_is); (case c => k_is); (case k => k_is)))
      (case d_is_text => (refine' My.def1_mk KX G (fun _ _ _ _ _ _ us hl => match us, hl with | [_], _ => rfl) ?a ?l ?c ?k; (case a => k_is); (case l => k_is); (case c => k_is); (case k => k_is)))
      (case d_is_mail => (refine' My.def1_mk KX G (fun _ _ _ _ _ _ us hl => match us, hl with | [_], _ => rfl) ?a ?l ?c ?k; (case a => k_is); (case l => k_is); (case c => k_is); (case k => k_is)))
      (case d_is_start => (refine' My.def1_mk KX G (fun _ _ _ _ _ _ us hl => match us, hl with | [_], _ => rfl) ?a ?l ?c ?k; (case a => k_is); (case l => k_is); (case c => k_is); (case k => k_is)))
      (case d_are_ordered_kinds => (refine' My.def1_mk KX G (fun _ _ _ _ _ _ us hl => match us, hl with | [_], _ => rfl) ?a ?l ?c ?k; (case a => k_is); (case l => k_is); (case c => k_is); (case k => k_is)))
      (case d_is_gap => (refine' My.def1_mk KX G (fun _ _ _ _ _ _ us hl => match us, hl with | [_], _ => rfl) ?a ?l ?c ?k; (case a => k_is); (case l => k_is); (case c => k_is); (case k => k_is)))
      (case d_is_value => (refine' My.def1_mk KX G (fun _ _ _ _ _ _ us hl => match us, hl with | [_, _], _ => rfl) ?a ?l ?c ?k; (case a => k_is); (case l => k_is); (case c => k_is); (case k => k_is)))
      (case d_is_allowed_count => (refine' My.def1_mk KX G (fun _ _ _ _ _ _ us hl => match us, hl with | [_, _], _ => rfl) ?a ?l ?c ?k; (case a => k_is); (case l => k_is); (case c => k_is); (case k => k_is)))
      (case d_make_set => (refine' My.def1_mk KX G (fun _ _ _ _ _ _ us hl => match us, hl with | [_, _, _, _], _ => rfl) ?a ?l ?c ?k; (case a => k_is); (case l => k_is); (case c => k_is); (case k => k_is)))
      (case d__law_cell => (refine' My.def1_mk KX G (fun _ _ _ _ _ _ us hl => match us, hl with | [_, _], _ => rfl) ?a ?l ?c ?k; (case a => k_is); (case l => k_is); (case c => k_is); (case k => k_is)))
      (case d__law_source => (refine' My.def1_mk KX G (fun _ _ _ _ _ _ us hl => match us, hl with | [_], _ => rfl) ?a ?l ?c ?k; (case a => k_is); (case l => k_is); (case c => k_is); (case k => k_is)))
      (case d__law_draw => (refine' My.def1_mk KX G (fun _ _ _ _ _ _ us hl => match us, hl with | [_, _], _ => rfl) ?a ?l ?c ?k; (case a => k_is); (case l => k_is); (case c => k_is); (case k => k_is)))
      (case d__law_label => (refine' My.def1_mk KX G (fun _ _ _ _ _ _ us hl => match us, hl with | [_], _ => rfl) ?a ?l ?c ?k; (case a => k_is); (case l => k_is); (case c => k_is); (case k => k_is)))
      (case d__law_name => (refine' My.def1_mk KX G (fun _ _ _ _ _ _ us hl => match us, hl with | [_], _ => rfl) ?a ?l ?c ?k; (case a => k_is); (case l => k_is); (case c => k_is); (case k => k_is)))
      (case d__law_kinds => (refine' My.def1_mk KX G (fun _ _ _ _ _ _ us hl => match us, hl with | [], _ => rfl) ?a ?l ?c ?k; (case a => k_is); (case l => k_is); (case c => k_is); (case k => k_is)))
      (case d__law_word => (refine' My.def1_mk KX G (fun _ _ _ _ _ _ us hl => match us, hl with | [_], _ => rfl) ?a ?l ?c ?k; (case a => k_is); (case l => k_is); (case c => k_is); (case k => k_is)))
      (case d__law_text => (refine' My.def1_mk KX G (fun _ _ _ _ _ _ us hl => match us, hl with | [_], _ => rfl) ?a ?l ?c ?k; (case a => k_is); (case l => k_is); (case c => k_is); (case k => k_is)))
      (case d__law_value => (refine' My.def1_mk KX G (fun _ _ _ _ _ _ us hl => match us, hl with | [_, _], _ => rfl) ?a ?l ?c ?k; (case a => k_is); (case l => k_is); (case c => k_is); (case k => k_is)))
      (case d__law_same => (refine' My.def1_mk KX G (fun _ _ _ _ _ _ us hl => match us, hl with | [_, _], _ => rfl) ?a ?l ?c ?k; (case a => k_is); (case l => k_is); (case c => k_is); (case k => k_is)))
      (case d__law_sorted => (refine' My.def1_mk KX G (fun _ _ _ _ _ _ us hl => match us, hl with | [_], _ => rfl) ?a ?l ?c ?k; (case a => k_is); (case l => k_is); (case c => k_is); (case k => k_is)))
      (case d__law_odd_labels => (refine' My.def1_mk KX G (fun _ _ _ _ _ _ us hl => match us, hl with | [_], _ => rfl) ?a ?l ?c ?k; (case a => k_is); (case l => k_is); (case c => k_is); (case k => k_is)))
      (case d__law_odd_number => (refine' My.def1_mk KX G (fun _ _ _ _ _ _ us hl => match us, hl with | [_, _], _ => rfl) ?a ?l ?c ?k; (case a => k_is); (case l => k_is); (case c => k_is); (case k => k_is)))
      (case d__law_odd_kinds => (refine' My.def1_mk KX G (fun _ _ _ _ _ _ us hl => match us, hl with | [_], _ => rfl) ?a ?l ?c ?k; (case a => k_is); (case l => k_is); (case c => k_is); (case k => k_is)))
      (case d__law_odd_value => (refine' My.def1_mk KX G (fun _ _ _ _ _ _ us hl => match us, hl with | [_, _], _ => rfl) ?a ?l ?c ?k; (case a => k_is); (case l => k_is); (case c => k_is); (case k => k_is)))
      (case d__law_numbered => (refine' My.def1_mk KX G (fun _ _ _ _ _ _ us hl => match us, hl with | [_, _], _ => rfl) ?a ?l ?c ?k; (case a => k_is); (case l => k_is); (case c => k_is); (case k => k_is)))
      (case d__law_counted => (refine' My.def1_mk KX G (fun _ _ _ _ _ _ us hl => match us, hl with | [_, _], _ => rfl) ?a ?l ?c ?k; (case a => k_is); (case l => k_is); (case c => k_is); (case k => k_is)))
      (case d__law_unknown_kind => (refine' My.def1_mk KX G (fun _ _ _ _ _ _ us hl => match us, hl with | [_], _ => rfl) ?a ?l ?c ?k; (case a => k_is); (case l => k_is); (case c => k_is); (case k => k_is)))
      (case d__law_made => (refine' My.def1_mk KX G (fun _ _ _ _ _ _ us hl => match us, hl with | [_], _ => rfl) ?a ?l ?c ?k; (case a => k_is); (case l => k_is); (case c => k_is); (case k => k_is)))
      (case d__law_is_name => (refine' My.def1_mk KX G (fun _ _ _ _ _ _ us hl => match us, hl with | [_], _ => rfl) ?a ?l ?c ?k; (case a => k_is); (case l => k_is); (case c => k_is); (case k => k_is)))
      (case d__law_is_word => (refine' My.def1_mk KX G (fun _ _ _ _ _ _ us hl => match us, hl with | [_], _ => rfl) ?a ?l ?c ?k; (case a => k_is); (case l => k_is); (case c => k_is); (case k => k_is)))
      (case d__law_fits => (refine' My.def1_mk KX G (fun _ _ _ _ _ _ us hl => match us, hl with | [_, _], _ => rfl) ?a ?l ?c ?k; (case a => k_is); (case l => k_is); (case c => k_is); (case k => k_is)))
      (case d__law_allowed => (refine' My.def1_mk KX G (fun _ _ _ _ _ _ us hl => match us, hl with | [_], _ => rfl) ?a ?l ?c ?k; (case a => k_is); (case l => k_is); (case c => k_is); (case k => k_is)))
      (case d__law_refused => (refine' My.def1_mk KX G (fun _ _ _ _ _ _ us hl => match us, hl with | [_, _, _], _ => rfl) ?a ?l ?c ?k; (case a => k_is); (case l => k_is); (case c => k_is); (case k => k_is)))
      (case d_law => (refine' My.def1_mk KX G (fun _ _ _ _ _ _ us hl => match us, hl with | [_], _ => rfl) ?a ?l ?c ?k; (case a => k_is); (case l => k_is); (case c => k_is); (case k => k_is)))
      (case c_STAR_LABEL => (refine' ⟨?u_STAR_LABEL, PySem.W.mg_of KX G ?z, ?r⟩; (case z => k_is); (case r => exact ⟨_, rfl⟩)))
      (case c_LABEL_CHARACTERS => (refine' ⟨?u_LABEL_CHARACTERS, PySem.W.mg_of KX G ?z, ?r⟩; (case z => k_is); (case r => exact ⟨_, rfl⟩)))
      (case c_MOST_CHARACTERS => (refine' ⟨?u_MOST_CHARACTERS, PySem.W.mg_of KX G ?z, ?r⟩; (case z => k_is); (case r => exact ⟨_, rfl⟩)))
      (case c_MOST_LABELS => (refine' ⟨?u_MOST_LABELS, PySem.W.mg_of KX G ?z, ?r⟩; (case z => k_is); (case r => exact ⟨_, rfl⟩)))
      (case c_KINDS => (refine' My.gk_mk KX G ?z ?l ?c ?d ?s ?v ?n; (case z => k_is); (case l => k_is); (case c => rfl); (case d => rfl); (case s => decide); (case n => rfl); (case v => exact .cons ⟨_, rfl⟩ (.cons ⟨_, rfl⟩ (.cons ⟨_, rfl⟩ (.cons ⟨_, rfl⟩ (.cons ⟨_, rfl⟩ (.cons ⟨_, rfl⟩ (.cons ⟨_, rfl⟩ (.cons ⟨_, rfl⟩ (.cons ⟨_, rfl⟩ (.nil))))))))))))
      (case c_NAME_KINDS => (refine' My.gk_mk KX G ?z ?l ?c ?d ?s ?v ?n; (case z => k_is); (case l => k_is); (case c => rfl); (case d => rfl); (case s => decide); (case n => rfl); (case v => exact .cons ⟨_, rfl⟩ (.cons ⟨_, rfl⟩ (.nil)))))
      (case c_SINGLE_KINDS => (refine' My.gk_mk KX G ?z ?l ?c ?d ?s ?v ?n; (case z => k_is); (case l => k_is); (case c => rfl); (case d => rfl); (case s => decide); (case n => rfl); (case v => exact .cons ⟨_, rfl⟩ (.cons ⟨_, rfl⟩ (.cons ⟨_, rfl⟩ (.nil))))))
      (case c_MOST_VALUES => (refine' ⟨?u_MOST_VALUES, PySem.W.mg_of KX G ?z, ?r⟩; (case z => k_is); (case r => exact ⟨_, rfl⟩)))
      (case c_MOST_TEXT => (refine' ⟨?u_MOST_TEXT, PySem.W.mg_of KX G ?z, ?r⟩; (case z => k_is); (case r => exact ⟨_, rfl⟩)))
      (case c_LAST_WORD => (refine' ⟨?u_LAST_WORD, PySem.W.mg_of KX G ?z, ?r⟩; (case z => k_is); (case r => exact ⟨_, rfl⟩)))
      (case c_LAST_MAIL_NUMBER => (refine' ⟨?u_LAST_MAIL_NUMBER, PySem.W.mg_of KX G ?z, ?r⟩; (case z => k_is); (case r => exact ⟨_, rfl⟩)))
      (case c_SPACE_CODE => (refine' ⟨?u_SPACE_CODE, PySem.W.mg_of KX G ?z, ?r⟩; (case z => k_is); (case r => exact ⟨_, rfl⟩)))
      (case c_TILDE_CODE => (refine' ⟨?u_TILDE_CODE, PySem.W.mg_of KX G ?z, ?r⟩; (case z => k_is); (case r => exact ⟨_, rfl⟩)))
      (case c_PERCENT_CODE => (refine' ⟨?u_PERCENT_CODE, PySem.W.mg_of KX G ?z, ?r⟩; (case z => k_is); (case r => exact ⟨_, rfl⟩)))
      (case g_ProvenamesError => (refine' PySem.W.mg_of KX G ?z; (case z => k_is)))
      (case g_BadName => (refine' PySem.W.mg_of KX G ?z; (case z => k_is)))
      (case g_BadRecord => (refine' PySem.W.mg_of KX G ?z; (case z => k_is)))
      (case g_BadEdition => (refine' PySem.W.mg_of KX G ?z; (case z => k_is)))
      (case g_BadOctets => (refine' PySem.W.mg_of KX G ?z; (case z => k_is)))
      (case g_ZoneConflict => (refine' PySem.W.mg_of KX G ?z; (case z => k_is)))
      (case g_DeskConflict => (refine' PySem.W.mg_of KX G ?z; (case z => k_is)))
      (case g_Unknown => (refine' PySem.W.mg_of KX G ?z; (case z => k_is)))
      (case q_BadName => k_exc)
      (case k_BadName => k_is)
      (case b_BadName => k_is)
      (case t_BadName => k_is)
      (case e_BadName => (refine' ⟨?z1, ?z2, ?z3, ?z4, ?z5, ?z6, ?z7, ?z8⟩; (case z1 => k_is); (case z2 => k_is); (case z3 => k_is); (case z4 => k_is); (case z5 => k_is); (case z6 => k_is); (case z7 => k_is); (case z8 => k_is)))
      (case x_BadName_ProvenamesError => (refine' PySem.W.exm_ref ?z1 ?z2 ?z3 ?z4; (case z1 => k_is); (case z2 => k_is); (case z3 => k_is); (case z4 => k_is)))
      (case i_BadName_ProvenamesError => kit_is)
      (case i_BadName_BadName => kit_is)
      (case i_BadName_BadRecord => kit_is)
      (case i_BadName_BadEdition => kit_is)
      (case i_BadName_BadOctets => kit_is)
      (case i_BadName_ZoneConflict => kit_is)
      (case i_BadName_DeskConflict => kit_is)
      (case i_BadName_Unknown => kit_is)
      (case i_BadName_ValueError => kit_is)
      (case q_BadRecord => k_exc)
      (case k_BadRecord => k_is)
      (case b_BadRecord => k_is)
      (case t_BadRecord => k_is)
      (case e_BadRecord => (refine' ⟨?z1, ?z2, ?z3, ?z4, ?z5, ?z6, ?z7, ?z8⟩; (case z1 => k_is); (case z2 => k_is); (case z3 => k_is); (case z4 => k_is); (case z5 => k_is); (case z6 => k_is); (case z7 => k_is); (case z8 => k_is)))
      (case x_BadRecord_ProvenamesError => (refine' PySem.W.exm_ref ?z1 ?z2 ?z3 ?z4; (case z1 => k_is); (case z2 => k_is); (case z3 => k_is); (case z4 => k_is)))
      (case i_BadRecord_ProvenamesError => kit_is)
      (case i_BadRecord_BadName => kit_is)
      (case i_BadRecord_BadRecord => kit_is)
      (case i_BadRecord_BadEdition => kit_is)
      (case i_BadRecord_BadOctets => kit_is)
      (case i_BadRecord_ZoneConflict => kit_is)
      (case i_BadRecord_DeskConflict => kit_is)
      (case i_BadRecord_Unknown => kit_is)
      (case i_BadRecord_ValueError => kit_is)
#print axioms PySem.Challenge.cw_provenames_k07_make_set_refuses_holds

