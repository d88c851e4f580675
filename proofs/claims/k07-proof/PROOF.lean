import PyProof.Rows.All
import Wide.All
import OpenK.AllK
import Wide.FinOn
import HandS.ForMost
import HandS.Defaults
import HandS.MakeKwOnly
import HandS.Property
import HandS.Strs
import PyProof.StrWalks
import HandS.EndBits
import PyProof.ReprRoads
import HandS.ExcInit
import KE.KExcSuper
import HandS.WordsExc
import HandS.ExcValue
import HandS.ExcField
import HandS.IsInst
import KE.KExcIs
import HandS.ClsMeth
import HandS.SlotsOwn
import HandS.StrMore
import HandS.FStr
import HandS.Style
import PyProof.StrOps2
import PyProof.CallStr
import PyProof.ListStr
import HandS.Walk
import HandS.RaiseOp
import HandS.Codes
import PySem.Challenge.RW_rowgames_k07_moves_in_order
import PyProof.ReprLen
import HandS.CallSlots
import HandS.Star
import KE.GoesEnum
import PyProof.StrLawsTight
import HandS.WordsDict
import PyProof.EqAt
import PyProof.MeetsIn
import KE.KExcRaise
import KE.DataMinMax
import OpenK.KEqL
import HandS.Deep
import KE.KOpsOwn
import HandS.GenList
import PyProof.ListMulRight
import PyProof.Rows.StrRev
import PyProof.Rows.StrBetween
import PyProof.Rows.StrFirst
import HandS.GenYield
import HandS.SortInts
import HandS.Lambda
import HandS.EndOwn
import KE.OsRunLaw
set_option Elab.async false
set_option maxRecDepth 100000
/-! Rules of my own over the hand layer: what a class of one's own says of len, [ ], in; a method called by keywords alone. -/
namespace Rg
open PySem L2 PySem.Spec PyProof.Rows
theorem rvRef (a : Addr) : RelV (.ref a) (Value.ref a) := rfl
section
variable {X : Cx} {CX : CXT} {k : Nat} {C f : Addr} {fd : FuncData} {ps : List Str} {sp : Sp} {E : XK} {pins : List (Addr × Obj)} {σ : L2.St} {H : Hp} {s : Shared}

/-- a def of the text, run one step further in -/
theorem runIn {Q : VK} {us : List Value} {vs : List V} (F : FnOk X.prog X.w X.K X.mg X.base CX k f fd ps sp) (room : Room (k + 1) X.A) (bd : Binds X.K fd ps []) (ex : Passes CX X E)
    (I : Inv X pins σ H s) (r : Vals vs us) (want : sp vs H Q E) : wpAny (model X.prog X.w) X.A.in1 (call (.ref f) us) (EP X pins σ Q) X.xe s := by
  have len : us.length = ps.length := r.length.symm.trans (F.len _ _ _ _ want)
  have bt : BindsTo s fd ⟨us, []⟩ (ps.zip us) := by
    have z := bd s us I.kIn (by rw [List.append_nil]; exact len)
    rw [List.append_nil] at z
    exact z
  refine wpAny_call (codeAny_mono (F.run X.A.in1 X.stack s H ⟨us, []⟩ us vs Q E room.in1 I.env0.in1 bt r want) fun res s' got => ?_)
  rcases res with e | fl
  · exact ex pins σ H s e s' I got
  · cases fl <;> first | exact I.after got | exact False.elim got

/-- the instance at a, as the walk's lemmas want it -/
theorem instAt {a dx : Addr} {fs : List (Str × V)} (I : Inv X pins σ H s) (e : H a = some (.ins C dx fs)) : ∃ od, PySem.W.InstAt s.heap a (PySem.W.instObj C dx) C od := by
  obtain ⟨mA, O, _⟩ := ins_get I.hok e
  obtain ⟨od, J, _⟩ := O.look
  exact ⟨od, J⟩

/-- o.m(k = v, ..), no value by place -/
def tMethK (C : Addr) (m : Str) (sp : Sp) (gV : List V → List V → List V) (n : Nat) (E : XK) (ta : TE) (tk : TA) : TE := fun σ H Q => ta σ H fun x H1 => ∃ a dx fs, x = .ref a ∧ H1 a = some (.ins C dx fs) ∧ fs.lookup m = none ∧
  tk σ H1 fun zs H2 => zs.length = n ∧ sp (gV [x] zs) H2 Q E
theorem pe_methK {pl : Sem Bool} {o : Expr} {m : Str} {kws : List Keyword} {ks : List Str} {ta : TE} {tk : TA} {pos apos : Pos} {g : List Value → List Value → List Value} {gV : List V → List V → List V}
    (he : PE X o ta) (c : Cls X.K C) (hm : Meth X.K C m f) (F : FnOk X.prog X.w X.K X.mg X.base CX k f fd ps sp) (room : Room k X.A) (kb : KBn X.K fd ps 1 ks g gV) (ex : Passes CX X E) (hk : PK X kws tk)
    (hall : (backToKw pos (keywordEach kws X.env)).all (·.1.isSome) = true := by rfl) (hks : (backToKw pos (keywordEach kws X.env)).filterMap (·.1) = ks := by rfl)
    (hpl : ((backTo pos (starEach [] X.env)).any (·.1) || (backToKw pos (keywordEach kws X.env)).any (·.1.isNone)) = false := by rfl)
    (ht : eval (.Call (.Attribute o m apos) [] kws pos) X.env = (do
      let ov ← eval o X.env
      standAt apos.atName
      let (f, first) ← holding [ov] (getMethod ov m pl)
      callWith pos f first (backTo pos (starEach [] X.env)) (backToKw pos (keywordEach kws X.env))) := by rfl) :
    PE X (.Call (.Attribute o m apos) [] kws pos) (tMethK C m sp gV ks.length E ta tk) := by
  refine ⟨fun pins s σ H Q I h => PySem.W.methodCall_KW (pl := pl) (thn (he.run pins s σ H _ I h) ?_) ht⟩
  rintro u s1 ⟨x, H1, I1, rx, a, dx, fs, rfl, e, no, q⟩
  obtain rfl : u = Value.ref a := rx
  refine getmeth_ok I1 e c hm no (PySem.W.callWith_KW0 (first := [.ref a]) (h₀ := X.base) I1.ok.mod.kin hm.kp hall (thn (hk.run pos pins s1 σ H1 _ I1 q) ?_) hpl)
  rintro ws s2 ⟨zs, H2, I2, rz, lz, want⟩
  refine ⟨I2.kIn, ?_⟩
  rw [hks]
  have lw : ws.length = ks.length := rz.length.symm.trans lz
  have rr : Vals (gV [V.ref a] zs) (g [Value.ref a] ws) := kb.rel (.cons (rvRef a) .nil) rz
  refine wpAny_call (codeAny_mono (F.run X.A X.stack s2 H2 ⟨[.ref a], ks.zip ws⟩ (g [.ref a] ws) (gV [.ref a] zs) Q E room I2.env0 (kb.to s2 [.ref a] ws I2.kIn rfl lw) rr want) fun res s' got => ?_)
  rcases res with er | fl
  · exact ex pins σ H2 s2 er s' I2 got
  · cases fl <;> first | exact I2.after got | exact False.elim got
end
end Rg
set_option Elab.async false
set_option maxRecDepth 100000
/-! len(set(text)) where no sign stands twice. -/
namespace Rg
open PySem L2 PySem.Spec PyProof.Rows
section
variable {prog : Program} {w : World} {A : Around}
/-- the signs of a text, each a text -/
def signs (x : Str) : List Str := x.cps.toList.map fun c => ⟨#[c]⟩
end

section
variable {prog : Program} {w : World} {A : Around} {E : Value → Shared → Prop} {s : Shared}
abbrev bare (led : Bool) : Obj := { cls := .type "set", dict := none, data := .set #[] 0 (.fresh 0 0 led) }
end

section
variable {X : Cx}
end
end Rg
set_option Elab.async false
set_option maxRecDepth 100000
/-! A def that is told that no repr runs around it; repr of data; the law's end with such a def. -/
namespace Rg
open PySem L2 PySem.Spec PyProof.Rows

/-- as FnOk, where nothing guards around the call -/
structure FnG (P : Program) (w : World) (K : PySem.W.Frag) (mg : Str → Option Value) (base : Heap) (CX : CXT) (k : Nat) (f : Addr) (fd : FuncData) (ps : List Str) (sp : Sp) : Prop where
  len : ∀ vs H Q E, sp vs H Q E → vs.length = ps.length
  run : ∀ (A : Around) (outer : List Env) (s : Shared) (H : Hp) (args : Args) (us : List Value) (vs : List V) (Q : VK) (E : XK), A.guards = some [] → Room k A → Env0 P w K mg base A outer s H → BindsTo s fd args (ps.zip us) → Vals vs us → sp vs H Q E →
    codeAny (model P w) A (.call (.ref f) args) (CR CX outer P w H s Q E) s

section
variable {P : Program} {w : World} {K : PySem.W.Frag} {mg : Str → Option Value} {base : Heap}
theorem funG {x qual : Str} {st : Stmt} {f : Addr} {fd : FuncData} {N ps : List Str} {k : Nat} {sp : Sp} (F : Fun K x qual st f fd) (S : FnScope N ps (defScope st)) (len : ∀ vs H Q E, sp vs H Q E → vs.length = ps.length)
    (body : ∀ (cdv : Value) (A : Around) (outer : List Env) (s : Shared) (H : Hp) (vs : List V) (Q : VK) (E : XK), A.guards = some [] → Room k (A.deeper (envOfC qual (defScope st) s.heap.objs.size f cdv)) → sp vs H Q E →
      ∃ t, PSs (cxOf CX0 P w K mg base N qual (defScope st) f cdv A outer s H E).nox (defBody st) t ∧ t { nx := fun _ H' => Q .non H', rt := Q } (start N vs) H) : FnG P w K mg base CX0 (k + 1) f fd ps sp := by
  obtain ⟨oc, od, kV, doc, pm, an, cdv, ct, osl, rfl, lk, hcd⟩ := F.ex
  refine ⟨len, fun A outer s H args us vs Q E hg hr e0 hb r want => ?_⟩
  have there : ∀ b o, base.get? b = some o → s.heap.get? b = some o := fun b o e => (e0.bs b o e).1
  have KX := e0.mod.kin.keeps there
  have kinds : ∀ y ∈ ps.zip us, (defScope st).names.lookup y.1 = some .local ∨ ((defScope st).names.lookup y.1 = some .cell ∧ ((cellsFrom (s.heap.objs.size + 1) (defScope st).names []).lookup y.1).isSome = true) := by
    rintro ⟨n, v⟩ hy
    rcases S.par n (List.of_mem_zip hy).1 with q | q
    · exact Or.inl q
    · exact Or.inr ⟨q, PySem.W.cellsFrom_some _ _ _ (Or.inl q)⟩
  refine codeAny_call_function hr.depth (KX _ _ lk) rfl S.co S.gen rfl (PySem.W.codeRec_of KX hcd) (hb _ _ _ _ (wpAny_newFunctionEnv_cells S.kind kinds ?_))
  intro env he s1 x
  subst he
  obtain ⟨t, ht, q⟩ := body cdv A outer s H vs Q E hg (hr.deeper _) want
  have I : Inv (cxOf CX0 P w K mg base N qual (defScope st) f cdv A outer s H E) [] (start N vs) H s1 := inv_start S hr.hd e0 (len _ _ _ _ want) r x
  refine ⟨(e0.mod.nolimit.keeps there).keeps x.toInCall.keep, codeAny_func (wpAny_mono (ht.nox.run [] s1 (start N vs) H _ I q) ?_ fun _ _ z => z)⟩
  intro fl s2 out
  cases fl with
  | ret u => obtain ⟨v, _, H2, J, rv, q2⟩ := out; exact ⟨v, H2, J.os, J.bare, J.base, J.hok, rv, q2⟩
  | next => obtain ⟨_, H2, J, q2⟩ := out; exact ⟨V.non, H2, J.os, J.bare, J.base, J.hok, rfl, q2⟩
  | brk => obtain ⟨_, _, _, q2⟩ := out; exact q2.elim
  | cont => obtain ⟨_, _, _, q2⟩ := out; exact q2.elim
end

section
variable {X : Cx} {CX : CXT} {k : Nat} {f : Addr} {fd : FuncData} {ps : List Str} {sp : Sp} {E : XK} {x : Str} {p pos : Pos} {e : Expr} {es : List Expr} {t : TA}
/-- f(e, ..), f such a def -/
theorem pe_callG (hg0 : X.A.guards = some []) (F : FnG X.prog X.w X.K X.mg X.base CX k f fd ps sp) (hr : Room k X.A) (hg : Gl X x) (hm : X.mg x = some (.ref f)) (hk : PySem.W.keepIn X.K (.ref f) = true) (bd : Binds X.K fd ps []) (ex : Passes CX X E)
    (ha : PA X (e :: es) t) (hdb : (x == ("__debug__" : Str)) = false := by decide) (he : starEach (e :: es) X.env = (false, eval e X.env) :: starEach es X.env := by rfl) (hpl : (backTo pos (starEach es X.env)).any (·.1) = false := by rfl) :
    PE X (.Call (.Name x p) (e :: es) [] pos) (tCall sp [] E t) := by
  refine ⟨fun pins s σ H Q I h => wpAny_Call_Name_kw (ld_glob I hg hm (PySem.W.callWith_K (h₀ := X.base) I.ok.mod.kin hk (thn (ha.run pos pins s σ H _ I h) ?_) he hpl) hdb)⟩
  rintro us s1 ⟨vs, H1, I1, r, want⟩
  rw [List.append_nil] at want
  refine ⟨I1.kIn, ?_⟩
  have len : us.length = ps.length := r.length.symm.trans (F.len _ _ _ _ want)
  have bt : BindsTo s1 fd ⟨us, []⟩ (ps.zip us) := by
    have z := bd s1 us I1.kIn (by rw [List.append_nil]; exact len)
    rw [List.append_nil] at z
    exact z
  refine wpAny_call (codeAny_mono (F.run X.A X.stack s1 H1 ⟨us, []⟩ us vs Q E hg0 hr I1.env0 bt r want) fun res s' got => ?_)
  rcases res with er | fl
  · exact ex pins σ H1 s1 er s' I1 got
  · cases fl <;> first | exact I1.after got | exact False.elim got
end

/-! ### repr -/
section
/-- how a value of the layer reads as data: no dict, no object of one's own -/
inductive Rp (K : PySem.W.Frag) (H : Hp) : V → PyData → Prop
  | non : Rp K H .non .none
  | bl (b) : Rp K H (.bl b) (.bool b)
  | int (i) : Rp K H (.int i) (.int i)
  | str (x) : Rp K H (.str x) (.str x)
  | lst {a xs ds} : SqL K H a xs → Paired (Rp K H) xs ds → Rp K H (.ref a) (.list ds)
  | tup {a xs ds} : SqT K H a xs → Paired (Rp K H) xs ds → Rp K H (.ref a) (.tuple ds)
variable {X : Cx} {pins : List (Addr × Obj)} {σ : L2.St} {H : Hp} {s : Shared}
mutual
theorem Rp.reads (I : Inv X pins σ H s) : ∀ {v : V} {d : PyData} {u : Value}, Rp X.K H v d → RelV v u → ∃ as, Reads s.heap u d as
  | _, _, _, .non, r => by cases r; exact ⟨_, .none⟩
  | _, _, _, .bl b, r => by cases r; exact ⟨_, .bool b⟩
  | _, _, _, .int i, r => by obtain ⟨t, rfl⟩ := r; exact ⟨_, .int i t⟩
  | _, _, _, .str x, r => by obtain ⟨t, rfl⟩ := r; exact ⟨_, .str x t⟩
  | _, _, _, .lst h all, r => by
    cases r
    obtain ⟨its, rv, ⟨o, n, eo, hc, _, hd⟩, _⟩ := I.list h
    obtain ⟨as, ra⟩ := Rp.readsAll I all rv
    exact ⟨_, .list eo hc hd ra⟩
  | _, _, _, .tup h all, r => by
    cases r
    obtain ⟨its, rv, ⟨o, eo, hc, n, hd⟩, _⟩ := I.tuple h
    obtain ⟨as, ra⟩ := Rp.readsAll I all rv
    exact ⟨_, .tuple eo hc hd ra⟩
theorem Rp.readsAll (I : Inv X pins σ H s) : ∀ {vs : List V} {ds : List PyData} {us : List Value}, Paired (Rp X.K H) vs ds → Vals vs us → ∃ as, ReadsAll s.heap us ds as
  | _, _, _, .nil, .nil => ⟨_, .nil⟩
  | _, _, _, .cons a b, .cons r t => by
    obtain ⟨as, h1⟩ := Rp.reads I a r
    obtain ⟨bs, h2⟩ := Rp.readsAll I b t
    exact ⟨_, .cons h1 h2⟩
end
end

/-! ### the law's end -/
end Rg
set_option Elab.async false
set_option maxRecDepth 100000
set_option autoImplicit false
/-! An error class of the program whose __init__ hands a text to the one above and keeps its fields. -/
namespace Er
open PySem L2 PySem.Spec PyProof.Rows PySem.Calls
abbrev veInit : String := "ValueError.__init__"
section
variable {prog : Program} {w : World} {A : Around} {E : Value → Shared → Prop} {K : PySem.W.Frag} {h : Heap} {g : Array GenState} {d : Drawn} {t : Nat} {os : OsState}
variable {nm q : Str} {C N : Addr} {bs bm : List Value} {sn : List Str} {sub : List Value} {ab : Bool} {col : Option Bool} {dd : Option Addr} {k0 k1 k2 k3 k5 : Option Value}
/-- the bound wrapper is called: the args are laid, else all stays -/
theorem wrapCall {u e t0 : Addr} {rest : List Value} {Q : Value → Shared → Prop} (hC : h.get? C = some (excClassObj nm q C N bs bm true sn sub ab col dd k0 k1 k2 k3 k5 "ValueError.__new__"))
    (hu : h.get? u = some (PySem.W.kxs_mw veInit e)) (he : h.get? e = some (PySem.HandSPX.excO C t0)) (few : rest.length ≤ sizeLine)
    (go : ∀ h' t1, (∀ b o, b ≠ e → h.get? b = some o → h'.get? b = some o) → h'.get? e = some (PySem.HandSPX.excO C t1) → Q .none ⟨h', g, d, t, os⟩) : wpAny (model prog w) A (call (.ref u) rest) Q E ⟨h, g, d, t, os⟩ := by
  refine wpAny_call (codeAny_of_tree ?_)
  show wpAny (model prog w) A.in1 (callAny (.ref u) ⟨rest, []⟩) _ _ _
  simp only [callAny]
  refine wpAny_bind (wpAny_load hu ?_)
  have k1' : (Value.type "method-wrapper" == Value.type "method" || Value.type "method-wrapper" == Value.type "builtin_function_or_method" || Value.type "method-wrapper" == Value.type "method-wrapper") = true := by decide
  simp only [k1', if_true]
  refine PySem.W.KFB.if_so (by decide) (wpAny_bind ?_)
  refine PySem.W.check_bound_init PySem.F.excBase_ValueError.toExcCallFacts hC he rfl (wpAny_bind (wpAny_pure (wpAny_pure ⟨plainId_quiet PySem.F.excBase_ValueError.init.plain _, codeAny_builtin PySem.F.excBase_ValueError.initEntry ?_⟩)))
  refine PySem.W.exc_init_tree (cls := .ref C) (t0 := t0) (dv := none) (c2 := .none) (c3 := .none) (b4 := .bool false) he few fun h' a b _ => go h' _ a b
/-- what is written of such a class, and of its __init__ at fI, whose cell is at cc, whose code at cda -/
structure ErrC (prog : Program) (K : PySem.W.Frag) (C fI cc cda : Addr) : Prop where
  cls : ∃ nm q N bs bm sn sub ab col dd k0 k1 k2 k3 k5, K.lookup C = some (excClassObj nm q C N bs bm true sn sub ab col dd k0 k1 k2 k3 k5 "ValueError.__new__") ∧ PySem.HandSPX.refsVE bm = true
  sup : PySem.W.ks_superIn K C C "__init__" = some (some (.builtin veInit))
  any_ : PySem.W.nsIn K cStatics "thirdparty.any" = some none
  ve : PySem.W.subIn K (.ref C) (.type "ValueError") = some true
  self_ : PySem.W.mroIn K C (.ref C) = some true
  cell : ∃ cl cld csl, K.lookup cc = some ⟨cl, cld, .cell (some (.ref C)), csl⟩
  code : ∃ ccl cdd vs ccs file tf, K.lookup cda = some ⟨ccl, cdd, .fields vs, ccs⟩ ∧ vs[2]? = some (.str file tf) ∧ ((prog.main.file : Str) == file) = true
  top : (prog.main.scope.names.lookup ("super" : Str)).isSome = false
/-- super().__init__("..") -/
theorem superLine {fI cc cda x L t0 : Addr} {fd : FuncData} {oc : Value} {od : Option Addr} {osl : Array (Option Value)} {ar : Arg} {m mg mb : Str → Option Value} {qual msg : Str} {scope : Scope} {body : List Stmt} {j : Nat} {p0 p1 p2 p3 p4 p5 : Pos} {pl : Sem Bool} {Q : Flow → Shared → Prop}
    (T : ErrC prog K C fI cc cda) (X : K.In h) (lk : K.lookup fI = some ⟨oc, od, .func fd, osl⟩) (hp : (fd.params.posonlyargs ++ fd.params.args).head? = some ar) (hks : scope.names.lookup ("super" : Str) = some .globalImplicit) (hkc : scope.names.lookup ("__class__" : Str) = some .free)
    (hka : scope.names.lookup ar.arg = some .local) (hk : scope.kind = .function) (hns : h.Ns L m) (hself : m ar.arg = some (.ref x)) (hx : h.get? x = some (PySem.HandSPX.excO C t0)) (gl : h.Ns mainGlobals mg) (gs : mg "super" = none) (bl : h.Ns builtinsNs mb) (bb : mb "super" = bootBuiltins "super")
    (go : ∀ h' tk t1, (∀ b o, b ≠ x → h.get? b = some o → h'.get? b = some o) → h'.get? x = some (PySem.HandSPX.excO C t1) → Q .next ⟨h', g, d, tk, os⟩)
    (he : eval (.Call (.Attribute (.Call (.Name "super" p0) [] [] p1) "__init__" p2) [.Constant (.str msg) j p3] [] p4) (PySem.W.ksEnv qual scope L fI (.ref cda) cc) = (do
        let ov ← attributeBase (.Call (.Name "super" p0) [] [] p1) "__init__" (PySem.W.ksEnv qual scope L fI (.ref cda) cc) (eval (.Call (.Name "super" p0) [] [] p1) (PySem.W.ksEnv qual scope L fI (.ref cda) cc))
        standAt p2.atName
        let (f, first) ← holding [ov] (getMethod ov "__init__" pl)
        callWith p4 f first (backTo p4 (starEach [.Constant (.str msg) j p3] (PySem.W.ksEnv qual scope L fI (.ref cda) cc))) []) := by rfl)
    (hi : interactive (PySem.W.ksEnv qual scope L fI (.ref cda) cc) = false := by rfl) (hsw : swapsWith (.Call (.Attribute (.Call (.Name "super" p0) [] [] p1) "__init__" p2) [.Constant (.str msg) j p3] [] p4) none p5.line (PySem.W.ksEnv qual scope L fI (.ref cda) cc) = pure false := by rfl) :
    _root_.PySem.wpAt (model prog w) A (.func body (PySem.W.ksEnv qual scope L fI (.ref cda) cc)) (exec (.Expr (.Call (.Attribute (.Call (.Name "super" p0) [] [] p1) "__init__" p2) [.Constant (.str msg) j p3] [] p4) p5) (PySem.W.ksEnv qual scope L fI (.ref cda) cc)) Q E ⟨h, g, d, t, os⟩ := by
  obtain ⟨nm, q, N, bs, bm, sn, sub, ab, col, dd, k0, k1, k2, k3, k5, hC, hbm⟩ := T.cls
  obtain ⟨ccl, cdd, vs, ccs, file, tf, hcode, hvs, hfile⟩ := T.code
  obtain ⟨cl, cld, csl, hcell⟩ := T.cell
  have hcd : ∃ cd, PySem.W.clsIn K C = some cd ∧ PySem.W.alongIn K "__init__" ((cd.mro.dropWhile (· != .ref C)).drop 1) = some (some (.builtin veInit)) := Option.bind_eq_some_iff.mp T.sup
  obtain ⟨cd, hcd, along⟩ := hcd
  have I0 : PySem.W.InstAt h x (PySem.HandSPX.excO C t0) C none := ⟨hx, rfl, rfl, trivial⟩
  have ne : x ≠ C := PySem.W.ks_ne X I0 hcd
  refine PySem.ks_wpAt_Expr_any (PySem.ks_wpAt_MethodCall (PySem.ks_wpAt_super_base (env := PySem.W.ksEnv qual scope L fI (.ref cda) cc) hks hkc (by decide) rfl (X _ _ lk) rfl hp rfl (X _ _ hcode) rfl hvs hfile T.top ?_) he) hi hsw
  refine PySem.W.ks_loadName_global hk hks (loadGlobal_builtin (env := PySem.W.ksEnv qual scope L fI (.ref cda) cc) gl gs bl (bb.trans (by decide +kernel : bootBuiltins "super" = some (.type "super"))) ⟨rfl, ?_⟩)
  refine wpAny_loadName_free hk hkc rfl ⟨_, X _ _ hcell, rfl⟩ (wpAny_loadName_local hk hka hns hself (PySem.ks_wpAny_isType_cls (X _ _ hC) rfl ⟨rfl, ?_⟩))
  refine PySem.ks_wpAny_call_super (X _ _ hC) rfl hx rfl (fun c e => by cases e) (PySem.W.looks_mroIn X T.self_) (fun h1 hso keep => ?_)
  have X1 := X.keeps keep
  have hx1 := keep _ _ hx
  have I1 : PySem.W.InstAt h1 x (PySem.HandSPX.excO C t0) C none := ⟨hx1, rfl, rfl, trivial⟩
  refine PySem.W.kxs_getMethod PySem.W.kxs_ValueError hso (PySem.W.looks_opaque X1 T.any_) (l₀ := cd.mro) (fun A Q E s k q => wpAny_bind (PySem.W.looks_clsIn X1 hcd A _ E s k (wpAny_pure q))) rfl X1 along (I1.type.andThen (PySem.W.looks_subIn X1 T.ve)) ne (by decide) ?_
  have hu : (h1.push (PySem.W.kxs_mw veInit x)).get? h1.objs.size = some (PySem.W.kxs_mw veInit x) := by heap_get
  have k2 : ∀ b o, h1.get? b = some o → (h1.push (PySem.W.kxs_mw veInit x)).get? b = some o := fun b o e => Heap.get?_push_of_some _ e
  refine PySem.W.kxs_callWith (i := veInit) (x := x) rfl (evalArgs_plain (spliced_cons (@Constant_str _ _ _ _ _ _ j p3 _ (spliced_nil ⟨hu, ?_⟩))))
  have keep2 : ∀ b o, h.get? b = some o → (h1.push (PySem.W.kxs_mw veInit x)).get? b = some o := fun b o e => k2 b o (keep b o e)
  refine wrapCall (X.keeps keep2 _ _ hC) hu (keep2 _ _ hx) (by show 1 ≤ sizeLine; decide) fun h' t1 k3 hx' => ?_
  exact (go h' _ t1 (fun b o n e => k3 b o n (keep2 b o e)) hx')
end
end Er
set_option Elab.async false
set_option maxRecDepth 100000
set_option autoImplicit false
namespace Er
open PySem L2 PySem.Spec PyProof.Rows PySem.Calls
/-! ### such an __init__ as a def of the hand's layer -/
theorem lookup_mem {α : Type} {x : Str} {u : α} : ∀ {l : List (Str × α)}, (l.map (·.1)).Nodup → (x, u) ∈ l → l.lookup x = some u
  | [], _, h => absurd h List.not_mem_nil
  | (y, v) :: r, nd, h => by
    rw [List.map_cons, List.nodup_cons] at nd
    rcases List.mem_cons.mp h with e | h'
    · cases e
      simp [List.lookup]
    · have ne : x ≠ y := by
        rintro rfl
        exact nd.1 (List.mem_map.mpr ⟨(_, u), h', rfl⟩)
      have e : (x == y) = false := by simpa using ne
      simp only [List.lookup, e]
      exact lookup_mem nd.2 h'
theorem zip_rev {ps : List Str} {us : List Value} {i : Nat} {x : Str} {u : Value} (nd : ps.Nodup) (l : us.length = ps.length) (h1 : ps[i]? = some x) (h2 : us[i]? = some u) : (ps.zip us).reverse.lookup x = some u := by
  refine lookup_mem ?_ (List.mem_reverse.mpr ?_)
  · rw [List.map_reverse, List.map_fst_zip (by omega)]
    unfold List.Nodup
    rw [List.pairwise_reverse]
    exact nd.imp fun h => h.symm
  · refine List.mem_of_getElem? (i := i) ?_
    rw [List.getElem?_zip_eq_some]
    exact ⟨h1, h2⟩
def exX (P : Program) (w : World) (K : PySem.W.Frag) (mg : Str → Option Value) (base : Heap) (N : List Str) (qual : Str) (scope : Scope) (f cda cc : Addr) (A : Around) (outer : List Env) (s : Shared) (H : Hp) : Cx where
  prog := P
  w := w
  K := K
  mg := mg
  base := base
  A := A.deeper (PySem.W.ksEnv qual scope s.heap.objs.size f (.ref cda) cc)
  N := N
  s_0 := s
  H_0 := H
  env := PySem.W.ksEnv qual scope s.heap.objs.size f (.ref cda) cc
  outer := outer
  stack := PySem.W.ksEnv qual scope s.heap.objs.size f (.ref cda) cc :: outer
  ex := []
  calm := true
  fn := fun _ => false
  pn := []
  xe := fun _ _ => False
/-- the scope of such an __init__ -/
structure ErrS (ps : List Str) (scope : Scope) : Prop where
  kind : scope.kind = .function
  nd : ps.Nodup
  par : ∀ x ∈ ps, scope.names.lookup x = some .local
  nocell : ∀ x ∈ scope.names, x.2 ≠ .cell
  sup : scope.names.lookup ("super" : Str) = some .globalImplicit
  cls : scope.names.lookup ("__class__" : Str) = some .free
  free : ∀ x, scope.names.lookup x = some .free → x = "__class__"
  self_ : ps[0]? = some ("self" : Str)
  co : scope.isCoroutine = false
  gen : scope.isGenerator = false
section
variable {P : Program} {w : World} {K : PySem.W.Frag} {mg : Str → Option Value} {base : Heap}
theorem start_inv {ps : List Str} {qual : Str} {scope : Scope} {C f cda cc : Addr} {A : Around} {outer : List Env} {s : Shared} {H : Hp} {us : List Value} {vs : List V} {h0 : Heap} {tk : Nat} (S : ErrS ps scope) (T : ErrC P K C f cc cda) (hd : A.handled = none) (e0 : Env0 P w K mg base A outer s H)
    (hl : vs.length = ps.length) (r : Vals vs us) (hns : h0.Ns s.heap.objs.size (fun x => (ps.zip us).reverse.lookup x)) (keep : ∀ b o, s.heap.get? b = some o → h0.get? b = some o) :
    Inv (exX P w K mg base ps qual scope f cda cc A outer s H) [] (L2.start ps vs) H { s with heap := h0, toks := tk } := by
  obtain ⟨cl, cld, csl, hcell⟩ := T.cell
  have bc := e0.mod.kin _ _ hcell
  have one : ∀ {x : Str} {c : Addr}, ([(("__class__" : Str), cc)] : List (Str × Addr)).lookup x = some c → x = "__class__" ∧ c = cc := by
    intro x c e
    by_cases q : x = "__class__"
    · subst q
      have z : some cc = some c := e
      exact ⟨rfl, (Option.some.inj z).symm⟩
    · have q2 : (x == ("__class__" : Str)) = false := by simpa using q
      simp [List.lookup, q2] at e
  have noex : ∀ b : Addr, b ∉ (exX P w K mg base ps qual scope f cda cc A outer s H).ex := fun b z => absurd (show b ∈ ([] : List Addr) from z) (by simp)
  refine ⟨⟨e0.mod, S.kind, rfl, rfl, Nat.le_refl _, fun x y c h1 h2 => ?_, fun x hx => ?_, fun x c z _ => absurd (show false = true from z) Bool.false_ne_true, fun _ => hd, Around.frames_deeper e0.frames, .inr ⟨rfl, rfl⟩, fun b z => absurd z (noex b), e0.bs, e0.bsz, fun b _ _ => noex b, fun b z => absurd z (noex b), e0.funs, e0.frf⟩,
    rfl, e0.bare, Un.kept keep, ⟨_, hns, fun i x v h1 h2 h3 => ?_⟩, fun x c h => ?_, e0.hok.fresh (Nat.le_refl _), fun x c h => ?_, fun p hp => absurd (show p ∈ ([] : List (Addr × Obj)) from hp) (by simp), e0.hok.kept keep, ?_⟩
  · exact (one h1).1.trans (one h2).1.symm
  · have hx' : scope.names.lookup x = some .cell ∨ scope.names.lookup x = some .free := hx
    rcases hx' with z | z
    · exact absurd rfl (S.nocell _ (PySem.mem_of_lookup z))
    · refine ⟨cc, ?_⟩
      show ([(("__class__" : Str), cc)] : List (Str × Addr)).lookup x = some cc
      rw [S.free x z]
      rfl
  · have hi : i < vs.length := by
      have q := (List.getElem?_eq_some_iff.mp h1).1
      have q : i < ps.length := q
      omega
    have ha : vs[i]? = some v := by
      unfold L2.start at h2
      rw [List.getElem?_append_left (by simpa using hi), List.getElem?_map] at h2
      cases e : vs[i]? with
      | none => rw [e] at h2; cases h2
      | some a => rw [e] at h2; cases h2; rfl
    obtain ⟨u, hu, rv⟩ := r.get ha
    have hp : ps[i]? = some x := h1
    exact ⟨u, rv, .inl ⟨S.par x (List.mem_of_getElem? hp), zip_rev S.nd (r.length.symm.trans hl) hp hu⟩⟩
  · obtain ⟨_, rfl⟩ := one h
    exact ⟨_, _, keep _ _ (e0.bs _ _ bc).1, rfl⟩
  · obtain ⟨_, rfl⟩ := one h
    exact (e0.bs _ _ bc).2
  · unfold L2.start
    show _ = ps.length
    rw [List.length_append, List.length_map, List.length_replicate]
    omega
end
end Er
set_option Elab.async false
set_option maxRecDepth 100000
set_option autoImplicit false
namespace Er
open PySem L2 PySem.Spec PyProof.Rows PySem.Calls
section
variable {P : Program} {w : World} {K : PySem.W.Frag} {mg : Str → Option Value} {base : Heap}
theorem ok_err {ps : List Str} {name qual msg : Str} {params : Arguments} {body rest : List Stmt} {scope : Scope} {C f cda cc : Addr} {oc dV kV doc pm ct : Value} {od an : Option Addr} {osl : Array (Option Value)} {ar : Arg} {sp : Sp} {j : Nat} {p0 p1 p2 p3 p4 p5 : Pos} {pl : Sem Bool}
    (T : ErrC P K C f cc cda) (S : ErrS ps scope) (lk : K.lookup f = some ⟨oc, od, .func (PySem.W.ksFn name qual params body scope dV kV doc pm an (.ref cda) ct cc), osl⟩) (hcd : PySem.W.codeIn K (.ref cda) qual = true) (gs : mg "super" = none)
    (hp : (params.posonlyargs ++ params.args).head? = some ar) (har : ar.arg = "self") (hb : body = .Expr (.Call (.Attribute (.Call (.Name "super" p0) [] [] p1) "__init__" p2) [.Constant (.str msg) j p3] [] p4) p5 :: rest)
    (len : ∀ vs H Q E, sp vs H Q E → vs.length = ps.length) (first : ∀ vs H Q E, sp vs H Q E → ∃ a ws, vs = .ref a :: ws ∧ H a = some (exo a C none))
    (hbody : ∀ (A : Around) (outer : List Env) (s : Shared) (H : Hp) (vs : List V) (Q : VK) (E : XK), sp vs H Q E →
      ∃ t, PSs (exX P w K mg base ps qual scope f cda cc A outer s H) rest t ∧ t { nx := fun _ H' => Q .non H', rt := Q } (L2.start ps vs) H)
    (he : ∀ L, eval (.Call (.Attribute (.Call (.Name "super" p0) [] [] p1) "__init__" p2) [.Constant (.str msg) j p3] [] p4) (PySem.W.ksEnv qual scope L f (.ref cda) cc) = (do
        let ov ← attributeBase (.Call (.Name "super" p0) [] [] p1) "__init__" (PySem.W.ksEnv qual scope L f (.ref cda) cc) (eval (.Call (.Name "super" p0) [] [] p1) (PySem.W.ksEnv qual scope L f (.ref cda) cc))
        standAt p2.atName
        let (g, first) ← holding [ov] (getMethod ov "__init__" pl)
        callWith p4 g first (backTo p4 (starEach [.Constant (.str msg) j p3] (PySem.W.ksEnv qual scope L f (.ref cda) cc))) []))
    (hi : ∀ L, interactive (PySem.W.ksEnv qual scope L f (.ref cda) cc) = false) (hsw : ∀ L, swapsWith (.Call (.Attribute (.Call (.Name "super" p0) [] [] p1) "__init__" p2) [.Constant (.str msg) j p3] [] p4) none p5.line (PySem.W.ksEnv qual scope L f (.ref cda) cc) = pure false) :
    FnOk P w K mg base CX0 1 f (PySem.W.ksFn name qual params body scope dV kV doc pm an (.ref cda) ct cc) ps sp := by
  refine ⟨len, fun A outer s H args us vs Q E hr e0 hbind r hsp => ?_⟩
  obtain ⟨a, ws, ev, ea⟩ := first _ _ _ _ hsp
  have there : ∀ b o, base.get? b = some o → s.heap.get? b = some o := fun b o e => (e0.bs b o e).1
  have KX : K.In s.heap := e0.mod.kin.keeps there
  have hl := len _ _ _ _ hsp
  refine ks_codeAny_call_defAt hr.depth (KX _ _ lk) rfl (e0.mod.nolimit.keeps there) (PySem.W.codeRec_of KX hcd) rfl hbind S.nocell (fun x hx => S.par _ (List.of_mem_zip hx).1) (fun h0 hns keep => ?_) S.co S.gen S.kind
  have I0 := start_inv (w := w) (qual := qual) (tk := s.toks + (ps.zip us).length) S T hr.hd e0 hl r hns keep
  obtain ⟨t1, ho⟩ := exo_at I0.hok ea
  obtain ⟨t, ht, q⟩ := hbody A outer s H _ Q E hsp
  obtain ⟨mb, hmb, hbb⟩ := e0.mod.blt
  have old : ∀ b o, base.get? b = some o → h0.get? b = some o := fun b o e => keep b o (there b o e)
  have hs0 : (ps.zip us).reverse.lookup ar.arg = some (.ref a) := by
    rw [har]
    subst ev
    cases r with
    | cons r0 r1 =>
      obtain rfl : _ = Value.ref a := r0
      refine zip_rev (i := 0) S.nd ?_ S.self_ rfl
      rw [List.length_cons, ← r1.length]
      exact hl
  have hka : scope.names.lookup ar.arg = some .local := by
    rw [har]
    exact S.par _ (List.mem_of_getElem? S.self_)
  rw [hb]
  refine ks_wpAt_execs_cons ?_
  refine superLine T (e0.mod.kin.keeps old) lk hp S.sup S.cls hka S.kind hns hs0 ho (e0.mod.glob.keeps old) gs (hmb.keeps old) (hbb _ (by decide)) (fun h' tk t2 k3 hx => ?_) (he _) (hi _) (hsw _)
  have J := I0.write (t' := tk) (x := a) (e := a) (o := exo a C none) (by rw [ea]; exact True.intro) (.inl rfl) k3 ⟨_, hx⟩ (exo_ok hx)
  have eu : upd H a (exo a C none) = H := by
    funext b
    by_cases z : b = a
    · rw [z, upd_same, ea]
    · rw [upd_ne z]
  rw [eu] at J
  refine wpAt_of_wpAny (wpAny_mono (ht.run [] _ _ H _ J q) (fun fl s2 out => ?_) fun _ _ z => False.elim z)
  cases fl with
  | ret u => obtain ⟨v, _, H2, J2, rv, q2⟩ := out; exact ⟨v, H2, J2.os, J2.bare, J2.base, J2.hok, rv, q2⟩
  | next => obtain ⟨_, H2, J2, q2⟩ := out; exact ⟨V.non, H2, J2.os, J2.bare, J2.base, J2.hok, rfl, q2⟩
  | brk => obtain ⟨_, _, _, q2⟩ := out; exact q2.elim
  | cont => obtain ⟨_, _, _, q2⟩ := out; exact q2.elim
end
end Er
set_option Elab.async false
set_option maxRecDepth 100000
set_option autoImplicit false
namespace Er
open PySem L2 PySem.Spec PyProof.Rows PySem.Calls
/-- self.f = p behind the text -/
def spErr1 (C : Addr) (f : Str) : Sp := fun vs H Q _ => ∃ a v, vs = [.ref a, v] ∧ H a = some (exo a C none) ∧ ∀ dx, H dx = none → dx ≠ a → Q .non (upd (upd H dx (exd dx [(f, v)])) a (exo a C (some dx)))
def spErr2 (C : Addr) (f g : Str) : Sp := fun vs H Q _ => ∃ a v u, vs = [.ref a, v, u] ∧ H a = some (exo a C none) ∧ ∀ dx, H dx = none → dx ≠ a → Q .non (upd (upd (upd H dx (exd dx [(f, v)])) a (exo a C (some dx))) dx (exd dx [(g, u), (f, v)]))
section
variable {P : Program} {w : World} {K : PySem.W.Frag} {mg : Str → Option Value} {base : Heap}
theorem rest1 {p f qual : Str} {scope : Scope} {C fi cda cc : Addr} {q1 q2 q3 q4 : Pos} (S : ErrS ["self", p] scope) (O : OexC K C) (no : PySem.W.findIn K (.ref C) f = some none) (d1 : (p == ("__debug__" : Str)) = false) (d2 : (p == ("__classdict__" : Str)) = false)
    (A : Around) (outer : List Env) (s : Shared) (H : Hp) (vs : List V) (Q : VK) (E : XK) (h : spErr1 C f vs H Q E) :
    ∃ t, PSs (exX P w K mg base ["self", p] qual scope fi cda cc A outer s H) [.Assign [.Attribute (.Name "self" q1) f q2] (.Name p q3) q4] t ∧ t { nx := fun _ H' => Q .non H', rt := Q } (L2.start ["self", p] vs) H := by
  obtain ⟨a, v, rfl, ea, k⟩ := h
  refine ⟨_, pss_one (ps_ost (pe_var (i := 0) (x := "self") rfl (.inl (S.par _ (by simp)))) (pe_var (i := 1) (x := p) rfl (.inl (S.par _ (by simp))) d1 d2)), ?_⟩
  exact ⟨_, rfl, _, rfl, a, C, rfl, O, no, .inl ⟨ea, fun dx n ne => k dx n ne⟩⟩
theorem rest2 {p p' f g qual : Str} {scope : Scope} {C fi cda cc : Addr} {q1 q2 q3 q4 r1 r2 r3 r4 : Pos} (S : ErrS ["self", p, p'] scope) (O : OexC K C) (no : PySem.W.findIn K (.ref C) f = some none) (no' : PySem.W.findIn K (.ref C) g = some none) (d1 : (p == ("__debug__" : Str)) = false) (d2 : (p == ("__classdict__" : Str)) = false) (d3 : (p' == ("__debug__" : Str)) = false) (d4 : (p' == ("__classdict__" : Str)) = false)
    (A : Around) (outer : List Env) (s : Shared) (H : Hp) (vs : List V) (Q : VK) (E : XK) (h : spErr2 C f g vs H Q E) :
    ∃ t, PSs (exX P w K mg base ["self", p, p'] qual scope fi cda cc A outer s H) [.Assign [.Attribute (.Name "self" q1) f q2] (.Name p q3) q4, .Assign [.Attribute (.Name "self" r1) g r2] (.Name p' r3) r4] t ∧ t { nx := fun _ H' => Q .non H', rt := Q } (L2.start ["self", p, p'] vs) H := by
  obtain ⟨a, v, u, rfl, ea, k⟩ := h
  refine ⟨_, pss_cons (ps_ost (pe_var (i := 0) (x := "self") rfl (.inl (S.par _ (by simp)))) (pe_var (i := 1) (x := p) rfl (.inl (S.par _ (by simp))) d1 d2)) (pss_one (ps_ost (pe_var (i := 0) (x := "self") rfl (.inl (S.par _ (by simp)))) (pe_var (i := 2) (x := p') rfl (.inl (S.par _ (by simp))) d3 d4))), ?_⟩
  refine ⟨_, rfl, _, rfl, a, C, rfl, O, no, .inl ⟨ea, fun dx n ne => ?_⟩⟩
  refine ⟨_, rfl, _, rfl, a, C, rfl, O, no', .inr ⟨dx, _, upd_same, ?_, by show 1 ≤ 900; decide, k dx n ne⟩⟩
  rw [upd_ne ne, upd_same]
end

/-! ### raise C(e) -/
/-- the exception's own dict alone is left in sight -/
theorem left1 {H : Hp} {a d C : Addr} {fs gs : List (Str × V)} (na : H a = none) (o : Option Addr) : upd (del (upd (upd (upd H a (exo a C none)) d (exd d gs)) a (exo a C o)) a) d (.xd fs) = upd H d (.xd fs) := by
  funext b
  by_cases hd : b = d
  · rw [hd, upd_same, upd_same]
  rw [upd_ne hd, upd_ne hd]
  by_cases ha : b = a
  · rw [ha, del_same, na]
  · rw [del_ne ha, upd_ne ha, upd_ne hd, upd_ne ha]
def tRaise1 (C : Addr) (f : Str) (W : WX) (te : TE) : TS := fun _ σ H => te σ H fun v H1 => ∀ d, H1 d = none → W (.ref C) (some d) σ (upd H1 d (.xd [(f, v)]))
/-- a reading, closed upwards -/
def up (te : TE) : TE := fun σ H Q => ∃ R : V → Hp → Prop, te σ H R ∧ ∀ v H1, R v H1 → Q v H1
section
variable {X : Cx}
theorem pe_up {e : Expr} {te : TE} (he : PE X e te) : PE X e (up te) := ⟨fun pins s σ H Q I ⟨R, h, m⟩ => wpAny_mono (he.run pins s σ H R I h) (fun u s1 ⟨v, H1, I1, r, q⟩ => ⟨v, H1, I1, r, m v H1 q⟩) fun _ _ z => z⟩
theorem ps_raise1 {x f : Str} {C fi : Addr} {k : Nat} {fd : FuncData} {ps : List Str} {e : Expr} {te : TE} {W : WX} {p pos pos2 : Pos} (hc : X.calm = true) (tk : Takes X W) (O : OexC X.K C) (iC : PySem.W.findIn X.K (.ref C) "__init__" = some (some (.ref fi))) (tI : PySem.W.typeIn X.K (.ref fi) = some (.type "function"))
    (F : FnOk X.prog X.w X.K X.mg X.base CX0 k fi fd ps (spErr1 C f)) (hr : Room (k + 1) X.A) (hb : Binds X.K fd ps []) (hg : Gl X x) (hm : X.mg x = some (.ref C)) (he : PE X e te) (hdb : (x == ("__debug__" : Str)) = false := by decide)
    (hs : starEach [e] X.env = (false, eval e X.env) :: starEach [] X.env := by rfl) : PS X (.Raise (some (.Call (.Name x p) [e] [] pos)) none pos2) (tRaise1 C f W te) := by
  have R := ps_raise (pos := pos2) hc tk (pmk_oex (p := p) (pos := pos) O iC tI F hr hb .nil pass0 hg hm (pa_cons (pe_up he) pa_nil hs) hdb hs)
  refine ⟨fun pins s σ H D I h => R.run pins s σ H D I ?_⟩
  refine ⟨_, h, fun v H1 q => ⟨by show 1 ≤ 1000; decide, fun a na => ⟨a, v, rfl, upd_same, fun d nd ne => ⟨rfl, d, [(f, v)], upd_same, ?_, ?_, ?_⟩⟩⟩⟩
  · rw [upd_ne ne, upd_same]
  · rw [upd_ne ne] at nd; exact nd
  · rw [upd_ne ne] at nd
    rw [left1 na]
    exact q d nd
end
end Er
set_option Elab.async false
set_option maxRecDepth 100000
set_option autoImplicit false
/-! try: .. except G as n: y = n, and y is looked at behind it: the error stays in sight. -/
namespace Er
open PySem L2 PySem.Spec PyProof.Rows PySem.Calls
section
variable {X : Cx} {pins : List (Addr × Obj)} {σ : L2.St} {H : Hp} {s : Shared}
end
end Er
set_option Elab.async false
set_option maxRecDepth 100000
set_option autoImplicit false
namespace Er
open PySem L2 PySem.Spec PyProof.Rows PySem.Calls
section
variable {X : Cx} {x n y : Str} {c : Value} {i j : Nat} {body : List Stmt} {np yp np2 sp pos pos' : Pos} {tb : WX → TS} {Wout : WX}
end
end Er
set_option Elab.async false
set_option maxRecDepth 100000
set_option autoImplicit false
namespace Er
open PySem L2 PySem.Spec PyProof.Rows PySem.Calls
section
variable {X : Cx} {pins : List (Addr × Obj)} {σ : L2.St} {H : Hp} {s : Shared}
end
end Er
set_option Elab.async false
set_option maxRecDepth 100000
set_option autoImplicit false
/-! Rules: str(x) by an own __str__; x == y by an own __eq__, y anything; list(text); text * number; x is True. -/
namespace Ru
open PySem L2 PySem.Spec PyProof.Rows Rg
section
variable {prog : Program} {w : World} {A : Around} {E : Value → Shared → Prop} {s : Shared} {K : PySem.W.Frag} {x C f : Addr} {ox : Obj} {od : Option Obj}
end
section
variable {X : Cx} {CX : CXT} {k : Nat} {C f : Addr} {fd : FuncData} {ps : List Str} {sp : Sp} {E : XK} {pins : List (Addr × Obj)} {σ : L2.St} {H : Hp} {s : Shared}
end
end Ru
set_option Elab.async false
set_option maxRecDepth 100000
namespace Kx
open PySem L2 PySem.Spec PyProof.Rows Rg
def top (i : Nat) : Stmt := PySem.Challenge.pw_rowgames_k07_moves_in_order.main.body.getD i (.Pass ⟨0, 0, 0, 0⟩)
abbrev sPen : Stmt := top 41
abbrev sDraw : Stmt := top 42
abbrev sPick : Stmt := top 43

/-! ### heaps that grow, but for the pen -/
def Ext1 (p : Addr) (H H' : Hp) : Prop := ∀ b o, b ≠ p → H b = some o → H' b = some o
theorem Ext1.refl (p : Addr) (H : Hp) : Ext1 p H H := fun _ _ _ e => e
theorem Ext1.trans {p : Addr} {H H1 H2 : Hp} (a : Ext1 p H H1) (b : Ext1 p H1 H2) : Ext1 p H H2 := fun c o n e => b c o n (a c o n e)
theorem Ext1.new {p q : Addr} {H : Hp} {o : HO} (h : H q = none) : Ext1 p H (upd H q o) := fun b u _ e => by rw [upd_ne (ne_of_none e h)]; exact e
theorem Ext1.put {p : Addr} {H : Hp} {o : HO} : Ext1 p H (upd H p o) := fun b u n e => by rw [upd_ne n]; exact e

/-- at p the pen: at most n cells were taken -/
def PenAt (c : Addr) (n : Nat) (H : Hp) (p : Addr) : Prop := ∃ (ns : List Int) (a g : Int), H p = some (.lst [.ref c, .int a, .int g]) ∧ H c = some (.lst (ns.map V.int)) ∧ c ≠ p ∧ ns.length ≤ 63 ∧ 0 ≤ a ∧ a ≤ n
theorem PenAt.mono {c : Addr} {n m : Nat} {H : Hp} {p : Addr} (h : PenAt c n H p) (l : n ≤ m) : PenAt c m H p := by
  obtain ⟨ns, a, g, h1, h2, h3, h4, h5, h6⟩ := h
  exact ⟨ns, a, g, h1, h2, h3, h4, h5, by omega⟩
theorem PenAt.ext {c : Addr} {n : Nat} {H H' : Hp} {p : Addr} (h : PenAt c n H p) (e : ∀ b o, H b = some o → H' b = some o) : PenAt c n H' p := by
  obtain ⟨ns, a, g, h1, h2, h3⟩ := h
  exact ⟨ns, a, g, e _ _ h1, e _ _ h2, h3⟩
theorem PenAt.new {c : Addr} {n : Nat} {H : Hp} {p q : Addr} {o : HO} (h : PenAt c n H p) (f : H q = none) : PenAt c n (upd H q o) p := h.ext fun b u e => by rw [upd_ne (ne_of_none e f)]; exact e

/-! ### what the built-in names are -/
structure Txt (mg : Str → Option Value) : Prop where
  len : mg "len" = none
  int : mg "int" = none
  abs : mg "abs" = none
  list : mg "list" = none
  tuple : mg "tuple" = none
  range : mg "range" = none
  repr : mg "repr" = none
  isi : mg "isinstance" = none
  all : mg "all" = none
  set : mg "set" = none

/-! ### _law_draw -/
def spDraw : Sp := fun vs H Q _ => ∃ (c p : Addr) (m : Int) (n : Nat), vs = [.ref p, .int m] ∧ 0 < m ∧ m < 1000000 ∧ n ≤ 1000000 ∧ PenAt c n H p ∧ ∀ r H', 0 ≤ r → r < m → PenAt c (n + 1) H' p → Ext1 p H H' → Q (.int r) H'

theorem dpInts (K : PySem.W.Frag) (H : Hp) : ∀ ns : List Int, DpAll K H (ns.map V.int) (ns.map PyData.int)
  | [] => .nil
  | n :: r => .cons (.int n) (dpInts K H r)
theorem layInts : ∀ ns : List Int, PyData.canLayAll0 (ns.map PyData.int) = true
  | [] => rfl
  | _ :: r => layInts r
theorem depthInts : ∀ ns : List Int, PyData.depthAll (ns.map PyData.int) = 0
  | [] => rfl
  | _ :: r => by
    show max 0 (PyData.depthAll (r.map PyData.int)) = 0
    rw [depthInts r] <;> rfl
theorem shapedInts (ns : List Int) : SeqAt.shaped (.list (ns.map PyData.int)) = true := by
  show (PyData.canLayAll0 (ns.map PyData.int) && decide (PyData.depthAll (ns.map PyData.int) + 1 ≤ 64)) = true
  rw [layInts, depthInts] <;> rfl
theorem mixed1 {z a c d n : Int} (n0 : 0 < n) (nb : n < 2 ^ 32) (c0 : 0 ≤ c) (cb : c ≤ 100000) (d0 : 0 ≤ d) (db : d ≤ 100000) (a0 : 0 ≤ a) (ab : a ≤ 1000000) : (z % n + c * a + d).natAbs < 2 ^ 64 := by
  have h1 := Int.emod_nonneg z (b := n) (by omega)
  have h2 := Int.emod_lt_of_pos z n0
  have h3 : c * a ≤ 100000 * 1000000 := Int.mul_le_mul cb ab a0 (by omega)
  have h4 : 0 ≤ c * a := Int.mul_nonneg c0 a0
  omega
theorem mixed2 {x a b c d n : Int} (x0 : 0 ≤ x) (xb : x < n) (nb : n < 2 ^ 32) (b0 : 0 ≤ b) (bb : b ≤ 100000) (c0 : 0 ≤ c) (cb : c ≤ 100000) (d0 : 0 ≤ d) (db : d ≤ 100000) (a0 : 0 ≤ a) (ab : a ≤ 1000000) : (x * (2 * a + b) + c * a * a + d).natAbs < 2 ^ 64 := by
  have h1 : x * (2 * a + b) ≤ 2 ^ 32 * 2100000 := Int.mul_le_mul (by omega) (by omega) (by omega) (by omega)
  have h2 : 0 ≤ x * (2 * a + b) := Int.mul_nonneg x0 (by omega)
  have h3 : c * a ≤ 100000 * 1000000 := Int.mul_le_mul cb ab a0 (by omega)
  have h4 : 0 ≤ c * a := Int.mul_nonneg c0 a0
  have h5 : c * a * a ≤ 100000 * 1000000 * 1000000 := Int.mul_le_mul h3 ab a0 (by omega)
  have h6 : 0 ≤ c * a * a := Int.mul_nonneg h4 a0
  omega
theorem atMod {ns : List Int} (a : Int) (pos : 0 < ns.length) : ∃ z, atI (ns.map V.int) (a % (ns.length : Int)) = some (.int z) := by
  have h1 := Int.emod_nonneg a (b := (ns.length : Int)) (by omega)
  have h2 := Int.emod_lt_of_pos a (b := (ns.length : Int)) (by omega)
  generalize a % (ns.length : Int) = j at h1 h2
  have hj : j.toNat < ns.length := by omega
  refine ⟨ns[j.toNat], ?_⟩
  have e : (j.toNat : Int) = j := by omega
  have q : atI (ns.map V.int) ((j.toNat : Nat) : Int) = some (.int ns[j.toNat]) := atI_nat (by simp [hj])
  rw [e] at q
  exact q
theorem eqv_nil (ns : List Int) : PyData.eqv (.list (ns.map PyData.int)) (.list []) = ns.isEmpty := by
  cases ns with
  | nil => rfl
  | cons a t => rfl
section
variable {P : Program} {w : World} {K : PySem.W.Frag} {mg : Str → Option Value} {base : Heap}
theorem scDraw : FnScope ["_law_pen_here", "_law_many", "_law_digit", "_law_taken", "_law_cell", "_law_great", "_law_mixed"] ["_law_pen_here", "_law_many"] (defScope sDraw) := ⟨rfl, rfl, rfl, by decide +kernel, rfl, by decide +kernel, by decide +kernel⟩
theorem bLen {X : Cx} {e : Expr} {te : TE} {p pos : Pos} (hg : Gl X "len") (m : X.mg "len" = none) (he : PE X e te) (na : starEach [e] X.env = (false, eval e X.env) :: starEach [] X.env := by rfl) : PE X (.Call (.Name "len" p) [e] [] pos) (tCB (fun xs H Q => ∃ x n, xs = [x] ∧ LenV X.K x H n ∧ Q (.int n) H) (tCons te tNil)) := pe_callB call_len hg m PySem.boot_len (pa_cons he pa_nil na) (he := na)
theorem bInt {X : Cx} {e : Expr} {te : TE} {p pos : Pos} (hg : Gl X "int") (m : X.mg "int" = none) (he : PE X e te) (na : starEach [e] X.env = (false, eval e X.env) :: starEach [] X.env := by rfl) : PE X (.Call (.Name "int" p) [e] [] pos) (tCB (fun xs H Q => (∃ i, xs = [.int i] ∧ Q (.int i) H) ∨ ∃ k, xs = [.bl k] ∧ Q (.int (if k then 1 else 0)) H) (tCons te tNil)) :=
  pe_callTy call_int1 hg m (by decide +kernel) (pa_cons he pa_nil na) (he := na)
theorem bAbs {X : Cx} {e : Expr} {te : TE} {p pos : Pos} (hg : Gl X "abs") (m : X.mg "abs" = none) (he : PE X e te) (na : starEach [e] X.env = (false, eval e X.env) :: starEach [] X.env := by rfl) : PE X (.Call (.Name "abs" p) [e] [] pos) (tCB (fun xs H Q => ∃ i, xs = [.int i] ∧ Q (.int (if i < 0 then -i else i)) H) (tCons te tNil)) :=
  pe_callB call_abs hg m (by decide +kernel) (pa_cons he pa_nil na) (he := na)
theorem bIx {X : Cx} {a b : Expr} {ta tb : TE} {pos : Pos} (ha : PE X a ta) (hb : PE X b tb) (hs : PlainIx b := by intro _ _; rfl) : PE X (.Subscript a b pos) (tOp (rIxL X.K) ta tb) := pe_ix ix_list ha hb hs
theorem ok_draw {f : Addr} {fd : FuncData} (F : Fun K "_law_draw" "_law_draw" sDraw f fd) (T : Txt mg) : FnOk P w K mg base CX0 1 f fd ["_law_pen_here", "_law_many"] spDraw := by
  refine F.ok scDraw (fun vs H Q E h => ?_) (fun cdv A outer s H vs Q E hr h => ?_)
  · obtain ⟨c, p, m, n, rfl, _⟩ := h
    rfl
  · obtain ⟨c, p, m, n, rfl, m0, mb, nb, pen, k⟩ := h
    have nd := scDraw.nd
    refine ⟨_, pss_cons (ps_if (pt_cmpR op_gt (bIx (pv 0) pe_int) pe_int (nomark _))
        (pss_cons (ps_set (i := 2) nd rfl (.inl rfl) (pe_op op_mod (bInt (by rfl) T.int (bIx (pv 0) pe_int)) (pv 1)))
          (pss_cons (ps_asg (pe_op op_fdivN (bInt (by rfl) T.int (bIx (pv 0) pe_int)) (pv 1)) (pg_sub (pv 0) pe_int set_list)) (pss_one (ps_ret (pv 2))))) pss_nil)
      (pss_cons (ps_set (i := 3) nd rfl (.inl rfl) (bIx (pv 0) pe_int))
      (pss_cons (ps_asg (pe_op op_add (pv 3) pe_int) (pg_sub (pv 0) pe_int set_list))
      (pss_cons (ps_set (i := 4) nd rfl (.inl rfl) (pe_op op_add (pe_op op_mul pe_int (pv 3)) pe_int))
      (C8.pss_cut (ps_if (pt_cmpR (op_neD hr.units) (bIx (pv 0) pe_int) (pe_lst pa_nil) (nomark _))
        (pss_one (ps_set (i := 4) nd rfl (.inl rfl) (bIx (bIx (pv 0) pe_int) (pe_op op_mod (bInt (by rfl) T.int (pv 3)) (bLen (by rfl) T.len (bIx (pv 0) pe_int)))))) pss_nil)
      (C8.pss_cut (ps_if (PW.pt (pw_and (pt_cmpR op_lt (pv 3) (bLen (by rfl) T.len (bIx (pv 0) pe_int)) (nomark _)) (pw_and1 (pt_cmpR op_ge (bAbs (by rfl) T.abs (pv 4)) (pe_op op_pow pe_int pe_int) (nomark _)))))
        (pss_cons (ps_set (i := 5) nd rfl (.inl rfl) (pe_op op_add (pe_op op_mul pe_int (pe_op op_sub (bAbs (by rfl) T.abs (pv 4)) (pe_op op_pow pe_int pe_int))) (bInt (by rfl) T.int (pe_cmpR op_lt (pv 4) pe_int (nomark _)))))
          (pss_cons (ps_asg (pe_op op_fdivN (bInt (by rfl) T.int (pv 5)) (pv 1)) (pg_sub (pv 0) pe_int set_list)) (pss_one (ps_ret (pe_op op_mod (bInt (by rfl) T.int (pv 5)) (pv 1)))))) pss_nil)
      (pss_cons (ps_set (i := 6) nd rfl (.inl rfl) (pe_op op_mod (bInt (by rfl) T.int (pe_op op_pow (pe_op op_add (pe_op op_add (pe_op op_mod (bInt (by rfl) T.int (pv 4)) pe_int) (pe_op op_mul pe_int (pv 3))) pe_int) pe_int)) pe_int))
      (pss_cons (ps_set (i := 6) nd rfl (.inl rfl) (pe_op op_mod (bInt (by rfl) T.int (pe_op op_pow (pe_op op_add (pe_op op_add (pe_op op_mul (pv 6) (pe_op op_add (pe_op op_mul pe_int (pv 3)) pe_int)) (pe_op op_mul (pe_op op_mul pe_int (pv 3)) (pv 3))) pe_int) pe_int)) pe_int))
      (pss_one (ps_ret (pe_op op_mod (pe_op op_fdivN (bInt (by rfl) T.int (pv 6)) pe_int) (pv 1))))))))))), ?_⟩
    obtain ⟨ns, a, g, hp, hc, cp, hl, a0, an⟩ := pen
    have md : ∀ x : Int, 0 ≤ x % m ∧ x % m < m := fun x => ⟨Int.emod_nonneg x (by omega), Int.emod_lt_of_pos x m0⟩
    have ms : m ≠ 0 ∧ m.natAbs < 1073741824 := ⟨by omega, by omega⟩
    refine ⟨_, rfl, p, _, 2, _, rfl, rfl, SqL.of hp, rfl, g, 0, rfl, rfl, _, rfl, ite2 (fun hg => ?_) (fun hg => ?_)⟩
    · refine ⟨_, rfl, p, _, 2, _, rfl, rfl, SqL.of hp, rfl, .inl ⟨_, rfl, _, rfl, _, _, rfl, rfl, m0, ?_⟩⟩
      refine ⟨_, rfl, p, _, 2, _, rfl, rfl, SqL.of hp, rfl, .inl ⟨_, rfl, _, rfl, _, _, rfl, rfl, ms, ?_⟩⟩
      refine ⟨_, rfl, p, _, 2, 2, rfl, rfl, hp, rfl, ?_⟩
      refine ⟨_, rfl, k _ _ (md g).1 (md g).2 ⟨ns, a, _, upd_same, ?_, cp, hl, a0, by omega⟩ Ext1.put⟩
      rw [upd_ne cp]; exact hc
    refine ⟨_, rfl, p, _, 1, _, rfl, rfl, SqL.of hp, rfl, ?_⟩
    refine ⟨_, rfl, _, _, rfl, rfl, ?_⟩
    refine ⟨_, rfl, p, _, 1, 1, rfl, rfl, hp, rfl, ?_⟩
    have mul64 : ∀ {x y : Int}, -(2 ^ 64) < x → x < 2 ^ 64 → CMul x y := fun h1 h2 => Or.inl ⟨h1, h2⟩
    generalize hH1 : upd H p (HO.lst ([V.ref c, V.int a, V.int g].set 1 (V.int (a + 1)))) = H1
    have hp1 : H1 p = some (.lst [.ref c, .int (a + 1), .int g]) := by rw [← hH1]; exact upd_same
    have hc1 : H1 c = some (.lst (ns.map V.int)) := by rw [← hH1, upd_ne cp]; exact hc
    have x1 : Ext1 p H H1 := by rw [← hH1]; exact Ext1.put
    refine ⟨_, rfl, _, _, rfl, rfl, mul64 (by decide) (by decide), _, _, rfl, rfl, ?_⟩
    refine ⟨fun σ' H' => ∃ (z : Int) (q : Addr), σ' = [some (.ref p), some (.int m), none, some (.int a), some (.int z), none, none] ∧ H1 q = none ∧ H' = upd H1 q (.lst []), ?_, ?_⟩
    · refine ⟨_, rfl, p, _, 0, _, rfl, rfl, SqL.of hp1, rfl, Nat.zero_le _, fun q hq => ?_⟩
      have cq : c ≠ q := ne_of_none hc1 hq
      have pq : p ≠ q := ne_of_none hp1 hq
      have hc2 : (upd H1 q (.lst [])) c = some (.lst (ns.map V.int)) := by rw [upd_ne cq]; exact hc1
      have hp2 : (upd H1 q (.lst [])) p = some (.lst [.ref c, .int (a + 1), .int g]) := by rw [upd_ne pq]; exact hp1
      refine ⟨.list (ns.map PyData.int), .list [], .lst (SqL.of hc2) (dpInts _ _ ns), .lst (SqL.of upd_same) .nil, shapedInts ns, rfl, _, rfl, ?_⟩
      rw [eqv_nil]
      refine ite2 (fun hne => ?_) (fun _ => ⟨_, q, rfl, hq, rfl⟩)
      have pos : 0 < ns.length := by
        cases ns with
        | nil => exact absurd hne (by decide)
        | cons _ _ => exact Nat.succ_pos _
      obtain ⟨z, hz⟩ := atMod a pos
      refine ⟨_, rfl, p, _, 0, _, rfl, rfl, SqL.of hp2, rfl, _, rfl, .inl ⟨_, rfl, _, rfl, p, _, 0, _, rfl, rfl, SqL.of hp2, rfl, _, _, rfl, .inl ⟨_, SqL.of hc2, rfl⟩, ?_⟩⟩
      refine ⟨_, _, rfl, rfl, by rw [List.length_map]; omega, c, _, _, .int z, rfl, rfl, SqL.of hc2, ?_, z, q, rfl, hq, rfl⟩
      rw [List.length_map]; exact hz
    rintro σ2 H2 ⟨z, q, rfl, hq, rfl⟩
    have cq : c ≠ q := ne_of_none hc1 hq
    have pq : p ≠ q := ne_of_none hp1 hq
    have hc2 : (upd H1 q (.lst [])) c = some (.lst (ns.map V.int)) := by rw [upd_ne cq]; exact hc1
    have hp2 : (upd H1 q (.lst [])) p = some (.lst [.ref c, .int (a + 1), .int g]) := by rw [upd_ne pq]; exact hp1
    have x2 : Ext1 p H (upd H1 q (.lst [])) := x1.trans (Ext1.new hq)
    generalize upd H1 q (.lst []) = H2 at hc2 hp2 x2 ⊢
    have done : ∀ r, 0 ≤ r → r < m → Q (.int r) H2 := fun r r0 r1 => k r H2 r0 r1 ⟨ns, a + 1, g, hp2, hc2, cp, hl, by omega, by omega⟩ x2
    have fin : ∀ y : Int, Q (.int (y % m)) H2 := fun y => done _ (md y).1 (md y).2
    have a1 : a ≤ 1000000 := by omega
    refine ⟨fun σ' H' => σ' = [some (.ref p), some (.int m), none, some (.int a), some (.int z), none, none] ∧ H' = H2, ?_, ?_⟩
    · refine ⟨_, rfl, _, rfl, p, _, 0, _, rfl, rfl, SqL.of hp2, rfl, _, _, rfl, .inl ⟨_, SqL.of hc2, rfl⟩, _, _, rfl, rfl, _, rfl, ite2 (fun _ => ?_) (fun _ => iteF ⟨rfl, rfl⟩)⟩
      refine ⟨_, rfl, z, rfl, _, _, rfl, rfl, ⟨by decide, by decide, by decide⟩, _, _, rfl, rfl, _, rfl, ite2 (fun _ => ?_) (fun _ => ⟨rfl, rfl⟩)⟩
      refine ⟨_, rfl, z, rfl, _, _, rfl, rfl, ⟨by decide, by decide, by decide⟩, _, _, rfl, rfl, _, _, rfl, rfl, mul64 (by decide) (by decide), _, rfl, _, _, rfl, rfl, .inr ⟨_, rfl, _, _, rfl, rfl, ?_⟩⟩
      refine ⟨_, rfl, .inl ⟨_, rfl, _, rfl, _, _, rfl, rfl, ms, _, rfl, p, _, 2, 2, rfl, rfl, hp2, rfl, ?_⟩⟩
      refine ⟨_, rfl, .inl ⟨_, rfl, _, rfl, _, _, rfl, rfl, m0, ?_⟩⟩
      refine k _ _ (md _).1 (md _).2 ⟨ns, a + 1, _, upd_same, ?_, cp, hl, by omega, by omega⟩ (x2.trans Ext1.put)
      rw [upd_ne cp]; exact hc2
    rintro σ3 H3 ⟨rfl, rfl⟩
    refine ⟨_, rfl, .inl ⟨_, rfl, _, _, rfl, rfl, (show (0 : Int) < 2147483629 by decide), _, rfl, _, _, rfl, rfl, mul64 (by decide) (by decide), _, _, rfl, rfl, _, _, rfl, rfl, _, _, rfl, rfl, ⟨by decide, by decide, mixed1 (by decide) (by decide) (by decide) (by decide) (by decide) (by decide) a0 a1⟩, .inl ⟨_, rfl, _, _, rfl, rfl, (show (0 : Int) < 2147483587 by decide), ?_⟩⟩⟩
    have xx : ∀ y : Int, 0 ≤ y % 2147483587 ∧ y % 2147483587 < 2147483587 := fun y => ⟨Int.emod_nonneg _ (by decide), Int.emod_lt_of_pos _ (by decide)⟩
    refine ⟨_, rfl, _, rfl, _, _, rfl, rfl, mul64 (by decide) (by decide), _, _, rfl, rfl, _, _, rfl, rfl, mul64 (Int.lt_of_lt_of_le (by decide) (xx _).1) (Int.lt_trans (xx _).2 (by decide)), _, rfl, _, _, rfl, rfl, mul64 (by decide) (by decide), _, rfl, _, _, rfl, rfl, Or.inr ⟨by omega, by omega⟩, _, _, rfl, rfl, _, _, rfl, rfl, _, _, rfl, rfl,
      ⟨by decide, by decide, mixed2 (xx _).1 (xx _).2 (by decide) (by decide) (by decide) (by decide) (by decide) (by decide) (by decide) a0 a1⟩, .inl ⟨_, rfl, _, _, rfl, rfl, (show (0 : Int) < 2147483647 by decide), ?_⟩⟩
    exact ⟨_, rfl, .inl ⟨_, rfl, _, _, rfl, rfl, ⟨by decide, by decide⟩, _, rfl, _, _, rfl, rfl, m0, fin _⟩⟩
end
end Kx




set_option Elab.async false
set_option maxRecDepth 100000
set_option autoImplicit false
namespace Kx
open PySem L2 PySem.Spec PyProof.Rows Rg Er
def abc : Str := "abcdefghijklmnopqrstuvwxyz"
theorem len_small {z : Str} (h : z.length ≤ 1000) : z.length ≤ sizeLine := Nat.le_trans h (by decide)
theorem bIsi {X : Cx} {e c : Expr} {te tc : TE} {p pos : Pos} (hg : Gl X "isinstance") (m : X.mg "isinstance" = none) (he : PE X e te) (hc : PE X c tc) (na : starEach [e, c] X.env = (false, eval e X.env) :: starEach [c] X.env := by rfl)
    (nb : starEach [c] X.env = (false, eval c X.env) :: starEach [] X.env := by rfl) (hpl : (backTo pos (starEach [c] X.env)).any (·.1) = false := by rfl) : PE X (.Call (.Name "isinstance" p) [e, c] [] pos) (tCB (rIsi X.K) (tCons te (tCons tc tNil))) :=
  pe_callB call_isi hg m boot_isinstance (pa_cons he (pa_cons hc pa_nil nb) na) (he := na) (hpl := hpl)
/-- a list or a tuple -/
def Sq (H : Hp) (a : Addr) (xs : List V) : Prop := H a = some (.lst xs) ∨ H a = some (.tup xs)
theorem Sq.same {H H' : Hp} {a : Addr} {xs : List V} (h : Sq H a xs) (e : Same H H') : Sq H' a xs := h.elim (fun q => .inl (e _ _ q)) fun q => .inr (e _ _ q)
theorem Sq.len {K : PySem.W.Frag} {H : Hp} {a : Addr} {xs : List V} (h : Sq H a xs) : LenV K (.ref a) H xs.length := h.elim (fun q => .inl ⟨_, SqL.of q, rfl⟩) fun q => .inr ⟨_, SqT.of q, rfl⟩
theorem Same.new {H : Hp} {q : Addr} {o : HO} (h : H q = none) : Same H (upd H q o) := fun b u e => by rw [upd_ne (ne_of_none e h)]; exact e
theorem Same.putNew {H H' : Hp} {q : Addr} {o : HO} (h : H q = none) (e : Same H H') : Same H (upd H' q o) := fun b u z => by rw [upd_ne (ne_of_none z h)]; exact e _ _ z
theorem wipe1 (σ : L2.St) (v : Nat) (x : V) : wipe ((wipe σ [v]).set v (some x)) [v] = wipe σ [v] := by
  show ((σ.set v none).set v (some x)).set v none = σ.set v none
  rw [List.set_set, List.set_set]
/-- a comprehension whose elements are told by the turn, over a heap that only grows -/
theorem lcMap {J : It} {n : Nat} {G : Hp → Prop} {Y : Nat → Hp → V → Hp → Prop} (w : Walk J n G Y) {v : Nat} {te : TE} {σ : L2.St} {H1 : Hp} {D : Addr} {Qd : Hp → Prop} (f : Nat → V) (hn : n < sizeLine) (hD : H1 D = none) (hG : ∀ H', Same H1 H' → G H')
    (hY : ∀ i H' x H2, Y i H' x H2 → H2 = H')
    (el : ∀ i x H' (Q : VK), i < n → Same H1 H' → Y i H' x H' → (∀ H4, Same H' H4 → Q (f i) H4) → te ((wipe σ [v]).set v (some x)) H' Q)
    (hd : ∀ H', Same H1 H' → H' D = some (.lst ((List.range n).map f)) → Qd H') :
    ∃ W : Nat → Nat → Hp → Prop, (∃ m, W 0 m (upd H1 D (.lst []))) ∧ ∀ i m H, W i m H →
      (J.stop i H ∧ Qd H) ∨ (J.go i H ∧ ∃ Nx : Hp → Prop, (∀ H', Nx H' → ∃ m', m' < m ∧ W (i + 1) m' H') ∧ ∀ x H', J.yld i H x H' → gName v x (wipe σ [v]) H' fun σ2 H2 => wipe σ2 [v] = wipe σ [v] ∧ tYes σ2 H2 fun b H3 =>
        if b = true then te σ2 H3 fun y H4 => ∃ acc, H4 D = some (.lst acc) ∧ acc.length < sizeLine ∧ Nx (upd H4 D (.lst (acc ++ [y]))) else Nx H3) := by
  refine lc_it w (fun i H' => Same H1 H' ∧ H' D = some (.lst ((List.range i).map f))) ⟨Same.new hD, upd_same⟩ (fun i H' _ q => hG H' q.1) ?_ fun H' q => hd H' q.1 q.2
  rintro i x H' H2 hi ⟨s1, hl⟩ y
  obtain rfl := hY _ _ _ _ y
  refine ⟨wipe1 σ v x, ?_⟩
  unfold tYes
  dsimp only
  rw [if_pos rfl]
  refine el i x H2 _ hi s1 y fun H4 s4 => ⟨_, s4 _ _ hl, ?_, Same.putNew hD (s1.trans s4), ?_⟩
  · rw [List.length_map, List.length_range]; omega
  rw [upd_same, List.range_succ, List.map_append]
  rfl
/-- a comprehension over any walk, by an invariant of turn, heap and what is made so far -/
theorem lcGen {J : It} {n : Nat} {G : Hp → Prop} {Y : Nat → Hp → V → Hp → Prop} (w : Walk J n G Y) {v : Nat} {te : TE} {σ : L2.St} {H1 : Hp} {D : Addr} {Qd : Hp → Prop} (Iv : Nat → Hp → List V → Prop) (hn : n < sizeLine)
    (h0 : Iv 0 (upd H1 D (.lst [])) []) (hG : ∀ i H' acc, i ≤ n → Iv i H' acc → G H') (hY : ∀ i H' x H2, Y i H' x H2 → H2 = H')
    (el : ∀ i x H' acc (Q : VK), i < n → H' D = some (.lst acc) → acc.length = i → Iv i H' acc → Y i H' x H' → (∀ y H4, H4 D = some (.lst acc) → Iv (i + 1) (upd H4 D (.lst (acc ++ [y]))) (acc ++ [y]) → Q y H4) → te ((wipe σ [v]).set v (some x)) H' Q)
    (hd : ∀ H' acc, H' D = some (.lst acc) → acc.length = n → Iv n H' acc → Qd H') :
    ∃ W : Nat → Nat → Hp → Prop, (∃ m, W 0 m (upd H1 D (.lst []))) ∧ ∀ i m H, W i m H →
      (J.stop i H ∧ Qd H) ∨ (J.go i H ∧ ∃ Nx : Hp → Prop, (∀ H', Nx H' → ∃ m', m' < m ∧ W (i + 1) m' H') ∧ ∀ x H', J.yld i H x H' → gName v x (wipe σ [v]) H' fun σ2 H2 => wipe σ2 [v] = wipe σ [v] ∧ tYes σ2 H2 fun b H3 =>
        if b = true then te σ2 H3 fun y H4 => ∃ acc, H4 D = some (.lst acc) ∧ acc.length < sizeLine ∧ Nx (upd H4 D (.lst (acc ++ [y]))) else Nx H3) := by
  refine lc_it w (fun i H' => ∃ acc, H' D = some (.lst acc) ∧ acc.length = i ∧ Iv i H' acc) ⟨[], upd_same, rfl, h0⟩ (fun i H' hi ⟨acc, _, _, q⟩ => hG i H' acc hi q) ?_ fun H' ⟨acc, q1, q2, q3⟩ => hd H' acc q1 q2 q3
  rintro i x H' H2 hi ⟨acc, ha, hl, iv⟩ y
  obtain rfl := hY _ _ _ _ y
  refine ⟨wipe1 σ v x, ?_⟩
  unfold tYes
  dsimp only
  rw [if_pos rfl]
  refine el i x H2 acc _ hi ha hl iv y fun y H4 h4 i4 => ⟨acc, h4, by omega, _, upd_same, ?_, i4⟩
  rw [List.length_append, hl]
  rfl
theorem Same.ext1 {H H' : Hp} (p : Addr) (e : Same H H') : Ext1 p H H' := fun b o _ q => e b o q
/-! the pen -/
def Ink (c p : Addr) (n : Nat) (H H' : Hp) : Prop := Ext1 p H H' ∧ PenAt c n H' p
theorem PenAt.ne1 {c p q : Addr} {n : Nat} {H : Hp} (h : PenAt c n H p) (e : H q = none) : q ≠ p := by
  rintro rfl
  obtain ⟨ns, a, g, h1, _⟩ := h
  rw [h1] at e; cases e
theorem PenAt.ne2 {c p q : Addr} {n : Nat} {H : Hp} (h : PenAt c n H p) (e : H q = none) : q ≠ c := by
  rintro rfl
  obtain ⟨ns, a, g, _, h2, _⟩ := h
  rw [h2] at e; cases e
theorem PenAt.put {c p q : Addr} {n : Nat} {H : Hp} {o : HO} (h : PenAt c n H p) (n1 : q ≠ p) (n2 : q ≠ c) : PenAt c n (upd H q o) p := by
  obtain ⟨ns, a, g, h1, h2, h3⟩ := h
  exact ⟨ns, a, g, by rw [upd_ne n1.symm]; exact h1, by rw [upd_ne n2.symm]; exact h2, h3⟩
theorem Ink.start {c p : Addr} {n : Nat} {H : Hp} (h : PenAt c n H p) : Ink c p n H H := ⟨Ext1.refl p H, h⟩
theorem Ink.trans {c p : Addr} {n m : Nat} {H H1 H2 : Hp} (a : Ink c p n H H1) (b : Ink c p m H1 H2) : Ink c p m H H2 := ⟨Ext1.trans a.1 b.1, b.2⟩
theorem Ink.same {c p : Addr} {n : Nat} {H H1 H2 : Hp} (a : Ink c p n H H1) (b : Same H1 H2) : Ink c p n H H2 := ⟨Ext1.trans a.1 (Same.ext1 p b), a.2.ext b⟩
theorem Ink.new {c p q : Addr} {n : Nat} {H H1 : Hp} {o : HO} (a : Ink c p n H H1) (e : H1 q = none) : Ink c p n H (upd H1 q o) := a.same (Same.new e)
theorem Ink.mono {c p : Addr} {n m : Nat} {H H1 : Hp} (a : Ink c p n H H1) (l : n ≤ m) : Ink c p m H H1 := ⟨a.1, a.2.mono l⟩
/-- what is new to H may change: H grows all the same -/
theorem Ext1.putNew {p q : Addr} {H H1 : Hp} {o : HO} (a : Ext1 p H H1) (e : H q = none) : Ext1 p H (upd H1 q o) := fun b u n z => by rw [upd_ne (ne_of_none z e)]; exact a b u n z
theorem Ink.putNew {c p q : Addr} {n k : Nat} {H H1 : Hp} {o : HO} (a : Ink c p n H H1) (s : PenAt c k H p) (e : H q = none) : Ink c p n H (upd H1 q o) := ⟨a.1.putNew e, a.2.put (s.ne1 e) (s.ne2 e)⟩
def spPen (K : PySem.W.Frag) : Sp := fun vs H Q _ => ∃ (a : Addr) (ns : List Int), vs = [.ref a] ∧ SqL K H a (ns.map V.int) ∧ ns.length ≤ 63 ∧ ∀ c p H', Same H H' → PenAt c 0 H' p → Q (.ref p) H'
theorem bList {X : Cx} {e : Expr} {te : TE} {p pos : Pos} (hg : Gl X "list") (m : X.mg "list" = none) (he : PE X e te) (na : starEach [e] X.env = (false, eval e X.env) :: starEach [] X.env := by rfl) :
    PE X (.Call (.Name "list" p) [e] [] pos) (tCB (fun xs H Q => ∃ p ys, xs = [.ref p] ∧ (SqL X.K H p ys ∨ SqT X.K H p ys) ∧ ∀ l, H l = none → Q (.ref l) (upd H l (.lst ys))) (tCons te tNil)) :=
  pe_callTy call_list_of hg m (by decide +kernel) (pa_cons he pa_nil na) (he := na)
section
variable {P : Program} {w : World} {K : PySem.W.Frag} {mg : Str → Option Value} {base : Heap}
theorem scPen : FnScope ["_law_script"] ["_law_script"] (defScope sPen) := ⟨rfl, rfl, rfl, by decide +kernel, rfl, by decide +kernel, by decide +kernel⟩
theorem ok_pen {f : Addr} {fd : FuncData} (F : Fun K "_law_pen" "_law_pen" sPen f fd) (T : Txt mg) : FnOk P w K mg base CX0 1 f fd ["_law_script"] (spPen K) := by
  refine F.ok scPen (fun vs H Q E h => ?_) (fun cdv A outer s H vs Q E hr h => ?_)
  · obtain ⟨a, ns, rfl, _⟩ := h
    rfl
  · obtain ⟨a, ns, rfl, hs, hl, k⟩ := h
    refine ⟨_, pss_one (ps_ret (pe_lst (pa_cons (bList (by rfl) T.list (pe_slice sl_list (pv 0) po_none (po_some pe_int))) (pa_cons pe_int (pa_cons pe_int pa_nil))))), ?_⟩
    refine ⟨_, rfl, _, rfl, a, _, rfl, hs, fun q hq => ?_⟩
    have e : cutV (ns.map V.int) none (some 63) = ns.map V.int := by
      unfold cutV
      rw [show HT.sIx (ns.map V.int).length 0 none = 0 from rfl, show HT.sIx (ns.map V.int).length (ns.map V.int).length (some 63) = min 63 (ns.map V.int).length from HT.sIx_nat _ _ 63, List.drop_zero, Nat.sub_zero]
      exact List.take_of_length_le (by rw [List.length_map]; omega)
    rw [e]
    refine ⟨q, _, rfl, .inl (SqL.of upd_same), fun c hc => ⟨by show 3 ≤ sizeLine; decide, fun p hp => ?_⟩⟩
    have cp : c ≠ p := by rintro rfl; rw [upd_same] at hp; cases hp
    refine k c p _ ?_ ⟨ns, 0, 0, upd_same, by rw [upd_ne cp, upd_same], cp, hl, by decide, by decide⟩
    exact Same.trans (Same.new hq) (Same.trans (Same.new hc) (Same.new hp))
end
theorem ix_or {X : Cx} {r1 r2 : R2} (h1 : IxR X r1) (h2 : IxR X r2) : IxR X (fun x y H Q => r1 x y H Q ∨ r2 x y H Q) := fun a b pins s σ H x y v u Q I rx ry h hs => h.elim (fun h => h1 a b pins s σ H x y v u Q I rx ry h hs) (fun h => h2 a b pins s σ H x y v u Q I rx ry h hs)
def spPick : Sp := fun vs H Q _ => ∃ (c p : Addr) (n : Nat), n ≤ 1000000 ∧ PenAt c n H p ∧
  ((∃ a xs, vs = [.ref p, .ref a] ∧ a ≠ p ∧ H a = some (.lst xs) ∧ 0 < xs.length ∧ xs.length ≤ 1000 ∧ ∀ v H', v ∈ xs → PenAt c (n + 1) H' p → Ext1 p H H' → Q v H') ∨
  (∃ z : Str, vs = [.ref p, .str z] ∧ 0 < z.length ∧ z.length ≤ 1000 ∧ ∀ d H', d ∈ z.cps.toList → PenAt c (n + 1) H' p → Ext1 p H H' → Q (.str ⟨#[d]⟩) H'))
theorem atI_int {α : Type} {xs : List α} {s : Int} {v : α} (s0 : 0 ≤ s) (h : xs[s.toNat]? = some v) : atI xs s = some v := by
  have e : ((s.toNat : Nat) : Int) = s := by omega
  have q := atI_nat h
  rw [e] at q
  exact q
theorem atI_some {α : Type} {xs : List α} {i : Int} (i0 : 0 ≤ i) (i1 : i < xs.length) : ∃ v, v ∈ xs ∧ atI xs i = some v := by
  have h : i.toNat < xs.length := by omega
  exact ⟨xs[i.toNat], List.getElem_mem h, atI_int i0 (List.getElem?_eq_getElem h)⟩
section
variable {P : Program} {w : World} {K : PySem.W.Frag} {mg : Str → Option Value} {base : Heap}
theorem scPick : FnScope ["_law_pen_here", "_law_things"] ["_law_pen_here", "_law_things"] (defScope sPick) := ⟨rfl, rfl, rfl, by decide +kernel, rfl, by decide +kernel, by decide +kernel⟩
theorem ok_pick {f f1 : Addr} {fd fd1 : FuncData} (F : Fun K "_law_pick" "_law_pick" sPick f fd) (T : Txt mg) (G : FnOk P w K mg base CX0 1 f1 fd1 ["_law_pen_here", "_law_many"] spDraw) (m1 : mg "_law_draw" = some (.ref f1)) (k1 : PySem.W.keepIn K (.ref f1) = true)
    (b1 : Binds K fd1 ["_law_pen_here", "_law_many"] []) : FnOk P w K mg base CX0 2 f fd ["_law_pen_here", "_law_things"] spPick := by
  refine F.ok scPick (fun vs H Q E h => ?_) (fun cdv A outer s H vs Q E hr h => ?_)
  · obtain ⟨c, p, n, _, _, ⟨a, xs, rfl, _⟩ | ⟨z, rfl, _⟩⟩ := h <;> rfl
  · obtain ⟨c, p, n, nb, pen, h⟩ := h
    refine ⟨_, pss_one (ps_ret (pe_ix (ix_or ix_list ix_str) (pv 1) (pe_call G hr (by rfl) m1 k1 b1 .nil pass0 (pa_cons (pv 0) (pa_cons (bLen (by rfl) T.len (pv 1)) pa_nil))) (fun _ _ => rfl))), ?_⟩
    rcases h with ⟨a, xs, rfl, ap, ha, l0, l1, k⟩ | ⟨z, rfl, l0, l1, k⟩
    · refine ⟨_, rfl, _, rfl, _, rfl, _, _, rfl, Sq.len (.inl ha), c, p, _, n, rfl, by omega, by omega, nb, pen, fun r H' r0 r1 pen' x => ?_⟩
      obtain ⟨v, hv, e⟩ := atI_some r0 r1
      exact .inl ⟨a, xs, r, v, rfl, rfl, SqL.of (x _ _ ap ha), e, k v H' hv pen' x⟩
    · refine ⟨_, rfl, _, rfl, _, rfl, _, z.length, rfl, ⟨len_small l1, rfl⟩, c, p, _, n, rfl, by omega, by omega, nb, pen, fun r H' r0 r1 pen' x => ?_⟩
      obtain ⟨v, hv, e⟩ := atI_some (xs := z.cps.toList) r0 (by rw [Array.length_toList]; exact r1)
      exact .inr ⟨z, r, v, rfl, rfl, len_small l1, e, k v H' hv pen' x⟩
end
theorem joinL_one : ∀ cs : List Nat, TL.joinL [] (cs.map fun d => [d]) = cs
  | [] => rfl
  | [_] => rfl
  | a :: b :: r => by
    have e := joinL_one (b :: r)
    show [a] ++ ([] ++ TL.joinL [] ((b :: r).map fun d => [d])) = a :: b :: r
    rw [e]
    rfl
theorem join_one (cs : List Nat) : Txt.join ("" : Str) (cs.map fun d => (⟨#[d]⟩ : Str)) = ⟨cs.toArray⟩ := by
  have e := SX.join_S [] (cs.map fun d => [d])
  rw [joinL_one, List.map_map] at e
  exact e
theorem sum_one : ∀ cs : List Nat, ((cs.map fun d => (⟨#[d]⟩ : Str)).map (·.length)).sum = cs.length
  | [] => rfl
  | a :: r => by
    rw [List.map_cons, List.map_cons, List.sum_cons, sum_one r, List.length_cons]
    show 1 + r.length = _
    omega
theorem kbMk {K : PySem.W.Frag} {x qual : Str} {st : Stmt} {f : Addr} {fd : FuncData} {ps ks : List Str} {n : Nat} {g : List Value → List Value → List Value} {gV : List V → List V → List V} (F : L2.Fun K x qual st f fd)
    (h : ∀ (kV doc pm : Value) (an : Option Addr) (cdv ct : Value) (us ws : List Value), us.length = n → ws.length = ks.length → bindArgs (PySem.W.fnOf x qual (defArgs st) (defBody st) (defScope st) .none kV doc pm an cdv ct) ⟨us, ks.zip ws⟩ = pure (ps.zip (g us ws)))
    (rel : ∀ {vs : List V} {us : List Value} {zs : List V} {ws : List Value}, Vals vs us → Vals zs ws → Vals (gV vs zs) (g us ws)) : KBn K fd ps n ks g gV := by
  obtain ⟨oc, od, kV, doc, pm, an, cdv, ct, osl, rfl, lk, hcd⟩ := F.ex
  exact ⟨fun s us ws _ l1 l2 => .of_eq (h kV doc pm an cdv ct us ws l1 l2), rel⟩
theorem vapp {vs : List V} {us : List Value} {zs : List V} {ws : List Value} (a : Vals vs us) (b : Vals zs ws) : Vals (vs ++ zs) (us ++ ws) := by
  induction a with
  | nil => exact b
  | cons r _ ih => exact .cons r ih
/-- a class of errors with one field, as a raise wants it -/
structure ErrB (P : Program) (w : World) (K : PySem.W.Frag) (mg : Str → Option Value) (base : Heap) (x f : Str) (C : Addr) : Prop where
  O : OexC K C
  mgC : mg x = some (.ref C)
  init : ∃ fi fd ps, PySem.W.findIn K (.ref C) "__init__" = some (some (.ref fi)) ∧ PySem.W.typeIn K (.ref fi) = some (.type "function") ∧ FnOk P w K mg base CX0 1 fi fd ps (spErr1 C f) ∧ Binds K fd ps []
def raised (C : Addr) (f : Str) (v : V) (E : XK) (H : Hp) : Prop := ∀ d, H d = none → E (.ref C) (some d) (upd H d (.xd [(f, v)]))
end Kx


set_option Elab.async false
set_option maxRecDepth 100000
set_option autoImplicit false
/-! Rules: cls(e, .., k = v), cls a local name; raise C(e, e'), two fields; no exception leaves where none is wished for. -/
namespace Ru
open PySem L2 PySem.Spec PyProof.Rows PySem.Calls Er
section
variable {X : Cx} {CX : CXT} {k n : Nat} {f C : Addr} {fd : FuncData} {ps ks : List Str} {sp : Sp} {E : XK} {x : Str} {e : Expr} {es : List Expr} {kws : List Keyword} {tf : TE} {t tk : TA} {g : List Value → List Value → List Value} {gV : List V → List V → List V} {p pos : Pos}
theorem passesF : Passes (L2.CX X.prog X.w) X (fun _ _ _ => False) := fun _ _ _ _ _ _ _ h => by
  obtain ⟨a, B, H', cls, d, _, _, _, _, _, _, _, z⟩ := h
  exact z.elim
end
section
variable {X : Cx}
end
end Ru
set_option Elab.async false
set_option maxRecDepth 100000
set_option autoImplicit false
/-! try: .. except G as n: y = e -/
namespace Er
open PySem L2 PySem.Spec PyProof.Rows PySem.Calls
section
variable {X : Cx} {x n y : Str} {c : Value} {i j : Nat} {body : List Stmt} {e₀ : Expr} {te : Addr → Value → Option Addr → TE} {np yp sp pos pos' : Pos} {tb : WX → TS} {Wout : WX}
end
end Er
set_option Elab.async false
set_option maxRecDepth 100000
set_option autoImplicit false
/-! C.m(e, ..), m a classmethod: what is raised is wished for at the caller's slots -/
namespace Ru
open PySem L2 PySem.Spec PyProof.Rows PySem.Calls Er ClX
section
variable {X : Cx} {CX : CXT} {k : Nat} {C p g : Addr} {mc : Value} {sp : Sp} {E : L2.St → XK} {o e : Expr} {es : List Expr} {m : Str} {pos apos : Pos} {ta : TE} {t : TA} {pl : Sem Bool} {pins : List (Addr × Obj)} {σ : L2.St} {H : Hp} {s : Shared}
end
end Ru
set_option Elab.async false
set_option maxRecDepth 100000
set_option autoImplicit false
/-! super().__init__(..) of a plain class of the program, as a last line. -/
namespace Er
open PySem L2 PySem.Spec PyProof.Rows PySem.Calls
/-- a promise of a def by its place, of a promise of it -/
theorem fnR_of {P : Program} {w : World} {K : PySem.W.Frag} {mg : Str → Option Value} {base : Heap} {CX : CXT} {k : Nat} {f : Addr} {fd : FuncData} {ps : List Str} {sp : Sp} (F : FnOk P w K mg base CX k f fd ps sp) (bd : Binds K fd ps []) : FnR P w K mg base CX k f sp := by
  intro A outer s H us vs Q E hr e0 r want
  have len : us.length = ps.length := r.length.symm.trans (F.len _ _ _ _ want)
  have bt : BindsTo s fd ⟨us, []⟩ (ps.zip us) := by
    have z := bd s us (e0.mod.kin.keeps fun b o e => (e0.bs b o e).1) (by rw [List.append_nil]; exact len)
    rw [List.append_nil] at z
    exact z
  exact F.run A outer s H ⟨us, []⟩ us vs Q E hr e0 bt r want
section
variable {P : Program} {w : World} {K : PySem.W.Frag} {mg : Str → Option Value} {base : Heap}
end
end Er
set_option Elab.async false
set_option maxRecDepth 100000
set_option autoImplicit false
/-! enumerate over a tuple -/
namespace Tn
open PySem L2 PySem.Spec PyProof.Rows PySem.Calls
open Builtin
set_option maxHeartbeats 1000000 in
theorem enumNew {v : Value} {o : Obj} {G : Heap → Prop} (B : Begins v o G) :
    Meets (Builtin.«enumerate.__new__» ⟨[.type "enumerate", v], []⟩) (fun _ R s => G s.heap ∧
      R (.ok (.ret (.ref (s.heap.push o).objs.size))) { s with heap := (s.heap.push o).push { cls := .type "enumerate", data := .fields #[.none, .bool false, .ref s.heap.objs.size, rawInt 0, .none, .none] } }) :=
  .of_wp fun prog w A R s h => by
    obtain ⟨hp, g, d, tk, os⟩ := s; obtain ⟨h1, h⟩ := h
    have hsub := sub_enumerate
    have q1 : ∀ {A' : Around} {E : Value → Shared → Prop} {Q : Value → Shared → Prop}, Q (.ref hp.objs.size) ⟨hp.push o, g, d, tk, os⟩ → wpAny (model prog w) A' (pyIter v) Q E ⟨hp, g, d, tk, os⟩ :=
      fun q => B.iter prog w _ _ ⟨hp, g, d, tk, os⟩ _ h1 q
    wp_walk using q1
    refine wpAny_stack_any fun st => wpAny_pure ?_
    split
    · rename_i c _ _ _ _ _
      cases (c == Value.type "enumerate")
      · wp_walk using q1
        exact ⟨_, rfl, h⟩
      · wp_walk using q1
        exact ⟨_, rfl, h⟩
    · wp_walk using q1
      exact ⟨_, rfl, h⟩
section
variable {prog : Program} {w : World} {A : Around} {E : Value → Shared → Prop} {s : Shared}
theorem enumBegins {v : Value} {o : Obj} {G : Heap → Prop} {Q : Value → Shared → Prop} (B : Begins v o G) (h1 : G s.heap)
    (h : ∀ h', IsEnum h' (s.heap.objs.size + 1) s.heap.objs.size 0 .none → h'.get? s.heap.objs.size = some o → h'.objs.size = s.heap.objs.size + 2 →
      (∀ b o, s.heap.get? b = some o → h'.get? b = some o) → Q (.ref (s.heap.objs.size + 1)) { s with heap := h' }) :
    wpAny (model prog w) A (call (.type "enumerate") [v]) Q E s := by
  refine callType_new F.called_enumerate (by decide) (F.typeCall_enumerate_1 _) (F.newCall_enumerate_1 _) (fun obj => F.args_object_init_2 obj _) F.entry_enumerate_new
    (enumNew B) ⟨h1, ?_⟩
  have hz : (s.heap.push o).objs.size = s.heap.objs.size + 1 := Heap.size_push ..
  show _ ∧ _
  rw [hz]
  have he : IsEnum ((s.heap.push o).push { cls := .type "enumerate", data := .fields #[.none, .bool false, .ref s.heap.objs.size, rawInt 0, .none, .none] }) (s.heap.objs.size + 1) s.heap.objs.size 0 .none := by
    have := Heap.get?_push_size (s.heap.push o) (o := { cls := .type "enumerate", data := .fields #[.none, .bool false, .ref s.heap.objs.size, rawInt 0, .none, .none] }) rfl
    rw [hz] at this; exact this
  refine ⟨⟨_, he, rfl⟩, h _ he (Heap.get?_push_of_some _ (Heap.get?_push_size _ B.free)) (by rw [Heap.size_push, hz]) fun b o x => Heap.get?_push_of_some _ (Heap.get?_push_of_some _ x)⟩
end
/-- the tuple at a, each item in a new pair -/
def Iet (K : PySem.W.Frag) (a : Addr) : It :=
  ⟨fun i H => ∃ (xs : List V) (x : V), SqT K H a xs ∧ xs[i]? = some x, fun i H v H' => ∃ T x, v = .ref T ∧ H T = none ∧ H' = upd H T (.tup [.int (i : Nat), x]) ∧ ∀ xs, SqT K H a xs → xs[i]? = some x, fun i H => ∃ xs : List V, SqT K H a xs ∧ xs.length ≤ i⟩
theorem turn_enumT {P : Program} {w : World} {K : PySem.W.Frag} {elts : List Expr} {kk : Nat} {tpos : Pos} (a e it : Addr) (hae : a ≠ it) (hae2 : e ≠ a) :
    Turn P w K (.Tuple elts kk tpos) (Iet K a) [e, it] e (fun i h => (∃ old, IsEnum h e it ((i : Nat) : Int) old) ∧ h.IsTupleIter it a i ∧ e ≠ it) where
  mem := by simp
  obj := fun i h st b hb => by
    obtain ⟨⟨old, he⟩, ⟨o, ho, hc, hd⟩, _⟩ := st
    have e' : b = e ∨ b = it := by simpa using hb
    rcases e' with z | z
    · rw [z]; exact ⟨_, he, fun v q => nomatch q⟩
    · rw [z]; exact ⟨o, ho, fun v q => by rw [hd] at q; cases q⟩
  keep := fun i h h' st k => let ⟨⟨old, he⟩, hi, hne⟩ := st; ⟨⟨old, k e (by simp) _ he⟩, hi.at fun o q => k it (by simp) o q, hne⟩
  item := by
    intro X hP hw hK hc i pins s σ H E I hf st hg
    subst hP hw hK
    obtain ⟨⟨old, he⟩, hit, hne⟩ := st
    obtain ⟨xs, x, hq, hx⟩ := hg
    obtain ⟨its, rv, p, hz⟩ := I.tuple hq
    obtain ⟨u, hu, ru⟩ := rv.get hx
    have hel : e < s.heap.objs.size := Heap.lt_size he
    have hil : it < s.heap.objs.size := by obtain ⟨_, q, _⟩ := hit; exact Heap.lt_size q
    have hT : s.heap.IsTuple a its.toArray := p
    have hlt : i < its.toArray.size := by
      have := (List.getElem?_eq_some_iff.mp hu).1
      simpa using this
    have D := Draws.tuple (prog := X.prog) (w := X.w) (A := X.A.in1) (show X.A.in1.handled = none from I.ok.hd hc) it a hae its.toArray
    refine wpAny_pyNext_enum_itemD (n := its.toArray.size) D he ⟨hit, hT⟩ hlt hne (by simp [hne, hae2]) fun y h' tk hy ho hs' hT' hsz hk => ?_
    have hyu : y = u := by
      have hy2 : its.toArray[i]? = some y := hy
      rw [List.getElem?_toArray, hu] at hy2
      exact (Option.some.inj hy2).symm
    subst hyu
    obtain ⟨hit', _⟩ := hs'
    refine ⟨_, rfl, wpAny_letOwnedTupleGo_enum (s := { s with heap := h', toks := tk + 1 }) ho fun h'' he' sb => ?_⟩
    have hT2 : h''.get? s.heap.objs.size = some { cls := .type "tuple", data := .seq #[.int i tk, y] } := (sb.2 _ (Nat.ne_of_gt hel)).trans hT'
    have new : ObjOk X.prog X.w (upd H s.heap.objs.size (.tup [.int (i : Nat), x])) h'' s.heap.objs.size (.tup [.int (i : Nat), x]) :=
      ⟨by show 2 ≤ sizeLine; decide, [.int i tk, y], .cons ⟨_, rfl⟩ (.cons ru .nil), ⟨_, hT2, rfl, _, rfl⟩⟩
    have I1 : Inv X pins σ (upd H s.heap.objs.size (.tup [.int (i : Nat), x])) { s with heap := h'', toks := tk + 1 } :=
      I.turnedNew (ch := [e, it]) (fun b ob hb q => (sb.2 b (fun z => hb (by simp [z]))).trans (hk b ob (fun z => hb (by simp [z])) (fun z => hb (by simp [z])) q)) hf (Nat.le_refl _) new
    refine ⟨.ref s.heap.objs.size, _, I1, rfl, ⟨_, x, rfl, I.hok.fresh (Nat.le_refl _), rfl, fun ys hy => by rw [I.tuple_inj hy hq]; exact hx⟩, ⟨⟨y, ?_⟩, hit'.at fun o q => (sb.2 it (Ne.symm hne)).trans q, hne⟩, fun b hb => ?_⟩
    · have e1 : ((i + 1 : Nat) : Int) = (i : Int) + 1 := by omega
      rw [e1]; exact he'
    · have hb' : b < s.heap.objs.size := by
        have e' : b = e ∨ b = it := by simpa using hb
        rcases e' with z | z
        · rw [z]; exact hel
        · rw [z]; exact hil
      rw [upd_ne (Nat.ne_of_lt hb')]
      exact (hf b hb).1
  done := by
    intro X hP hw hK hc i pins s σ H E I hf st hg
    subst hP hw hK
    obtain ⟨⟨old, he⟩, hit, hne⟩ := st
    obtain ⟨xs, hq, hx⟩ := hg
    obtain ⟨its, rv, p, hz⟩ := I.tuple hq
    obtain ⟨f0, f1, f2, f3, f4, f5⟩ := hf it (by simp)
    have hl := rv.length
    have hT : s.heap.IsTuple a its.toArray := p
    have D : Draws X.prog X.w X.A.in1 it [it, a] i (fun _ _ => False) (fun j h => j = i ∧ h.IsTupleIter it a i ∧ h.IsTuple a its.toArray) :=
      { live := fun _ _ q => let ⟨o, ho, _⟩ := q.2.1; ⟨o, ho⟩
        frame := fun j h h' q hk => ⟨q.1, q.2.1.at fun o z => hk it (by simp) o z, q.2.2.at fun o z => hk a (by simp) o z⟩
        item := fun j s Q E hj q => absurd q.1 (Nat.ne_of_lt hj)
        done := fun s Q E q hE => wpAny_nextOf_tuple_end (I.ok.hd hc) q.2.1 q.2.2 (by simp; omega) hE }
    exact wpAny_pyNext_enum_endD D he ⟨rfl, hit, hT⟩ fun h' eb => ⟨rfl, I.turned (t' := s.toks) (fun b o hb q => eb b o hb q) f0 f1 f3 f4 f5⟩
  self := fun A i s Q E st h => let ⟨⟨_, he⟩, _⟩ := st; wpAny_pyIter_enum he h
def iEnumT (K : PySem.W.Frag) (ta : TA) : TI := fun σ H R => ta σ H fun vs H1 => ∃ a xs, vs = [.ref a] ∧ SqT K H1 a xs ∧ R (Iet K a) H1
theorem pi_enumT {X : Cx} {e : Expr} {ta : TA} {p pos tpos : Pos} {elts : List Expr} {kk : Nat} (hg : Gl X "enumerate") (hm : X.mg "enumerate" = none) (ha : PA X [e] ta) (hs : starEach [e] X.env = [(false, eval e X.env)] := by rfl) :
    PI X (.Tuple elts kk tpos) (.Call (.Name "enumerate" p) [e] [] pos) (iEnumT X.K ta) := by
  refine ⟨fun pins s σ H R I h => ?_⟩
  refine Call_ (ld_blt I hg hm boot_enumerate (PyProof.Rows.callWith_type1 (thn (ha.run pos pins s σ H _ I h) fun us s1 ⟨vs, H1, I1, r1, q1⟩ => ?_) hs rfl))
  obtain ⟨a, xs, ex, hq, q⟩ := q1
  subst ex
  cases r1 with
  | cons r rr =>
    cases rr
    cases r
    obtain ⟨its, rv, p', hz⟩ := I1.tuple hq
    have hT : s1.heap.IsTuple a its.toArray := p'
    have hal : a < s1.heap.objs.size := by obtain ⟨_, q, _⟩ := hT; exact Heap.lt_size q
    refine enumBegins (begins_tuple a its.toArray) hT fun h' he hit hsz hk => wpAny_pyIter_enum he ?_
    have I2 : Inv X pins σ H1 { s1 with heap := h' } := I1.kept (t' := s1.toks) hk
    refine ⟨s1.heap.objs.size + 1, [s1.heap.objs.size + 1, s1.heap.objs.size], _, _, H1, rfl, I2, turn_enumT a (s1.heap.objs.size + 1) s1.heap.objs.size (Nat.ne_of_lt hal) (Nat.ne_of_gt (Nat.lt_succ_of_lt hal)), ⟨⟨.none, he⟩, ⟨_, hit, rfl, rfl⟩, Nat.succ_ne_self _⟩, fun b hb => ?_, q⟩
    have e' : b = s1.heap.objs.size + 1 ∨ b = s1.heap.objs.size := by simpa using hb
    have hle : s1.heap.objs.size ≤ b := by
      rcases e' with z | z
      · rw [z]; exact Nat.le_add_right _ _
      · rw [z]; exact Nat.le_refl _
    exact I1.fpOk hle (I1.hok.fresh hle)
theorem walk_enumT {K : PySem.W.Frag} {a : Addr} {xs : List V} : Walk (Iet K a) xs.length (fun H => SqT K H a xs) (YPair (fun i => some (.int (i : Nat))) (fun i => xs[i]?)) := by
  refine ⟨fun i _ hi q => ⟨xs, xs[i], q, by simp [hi]⟩, fun _ q => ⟨xs, q, Nat.le_refl _⟩, fun i H v H' _ q y => ?_⟩
  obtain ⟨T, x, h1, h2, h3, h4⟩ := y
  exact ⟨T, .int (i : Nat), x, h1, h2, h3, rfl, h4 xs q⟩
end Tn


set_option Elab.async false
set_option maxRecDepth 100000
set_option autoImplicit false
/-! cls(..), cls a local name that holds a class of the program -/
namespace Tn
open PySem L2 PySem.Spec PyProof.Rows PySem.Calls StX
section
variable {X : Cx} {CX : CXT} {k : Nat} {f C : Addr} {sp : Sp} {E : XK} {x : Str} {e : Expr} {es : List Expr} {te tf : TE} {t : TA} {p sp_ pos : Pos}
def tMakeV (C : Addr) (sp : Sp) (E : XK) (tf : TE) (t : TA) : TE := fun σ H Q => tf σ H fun y H1 => y = V.ref C ∧ tMakeR C sp E t σ H1 Q
/-- cls(e, .., *y) -/
theorem pe_makeV2 (M : Mk X.K C f) (F : FnR X.prog X.w X.K X.mg X.base CX k f sp) (hr : Room (k + 1) X.A) (hx : Passes CX X E) (hf : PE X (.Name x p) tf) (ha : PA X (e :: es) t)
    (he : starEach (e :: es) X.env = (false, eval e X.env) :: starEach es X.env := by rfl) (hst : (backTo pos (starEach es X.env)).any (·.1) = true := by rfl) : PE X (.Call (.Name x p) (e :: es) [] pos) (tMakeV C sp E tf t) := by
  refine ⟨fun pins s σ H Q I h => ?_⟩
  refine wpAny_Call_Name_kw (thn (hf.run pins s σ H _ I h) fun u s1 ⟨y, H1, I1, ry, ey, q⟩ => ?_)
  subst ey
  obtain rfl : u = Value.ref C := ry
  refine PySem.W.callWith_S2 (h₀ := X.base) I1.ok.mod.kin M.kp (thn (ha.run pos pins s1 σ H1 _ I1 q) fun us s2 ⟨vs, H2, I2, r, q2⟩ => ⟨I2.kIn, ?_⟩) he hst
  exact run_makeR M F hr hx I2 r q2
/-- cls(*y) -/
def tMakeV1 (K : PySem.W.Frag) (C : Addr) (sp : Sp) (E : XK) (tf te : TE) : TE := fun σ H Q => tf σ H fun y H1 => y = V.ref C ∧ te σ H1 fun z H2 => ∃ a xs, z = V.ref a ∧ (SqT K H2 a xs ∨ SqL K H2 a xs) ∧ ∀ x dx, H2 x = Option.none → H2 dx = Option.none → dx ≠ x →
  sp (V.ref x :: xs) (upd (upd H2 dx (.own x)) x (.ins C dx [])) (fun v H3 => v = .non ∧ Q (.ref x) H3) E
theorem pe_makeV1 (M : Mk X.K C f) (F : FnR X.prog X.w X.K X.mg X.base CX k f sp) (hr : Room (k + 1) X.A) (hx : Passes CX X E) (hf : PE X (.Name x p) tf) (he : PE X e te)
    (hst : starEach [.Starred e sp_] X.env = [(true, eval e X.env)] := by rfl) : PE X (.Call (.Name x p) [.Starred e sp_] [] pos) (tMakeV1 X.K C sp E tf te) := by
  refine ⟨fun pins s σ H Q I h => ?_⟩
  refine wpAny_Call_Name_kw (thn (hf.run pins s σ H _ I h) fun u s1 ⟨y, H1, I1, ry, ey, q⟩ => ?_)
  subst ey
  obtain rfl : u = Value.ref C := ry
  refine PySem.W.callWith_S (h₀ := X.base) I1.ok.mod.kin M.kp (thn (he.run pins s1 σ H1 _ I1 q) fun v s2 ⟨z, H2, I2, rz, a, xs, ez, hxs, q2⟩ => ?_) hst
  subst ez
  obtain rfl : v = Value.ref a := rz
  exact star_any I2 hxs fun us s3 I3 rv => ⟨I3.kIn, run_makeR M F hr hx I3 rv q2⟩
end
end Tn


set_option Elab.async false
set_option maxRecDepth 100000
set_option autoImplicit false
/-! is_integer, is_from_to, is_letter, is_pair of any value -/
namespace Kx
open PySem L2 PySem.Spec PyProof.Rows Rg Er Ru
abbrev sFromTo : Stmt := top 16
abbrev sIsLetter : Stmt := top 17
abbrev sIsPair : Stmt := top 35
def NoOf (K : PySem.W.Frag) (T : String) (H : Hp) (x : V) : Prop := ∃ t, TyX K H x t ∧ PySem.W.kitOne K t (.type T) = some false
def lt1 (z : Str) : Bool := match z.cps.toList with
  | [c] => decide (c ∈ abc.cps.toList)
  | _ => false
/-- x is a letter, or is none -/
def LtX (K : PySem.W.Frag) (H : Hp) (x : V) (b : Bool) : Prop := (∃ z : Str, x = .str z ∧ z.length ≤ 1000 ∧ b = lt1 z) ∨ (b = false ∧ NoOf K "str" H x)
/-- x is an integer, or is none -/
def IzX (K : PySem.W.Frag) (H : Hp) (x : V) (o : Option Int) : Prop := (∃ i, x = .int i ∧ o = some i) ∨ (o = none ∧ ((∃ c, x = .bl c) ∨ NoOf K "int" H x))
def inB (lo hi : Int) : Option Int → Bool
  | some i => decide (lo ≤ i) && decide (i ≤ hi)
  | none => false
/-- x is a pair of a letter and a weight, or is none -/
def PrX (K : PySem.W.Frag) (H : Hp) (x : V) (b : Bool) : Prop := (∃ a u v b1 o2, x = .ref a ∧ H a = some (.tup [u, v]) ∧ LtX K H u b1 ∧ IzX K H v o2 ∧ b = (b1 && inB 0 9 o2)) ∨
  (b = false ∧ ((∃ a xs, x = .ref a ∧ H a = some (.tup xs) ∧ xs.length ≠ 2) ∨ NoOf K "tuple" H x))
def spFromToA (K : PySem.W.Frag) : Sp := fun vs H Q _ => ∃ x o lo hi, vs = [x, .int lo, .int hi] ∧ IzX K H x o ∧ Q (.bl (inB lo hi o)) H
def spIsLetterA (K : PySem.W.Frag) : Sp := fun vs H Q _ => ∃ x b, vs = [x] ∧ LtX K H x b ∧ Q (.bl b) H
def spIsPairA (K : PySem.W.Frag) : Sp := fun vs H Q _ => ∃ x b, vs = [x] ∧ PrX K H x b ∧ Q (.bl b) H
theorem bIxT {X : Cx} {a b : Expr} {ta tb : TE} {pos : Pos} (ha : PE X a ta) (hb : PE X b tb) (hs : PlainIx b := by intro _ _; rfl) : PE X (.Subscript a b pos) (tOp (rIxT X.K) ta tb) := pe_ix ix_tup ha hb hs
section
variable {P : Program} {w : World} {K : PySem.W.Frag} {mg : Str → Option Value} {base : Heap}
theorem scFromTo : FnScope ["value", "low", "high"] ["value", "low", "high"] (defScope sFromTo) := ⟨rfl, rfl, rfl, by decide +kernel, rfl, by decide +kernel, by decide +kernel⟩
theorem ok_fromToA {f : Addr} {fd : FuncData} (F : L2.Fun K "is_from_to" "is_from_to" sFromTo f fd) (T : Txt mg) (mB : mg "bool" = none) : FnOk P w K mg base CX0 2 f fd ["value", "low", "high"] (spFromToA K) := by
  refine F.ok scFromTo (fun vs H Q E h => ?_) (fun cdv A outer s H vs Q E hr h => ?_)
  · obtain ⟨x, o, lo, hi, rfl, _⟩ := h
    rfl
  · obtain ⟨x, o, lo, hi, rfl, how, k⟩ := h
    refine ⟨_, pss_one (ps_ret (pe_and (bIsi (by rfl) T.isi (pv 0) (pe_bltn (v := .ty "int") (by rfl) T.int (by decide +kernel) rfl)) (pe_and (pe_not (bIsi (by rfl) T.isi (pv 0) (pe_bltn (v := .ty "bool") (by rfl) mB (by decide +kernel) rfl))) (pe_one (pe_chain op_le op_le (pv 1) (pv 0) (pv 2)))))), ?_⟩
    rcases how with ⟨i, rfl, rfl⟩ | ⟨rfl, ⟨c, rfl⟩ | ⟨t, ty, no⟩⟩
    · refine ⟨_, rfl, .int i, .ty "int", _, _, true, rfl, .ty "int", .base (.int i), kit_ty (by decide +kernel), true, rfl, iteT ?_⟩
      refine ⟨_, rfl, .int i, .ty "bool", _, _, false, rfl, .ty "bool", .base (.int i), kit_ty (by decide +kernel), false, rfl, true, rfl, iteT ?_⟩
      refine ⟨_, rfl, _, rfl, lo, i, rfl, rfl, _, rfl, ?_⟩
      by_cases h : lo ≤ i
      · rw [decide_eq_true h]
        refine iteT ⟨_, rfl, i, hi, rfl, rfl, ?_⟩
        have k : Q (.bl (decide (lo ≤ i) && decide (i ≤ hi))) H := k
        rw [decide_eq_true h, Bool.true_and] at k
        exact k
      · rw [decide_eq_false h]
        have k : Q (.bl (decide (lo ≤ i) && decide (i ≤ hi))) H := k
        rw [decide_eq_false h, Bool.false_and] at k
        exact iteF k
    · refine ⟨_, rfl, .bl c, .ty "int", _, _, true, rfl, .ty "int", .base (.bl c), kit_ty (by decide +kernel), true, rfl, iteT ?_⟩
      exact ⟨_, rfl, .bl c, .ty "bool", _, _, true, rfl, .ty "bool", .base (.bl c), kit_ty (by decide +kernel), true, rfl, false, rfl, iteF k⟩
    · exact ⟨_, rfl, x, .ty "int", _, _, false, rfl, .ty "int", ty, no, false, rfl, iteF k⟩
theorem scIsLetter : FnScope ["value"] ["value"] (defScope sIsLetter) := ⟨rfl, rfl, rfl, by decide +kernel, rfl, by decide +kernel, by decide +kernel⟩
theorem ok_isLetterA {f : Addr} {fd : FuncData} (F : L2.Fun K "is_letter" "is_letter" sIsLetter f fd) (T : Txt mg) (mS : mg "str" = none) {tk : Tok} (mL : mg "LETTERS" = some (.str abc tk)) : FnOk P w K mg base CX0 1 f fd ["value"] (spIsLetterA K) := by
  refine F.ok scIsLetter (fun vs H Q E h => ?_) (fun cdv A outer s H vs Q E hr h => ?_)
  · obtain ⟨x, b, rfl, _⟩ := h
    rfl
  · obtain ⟨x, b, rfl, how, k⟩ := h
    refine ⟨_, pss_one (ps_ret (pe_and (bIsi (by rfl) T.isi (pv 0) (pe_bltn (v := .ty "str") (by rfl) mS (by decide +kernel) rfl)) (pe_and (pe_cmpR op_eq (bLen (by rfl) T.len (pv 0)) pe_int (nomark _))
      (pe_one (pe_cmpR op_in_sign (pv 0) (pe_glob (v := .str abc) (by rfl) mL ⟨_, rfl⟩) rfl))))), ?_⟩
    rcases how with ⟨z, rfl, few, rfl⟩ | ⟨rfl, t, ty, no⟩
    · refine ⟨_, rfl, .str z, .ty "str", _, _, true, rfl, .ty "str", .base (.str z), kit_ty (by decide +kernel), true, rfl, iteT ?_⟩
      refine ⟨_, rfl, _, z.length, rfl, ⟨len_small few, rfl⟩, rfl, _, rfl, ?_⟩
      obtain ⟨⟨L⟩⟩ := z
      match L, few, k with
      | [c], _, k => exact iteT ⟨_, rfl, c, abc, rfl, rfl, k⟩
      | [], _, k => exact iteF k
      | a :: b :: r, _, k =>
        rw [decide_eq_false (by intro q; injection q with q; simp [Str.length] at q; omega)]
        exact iteF k
    · exact ⟨_, rfl, x, .ty "str", _, _, false, rfl, .ty "str", ty, no, false, rfl, iteF k⟩
theorem scIsPair : FnScope ["value"] ["value"] (defScope sIsPair) := ⟨rfl, rfl, rfl, by decide +kernel, rfl, by decide +kernel, by decide +kernel⟩
theorem ok_isPairA {f f1 f2 : Addr} {fd fd1 fd2 : FuncData} (F : L2.Fun K "is_pair" "is_pair" sIsPair f fd) (T : Txt mg) (mT : mg "tuple" = none)
    (G1 : FnOk P w K mg base CX0 1 f1 fd1 ["value"] (spIsLetterA K)) (m1 : mg "is_letter" = some (.ref f1)) (k1 : PySem.W.keepIn K (.ref f1) = true) (b1 : L2.Binds K fd1 ["value"] [])
    (G2 : FnOk P w K mg base CX0 2 f2 fd2 ["value", "low", "high"] (spFromToA K)) (m2 : mg "is_from_to" = some (.ref f2)) (k2 : PySem.W.keepIn K (.ref f2) = true) (b2 : L2.Binds K fd2 ["value", "low", "high"] []) :
    FnOk P w K mg base CX0 3 f fd ["value"] (spIsPairA K) := by
  refine F.ok scIsPair (fun vs H Q E h => ?_) (fun cdv A outer s H vs Q E hr h => ?_)
  · obtain ⟨x, b, rfl, _⟩ := h
    rfl
  · obtain ⟨x, b, rfl, how, k⟩ := h
    refine ⟨_, pss_one (ps_ret (pe_and (bIsi (by rfl) T.isi (pv 0) (pe_bltn (v := .ty "tuple") (by rfl) mT (by decide +kernel) rfl)) (pe_and (pe_cmpR op_eq (bLen (by rfl) T.len (pv 0)) pe_int (nomark _))
      (pe_and (pe_call G1 (hr.mono (by decide)) (by rfl) m1 k1 b1 .nil pass0 (pa_cons (bIxT (pv 0) pe_int) pa_nil)) (pe_one (pe_call G2 hr (by rfl) m2 k2 b2 .nil pass0 (pa_cons (bIxT (pv 0) pe_int) (pa_cons pe_int (pa_cons pe_int pa_nil)))))))) ), ?_⟩
    rcases how with ⟨t, u, v, b1, o2, rfl, ht, hu, hv, rfl⟩ | ⟨rfl, ⟨t, xs, rfl, ht, l2⟩ | ⟨ty', ty, no⟩⟩
    · refine ⟨_, rfl, .ref t, .ty "tuple", _, _, true, rfl, .ty "tuple", .base (.tup ht), kit_ty (by decide +kernel), true, rfl, iteT ?_⟩
      refine ⟨_, rfl, _, 2, rfl, .inr ⟨_, SqT.of ht, rfl⟩, rfl, true, rfl, iteT ?_⟩
      refine ⟨_, rfl, t, _, 0, _, rfl, rfl, SqT.of ht, rfl, u, b1, rfl, hu, b1, rfl, ?_⟩
      cases b1 with
      | false => exact iteF k
      | true => exact iteT ⟨_, rfl, t, _, 1, _, rfl, rfl, SqT.of ht, rfl, v, o2, 0, 9, rfl, hv, by rw [Bool.true_and] at k; exact k⟩
    · refine ⟨_, rfl, .ref t, .ty "tuple", _, _, true, rfl, .ty "tuple", .base (.tup ht), kit_ty (by decide +kernel), true, rfl, iteT ?_⟩
      refine ⟨_, rfl, _, xs.length, rfl, .inr ⟨_, SqT.of ht, rfl⟩, rfl, _, rfl, ?_⟩
      rw [decide_eq_false (by intro q; injection q with q; omega)]
      exact iteF k
    · exact ⟨_, rfl, x, .ty "tuple", _, _, false, rfl, .ty "tuple", ty, no, false, rfl, iteF k⟩
end
end Kx


set_option Elab.async false
set_option maxRecDepth 100000
set_option autoImplicit false
/-! Weights.__init__ of any entries -/
namespace Kx
open PySem L2 PySem.Spec PyProof.Rows Rg Er Ru Tn
abbrev sWInit : Stmt := inClass (top 34) 0
/-- at t a pair of a letter and a weight -/
def PairAt (H : Hp) (t : Addr) (c : Nat) (n : Int) : Prop := H t = some (.tup [.str ⟨#[c]⟩, .int n]) ∧ c ∈ abc.cps.toList ∧ 0 ≤ n ∧ n ≤ 9
theorem g12 : ¬ (("_signs" : Str) = "pairs") := by decide +kernel
def wf1 (z : Str) : List (Str × V) := putF "_signs" (.str z) []
def wf (z : Str) (p : Addr) : List (Str × V) := putF "pairs" (.ref p) (wf1 z)
theorem wf_signs (z : Str) (p : Addr) : (wf z p).lookup ("_signs" : Str) = some (.str z) := by
  unfold wf wf1
  rw [lookup_putF, if_neg g12, lookup_putF, if_pos rfl]
theorem wf_pairs (z : Str) (p : Addr) : (wf z p).lookup ("pairs" : Str) = some (.ref p) := by
  unfold wf
  rw [lookup_putF, if_pos rfl]
theorem PairAt.same {H H' : Hp} {t : Addr} {c : Nat} {n : Int} (h : PairAt H t c n) (e : Same H H') : PairAt H' t c n := ⟨e _ _ h.1, h.2⟩
structure WT (K : PySem.W.Frag) (C : Addr) : Prop where
  cl : Cls K C
  n1 : NoAttr K C "_signs"
  n2 : NoAttr K C "pairs"
theorem Same.putNew' {H H' : Hp} {q : Addr} {o : HO} (h : H' q = none) (e : Same H H') : Same H (upd H' q o) := fun b u z => by rw [upd_ne (ne_of_none (e _ _ z) h)]; exact e _ _ z
/-- pairs of letters and weights -/
def PairsD (H : Hp) (xs : List V) (es : List (Nat × Int)) : Prop := xs.length = es.length ∧ ∀ (i : Nat) (e : Nat × Int), es[i]? = some e → ∃ t, xs[i]? = some (.ref t) ∧ PairAt H t e.1 e.2
theorem PairsD.mono {H H' : Hp} {xs : List V} {es : List (Nat × Int)} (h : PairsD H xs es) (e : ∀ t c n, PairAt H t c n → PairAt H' t c n) : PairsD H' xs es := ⟨h.1, fun i c q => let ⟨t, a, b⟩ := h.2 i c q; ⟨t, a, e _ _ _ b⟩⟩
def letters (es : List (Nat × Int)) : Str := ⟨(es.map (·.1)).toArray⟩
/-- at a the weights of these pairs, whose tuple holds xs -/
def Wts (C : Addr) (H : Hp) (a : Addr) (es : List (Nat × Int)) (xs : List V) : Prop := ∃ dx p, H a = some (.ins C dx (wf (letters es) p)) ∧ H p = some (.tup xs) ∧ PairsD H xs es
theorem Wts.same {C a : Addr} {H H' : Hp} {es : List (Nat × Int)} {xs : List V} (h : Wts C H a es xs) (e : Same H H') : Wts C H' a es xs := let ⟨dx, p, h1, h2, h3⟩ := h; ⟨dx, p, e _ _ h1, e _ _ h2, h3.mono fun _ _ _ q => q.same e⟩
def spStar (n : Nat) (sp : Sp) : Sp := fun vs H Q E => ∃ ws rest, vs = ws ++ rest ∧ ws.length = n ∧ rest.length ≤ sizeLine ∧ ∀ p, H p = Option.none → sp (ws ++ [V.ref p]) (upd H p (.tup rest)) Q E
/-- lists stay lists, tuples stay as they are -/
structure KeepT (H H' : Hp) : Prop where
  l : ∀ q xs, H q = some (.lst xs) → ∃ ys, H' q = some (.lst ys)
  t : ∀ q xs, H q = some (.tup xs) → H' q = some (.tup xs)
theorem Same.keepT {H H' : Hp} (e : Same H H') : KeepT H H' := ⟨fun q xs h => ⟨xs, e _ _ h⟩, fun q xs h => e _ _ h⟩
theorem KeepT.trans {H H1 H2 : Hp} (a : KeepT H H1) (b : KeepT H1 H2) : KeepT H H2 := ⟨fun q xs h => let ⟨_, h1⟩ := a.l q xs h; b.l q _ h1, fun q xs h => b.t q _ (a.t q xs h)⟩
theorem KeepT.put {H : Hp} {q : Addr} {xs ys : List V} (h : H q = some (.lst xs)) : KeepT H (upd H q (.lst ys)) := by
  refine ⟨fun r zs hr => ?_, fun r zs hr => ?_⟩
  · by_cases e : r = q
    · subst e; exact ⟨ys, upd_same⟩
    · exact ⟨zs, by rw [upd_ne e]; exact hr⟩
  · have e : r ≠ q := by rintro rfl; rw [h] at hr; cases hr
    rw [upd_ne e]; exact hr
theorem Ink.keepT {c p : Addr} {n m : Nat} {H H' : Hp} (pen : PenAt c m H p) (i : Ink c p n H H') : KeepT H H' := by
  refine ⟨fun r zs hr => ?_, fun r zs hr => ?_⟩
  · by_cases e : r = p
    · subst e
      obtain ⟨ns, x, g, h1, _⟩ := i.2
      exact ⟨_, h1⟩
    · exact ⟨zs, i.1 _ _ e hr⟩
  · have e : r ≠ p := by
      rintro rfl
      obtain ⟨ns, x, g, h1, _⟩ := pen
      rw [h1] at hr; cases hr
    exact i.1 _ _ e hr
theorem PairAt.keep {H H' : Hp} {t : Addr} {c : Nat} {n : Int} (h : PairAt H t c n) (e : KeepT H H') : PairAt H' t c n := ⟨e.t _ _ h.1, h.2⟩
/-- equal to itself wherever it stands in a list -/
def Sm (v : V) : Prop := flatB v = true ∨ ∃ c, v = .ref c
def EntX (K : PySem.W.Frag) (H : Hp) (v : V) (o : Option (Nat × Int)) : Prop := (∃ t c n, v = .ref t ∧ PairAt H t c n ∧ o = some (c, n)) ∨ (o = none ∧ Sm v ∧ ∀ H', KeepT H H' → PrX K H' v false)
theorem EntX.keep {K : PySem.W.Frag} {H H' : Hp} {v : V} {o : Option (Nat × Int)} (h : EntX K H v o) (e : KeepT H H') : EntX K H' v o := by
  rcases h with ⟨t, c, n, rfl, p, rfl⟩ | ⟨rfl, sm, p⟩
  · exact .inl ⟨t, c, n, rfl, p.keep e, rfl⟩
  · exact .inr ⟨rfl, sm, fun H2 e2 => p H2 (e.trans e2)⟩
theorem EntX.same {K : PySem.W.Frag} {H H' : Hp} {v : V} {o : Option (Nat × Int)} (h : EntX K H v o) (e : Same H H') : EntX K H' v o := h.keep (Same.keepT e)
def Ents (K : PySem.W.Frag) (H : Hp) (xs : List V) (os : List (Option (Nat × Int))) : Prop := xs.length = os.length ∧ ∀ (i : Nat) (o : Option (Nat × Int)), os[i]? = some o → ∃ v, xs[i]? = some v ∧ EntX K H v o
/-- the first entry that is refused -/
def badFrom : Nat → List Nat → List (Option (Nat × Int)) → Option Nat
  | _, _, [] => none
  | i, _, none :: _ => some i
  | i, seen, some (c, _) :: r => if c ∈ seen then some i else badFrom (i + 1) (seen ++ [c]) r
def spWInitA (K : PySem.W.Frag) (C CB : Addr) : Sp := fun vs H Q E => ∃ (a dx p : Addr) (xs : List V) (os : List (Option (Nat × Int))), vs = [.ref a, .ref p] ∧ H a = some (.ins C dx []) ∧ H p = some (.tup xs) ∧ Ents K H xs os ∧
  (¬ (1 ≤ xs.length ∧ xs.length ≤ 4) → raised CB "part" (.str "many") E H) ∧
  (1 ≤ xs.length ∧ xs.length ≤ 4 → match badFrom 0 [] os with
    | some i => ∀ H', Same H H' → raised CB "part" (.int (i : Nat)) E H'
    | none => ∀ es H', os = es.map some → Ext1 a H H' → Wts C H' a es xs → Q .non H')
section
variable {P : Program} {w : World} {K : PySem.W.Frag} {mg : Str → Option Value} {base : Heap}
theorem scWInit : FnScope ["self", "pairs", "signs", "at", "pair"] ["self", "pairs"] (defScope sWInit) := ⟨rfl, rfl, rfl, by decide +kernel, rfl, by decide +kernel, by decide +kernel⟩
theorem starOkX {x qual pv : Str} {st : Stmt} {f : Addr} {fd : FuncData} {N ps : List Str} {k : Nat} {sp : Sp} (F : L2.Fun K x qual st f fd) (S : FnScope N (ps ++ [pv]) (defScope st))
    (hb : ∀ (kV doc pm : Value) (an : Option Addr) (cdv ct : Value) (us rest : List Value), us.length = ps.length → bindArgs (PySem.W.fnOf x qual (defArgs st) (defBody st) (defScope st) .none kV doc pm an cdv ct) ⟨us ++ rest, []⟩ = (newTuple rest >>= fun t => pure (ps.zip us ++ [(pv, t)])))
    (hbody : ∀ (cdv : Value) (A : Around) (outer : List Env) (s : Shared) (H : Hp) (vs : List V) (Q : VK) (E : XK), Room k (A.deeper (envOfC qual (defScope st) s.heap.objs.size f cdv)) → sp vs H Q E →
      ∃ t, PSs (cxOf (L2.CX P w) P w K mg base N qual (defScope st) f cdv A outer s H E) (defBody st) t ∧ t { nx := fun _ H' => Q .non H', rt := Q } (L2.start N vs) H) : FnR P w K mg base (L2.CX P w) (k + 1) f (spStar ps.length sp) := by
  obtain ⟨oc, od, kV, doc, pm, an, cdv, ct, osl, rfl, lk, hcd⟩ := F.ex
  exact StX.fn_star lk hcd S StX.cxUp (hb kV doc pm an cdv ct) fun A outer s H vs Q E hr hsp => hbody cdv A outer s H vs Q E hr hsp
theorem ok_wInitA {C CB f f1 f2 : Addr} {fd fd1 fd2 : FuncData} (F : L2.Fun K "__init__" "Weights.__init__" sWInit f fd) (T : Txt mg) (M : WT K C) (R : ErrB P w K mg base "BadSigns" "part" CB) (mE : mg "enumerate" = none)
    (G1 : FnOk P w K mg base CX0 2 f1 fd1 ["value", "low", "high"] (spFromToA K)) (m1 : mg "is_from_to" = some (.ref f1)) (k1 : PySem.W.keepIn K (.ref f1) = true) (b1 : L2.Binds K fd1 ["value", "low", "high"] [])
    (G2 : FnOk P w K mg base CX0 3 f2 fd2 ["value"] (spIsPairA K)) (m2 : mg "is_pair" = some (.ref f2)) (k2 : PySem.W.keepIn K (.ref f2) = true) (b2 : L2.Binds K fd2 ["value"] []) :
    FnR P w K mg base (L2.CX P w) 4 f (spStar 1 (spWInitA K C CB)) := by
  obtain ⟨fi, fdi, psi, r1, r2, r3, r4⟩ := R.init
  refine starOkX (N := ["self", "pairs", "signs", "at", "pair"]) (ps := ["self"]) (pv := "pairs") (sp := spWInitA K C CB) F scWInit (fun kV doc pm an cdv ct => StX.bind_star1 (B := fun us => bindArgs (PySem.W.fnOf "__init__" "Weights.__init__" (defArgs sWInit) (defBody sWInit) (defScope sWInit) .none kV doc pm an cdv ct) ⟨us, []⟩) (fun a => rfl) (fun a r rs => rfl)) (fun cdv A outer s H vs Q E hr h => ?_)
  obtain ⟨a, dx, p, xs, os, rfl, ha, hp, ents, many, good⟩ := h
  have nd := scWInit.nd
  have hr2 := hr.mono (show 2 ≤ 3 by decide)
  have tk := takes_of (X := cxOf (L2.CX P w) P w K mg base ["self", "pairs", "signs", "at", "pair"] "Weights.__init__" (defScope sWInit) f cdv A outer s H E) rfl rfl rfl rfl
  refine ⟨_, pss_cons (ps_if (pt_not (pt_val (pe_call G1 hr2 (by rfl) m1 k1 b1 .nil pass0 (pa_cons (bLen (by rfl) T.len (pv 1)) (pa_cons pe_int (pa_cons pe_int pa_nil)))))) (pss_one (ps_raise1 rfl tk R.O r1 r2 r3 hr2 r4 (by rfl) R.mgC pe_str)) pss_nil)
    (pss_cons (ps_set (i := 2) nd rfl (.inl rfl) pe_str)
    (pss_cons (ps_for (passes_of (X := cxOf (L2.CX P w) P w K mg base ["self", "pairs", "signs", "at", "pair"] "Weights.__init__" (defScope sWInit) f cdv A outer s H E) rfl) rfl (pi_enumT (by rfl) mE (pa_cons (pv 1) pa_nil)) (pg_tup rfl (pgs_cons (pg_name (i := 3) nd rfl (.inl rfl)) (pgs_cons (pg_name (i := 4) nd rfl (.inl rfl)) pgs_nil)))
      (pss_cons (ps_if (PW.pt (pw_or (pt_not (pt_val (pe_call G2 hr (by rfl) m2 k2 b2 .nil pass0 (pa_cons (pv 4) pa_nil)))) (pw_or1 (pt_cmpR op_in_sign (bIxT (pv 4) pe_int) (pv 2) rfl)))) (pss_one (ps_raise1 rfl tk R.O r1 r2 r3 hr2 r4 (by rfl) R.mgC (pv 3))) pss_nil)
      (pss_one (ps_set (i := 2) nd rfl (.inl rfl) (pe_op op_add_str (pv 2) (bIxT (pv 4) pe_int))))))
    (pss_cons (ps_fld (pv 0) (pv 2) rfl) (pss_one (ps_fld (pv 0) (pv 1) rfl))))), ?_⟩
  have hl := ents.1
  refine ⟨_, rfl, _, xs.length, rfl, .inr ⟨_, SqT.of hp, rfl⟩, _, some (xs.length : Int), 1, 4, rfl, .inl ⟨_, rfl, rfl⟩, _, rfl, ?_⟩
  by_cases hc : 1 ≤ xs.length ∧ xs.length ≤ 4
  · have e : inB 1 4 (some (xs.length : Int)) = true := by
      show (decide ((1 : Int) ≤ (xs.length : Int)) && decide ((xs.length : Int) ≤ 4)) = true
      simp
      omega
    rw [e]
    refine iteF ⟨_, rfl, ?_⟩
    have good := good hc
    refine ⟨p, xs, rfl, SqT.of hp, for_it walk_enumT (fun j σ' H' => ∃ (es : List (Nat × Int)) (y1 y2 : Option V), σ' = [some (.ref a), some (.ref p), some (.str (letters es)), y1, y2] ∧ Same H H' ∧ es.length = j ∧ badFrom 0 [] os = badFrom j (es.map (·.1)) (os.drop j) ∧ ∀ (i : Nat) (e : Nat × Int), es[i]? = some e → ∃ t, xs[i]? = some (.ref t) ∧ PairAt H t e.1 e.2 ∧ os[i]? = some (some e))
      ⟨[], none, none, rfl, Same.refl H, rfl, rfl, fun i c q => by simp at q⟩ (fun j σ' H' _ ⟨_, _, _, _, q, _⟩ => SqT.of (q _ _ hp)) ?_ ?_⟩
    · rintro j x σ' H' H2 hj ⟨es, y1, y2, rfl, s0, lj, ej, prs⟩ ⟨t0, u1, u2, rfl, ht0, rfl, e1, e2⟩
      cases e1
      have hj' : j < os.length := by omega
      replace e2 : xs[j]? = some u2 := e2
      obtain ⟨o, ho⟩ : ∃ o, os[j]? = some o := ⟨_, List.getElem?_eq_getElem hj'⟩
      obtain ⟨v, hv, ev⟩ := ents.2 j o ho
      rw [e2] at hv
      cases hv
      have s1 : Same H (upd H' t0 (.tup [.int (j : Nat), u2])) := Same.putNew' ht0 s0
      refine ⟨t0, _, rfl, SqT.of upd_same, rfl, _, _, rfl, _, _, rfl, rfl, ?_⟩
      generalize upd H' t0 (.tup [.int (j : Nat), u2]) = H3 at s1 ⊢
      have ev3 := ev.same s1
      have dr : os.drop j = o :: os.drop (j + 1) := by
        rw [List.drop_eq_getElem_cons hj']
        congr 1
        rw [List.getElem?_eq_getElem hj'] at ho
        exact Option.some.inj ho
      have raise : badFrom j (es.map (·.1)) (os.drop j) = some j → raised CB "part" (.int (j : Nat)) E H3 := fun q => by
        rw [ej, q] at good
        exact good H3 s1
      rcases ev3 with ⟨t, c, n, rfl, pt, rfl⟩ | ⟨rfl, _, pr⟩
      · have lt : lt1 (⟨#[c]⟩ : Str) = true := decide_eq_true pt.2.1
        have ib : inB 0 9 (some n) = true := by
          show (decide ((0 : Int) ≤ n) && decide (n ≤ 9)) = true
          simp [pt.2.2.1, pt.2.2.2]
        refine ⟨_, rfl, .ref t, true, rfl, .inl ⟨t, _, _, true, some n, rfl, pt.1, .inl ⟨⟨#[c]⟩, rfl, by show 1 ≤ 1000; decide, lt.symm⟩, .inl ⟨n, rfl, rfl⟩, by rw [ib]; rfl⟩, true, rfl, iteF ?_⟩
        refine ⟨_, rfl, t, _, 0, _, rfl, rfl, SqT.of pt.1, rfl, _, rfl, c, _, rfl, rfl, _, rfl, ?_⟩
        have mem : (c ∈ (letters es).cps.toList) ↔ c ∈ es.map (·.1) := by unfold letters; rw [List.toList_toArray]
        by_cases hm : c ∈ es.map (·.1)
        · rw [decide_eq_true (mem.mpr hm)]
          refine iteT ⟨_, rfl, raise ?_⟩
          rw [dr]
          show (if c ∈ es.map (·.1) then some j else _) = some j
          rw [if_pos hm]
        · rw [decide_eq_false (fun q => hm (mem.mp q))]
          refine iteF ⟨_, rfl, _, rfl, t, _, 0, _, rfl, rfl, SqT.of pt.1, rfl, _, _, rfl, rfl, ?_, ?_⟩
          · show (es.map (·.1)).toArray.size + 1 ≤ sizeLine
            rw [List.size_toArray, List.length_map, sizeLine_eq]
            omega
          · refine ⟨es ++ [(c, n)], some (.int (j : Nat)), some (.ref t), ?_, s1, by rw [List.length_append, lj]; rfl, ?_, ?_⟩
            · show [some (V.ref a), some (V.ref p), some (V.str (letters es ++ (⟨#[c]⟩ : Str))), some (V.int (j : Nat)), some (V.ref t)] = _
              have ea : (letters es ++ (⟨#[c]⟩ : Str)) = letters (es ++ [(c, n)]) := by
                unfold letters
                rw [List.map_append]
                show (⟨(es.map (·.1)).toArray ++ #[c]⟩ : Str) = _
                simp
              rw [ea]
            · rw [ej, dr]
              show (if c ∈ es.map (·.1) then some j else badFrom (j + 1) (es.map (·.1) ++ [c]) (os.drop (j + 1))) = _
              rw [if_neg hm, List.map_append]
              rfl
            · intro i c' hi
              by_cases lt' : i < es.length
              · rw [List.getElem?_append_left lt'] at hi
                exact prs i c' hi
              · rw [List.getElem?_append_right (by omega)] at hi
                have i0 : i - es.length = 0 := by
                  cases z : i - es.length with
                  | zero => rfl
                  | succ m => rw [z] at hi; simp at hi
                rw [i0] at hi
                have ec : (c, n) = c' := by simpa using hi
                have ei : i = j := by omega
                subst ec ei
                rcases ev with ⟨t', c', n', e', p', q'⟩ | ⟨q', _⟩
                · cases e'
                  cases q'
                  exact ⟨t, e2, p', ho⟩
                · cases q'
      · refine ⟨_, rfl, u2, false, rfl, pr _ (Same.keepT (Same.refl _)), false, rfl, iteT ⟨_, rfl, raise ?_⟩⟩
        rw [dr]
        rfl
    · rintro σ' H' ⟨es, y1, y2, rfl, s0, lj, ej, prs⟩
      have dn : os.drop xs.length = [] := List.drop_eq_nil_of_le (by omega)
      rw [ej, dn] at good
      have good' : ∀ es' H', os = es'.map some → Ext1 a H H' → Wts C H' a es' xs → Q .non H' := good
      have ec : os = es.map some := by
        refine List.ext_getElem? fun i => ?_
        rw [List.getElem?_map]
        by_cases hi : i < es.length
        · obtain ⟨t, _, _, h3⟩ := prs i es[i] (List.getElem?_eq_getElem hi)
          rw [h3, List.getElem?_eq_getElem hi]
          rfl
        · rw [List.getElem?_eq_none (by omega), List.getElem?_eq_none (by omega)]
          rfl
      refine ⟨_, rfl, _, rfl, a, C, dx, [], rfl, s0 _ _ ha, M.cl, M.n1, by show 0 < 1000; decide, ?_⟩
      refine ⟨_, rfl, _, rfl, a, C, dx, _, rfl, upd_same, M.cl, M.n2, by show 1 < 1000; decide, ?_⟩
      have na : p ≠ a := by rintro rfl; rw [hp] at ha; cases ha
      have pl : PairsD H xs es := ⟨by omega, fun i c hi => let ⟨t, h1, h2, _⟩ := prs i c hi; ⟨t, h1, h2⟩⟩
      refine good' es _ ec (Ext1.trans (Same.ext1 a s0) (Ext1.trans Ext1.put Ext1.put)) ⟨dx, p, upd_same, ?_, pl.mono fun t c n q => ⟨?_, q.2⟩⟩
      · rw [upd_ne na, upd_ne na]; exact s0 _ _ hp
      · have nt : t ≠ a := by rintro rfl; rw [q.1] at ha; cases ha
        rw [upd_ne nt, upd_ne nt]; exact s0 _ _ q.1
  · have e : inB 1 4 (some (xs.length : Int)) = false := by
      show (decide ((1 : Int) ≤ (xs.length : Int)) && decide ((xs.length : Int) ≤ 4)) = false
      cases h1 : decide ((1 : Int) ≤ (xs.length : Int)) with
      | false => rfl
      | true =>
        have := of_decide_eq_true h1
        rw [decide_eq_false (by omega)]
        rfl
    rw [e]
    exact iteT (many hc)
end
end Kx


set_option Elab.async false
set_option maxRecDepth 100000
set_option autoImplicit false
/-! Weights.of, signs, len, in, [ ] -/
namespace Kx
open PySem L2 PySem.Spec PyProof.Rows Rg Er Ru Tn
abbrev sWOf : Stmt := inClass (top 34) 1
abbrev sWSigns : Stmt := inClass (top 34) 2
theorem made_same {C x dx : Addr} {H : Hp} (hx : H x = none) (hd : H dx = none) : Same H (upd (upd H dx (.own x)) x (.ins C dx [])) := fun b o e => by
  rw [upd_ne (ne_of_none e hx), upd_ne (ne_of_none e hd)]
  exact e
theorem same_ext1 {x : Addr} {H H1 H2 : Hp} (hx : H x = none) (a : Same H H1) (b : Ext1 x H1 H2) : Same H H2 := fun c o e => b c o (ne_of_none e hx) (a c o e)
theorem Ents.same {K : PySem.W.Frag} {H H' : Hp} {xs : List V} {os : List (Option (Nat × Int))} (h : Ents K H xs os) (e : Same H H') : Ents K H' xs os := ⟨h.1, fun i o q => let ⟨v, a, b⟩ := h.2 i o q; ⟨v, a, b.same e⟩⟩
def spWOfA (K : PySem.W.Frag) (C CB : Addr) : Sp := fun vs H Q E => ∃ (l : Addr) (xs : List V) (os : List (Option (Nat × Int))), vs = [.ref C, .ref l] ∧ Sq H l xs ∧ Ents K H xs os ∧ xs.length ≤ 1000 ∧
  (¬ (1 ≤ xs.length ∧ xs.length ≤ 4) → ∀ H', Same H H' → raised CB "part" (.str "many") E H') ∧
  (1 ≤ xs.length ∧ xs.length ≤ 4 → match badFrom 0 [] os with
    | some i => ∀ H', Same H H' → raised CB "part" (.int (i : Nat)) E H'
    | none => ∀ es H' a, os = es.map some → Same H H' → Wts C H' a es xs → Q (.ref a) H')
section
variable {P : Program} {w : World} {K : PySem.W.Frag} {mg : Str → Option Value} {base : Heap}
theorem scWOf : FnScope ["cls", "pairs"] ["cls", "pairs"] (defScope sWOf) := ⟨rfl, rfl, rfl, by decide +kernel, rfl, by decide +kernel, by decide +kernel⟩
theorem ok_wOfA {C CB f g : Addr} {fd : FuncData} (F : L2.Fun K "of" "Weights.of" sWOf f fd) (M : Mk K C g) (G : FnR P w K mg base (L2.CX P w) 4 g (spStar 1 (spWInitA K C CB))) : FnOk P w K mg base (L2.CX P w) 6 f fd ["cls", "pairs"] (spWOfA K C CB) := by
  refine F.okX scWOf (fun vs H Q E h => ?_) (fun cdv A outer s H vs Q E hr h => ?_)
  · obtain ⟨l, xs, os, rfl, _⟩ := h
    rfl
  · obtain ⟨l, xs, os, rfl, hl, es, few, many, good⟩ := h
    have tk := takes_of (X := cxOf (L2.CX P w) P w K mg base ["cls", "pairs"] "Weights.of" (defScope sWOf) f cdv A outer s H E) rfl rfl rfl rfl
    refine ⟨_, pss_one (ps_ret (pe_makeV1 M G hr (passes_call tk fun _ _ _ _ h => h) (pv 0) (pv 1))), ?_⟩
    refine ⟨_, rfl, rfl, _, rfl, l, xs, rfl, hl.elim (fun q => .inr (SqL.of q)) (fun q => .inl (SqT.of q)), fun x dx hx hd ne => ⟨[.ref x], xs, rfl, rfl, by rw [sizeLine_eq]; omega, fun p hp => ?_⟩⟩
    have s1 : Same H (upd (upd H dx (.own x)) x (.ins C dx [])) := made_same hx hd
    have s2 : Same H (upd (upd (upd H dx (.own x)) x (.ins C dx [])) p (.tup xs)) := Same.putNew' hp s1
    refine ⟨x, dx, p, xs, os, rfl, ?_, upd_same, es.same s2, fun h => many h _ s2, fun h => ?_⟩
    · rw [upd_ne (ne_of_none upd_same hp)]
      exact upd_same
    · have g := good h
      cases e : badFrom 0 [] os with
      | some i =>
        rw [e] at g
        exact fun H' s3 => g H' (Same.trans s2 s3)
      | none =>
        rw [e] at g
        exact fun es' H' ec e1 wt => ⟨rfl, g es' H' x ec (same_ext1 hx s2 e1) wt⟩
theorem scWSigns : FnScope ["self"] ["self"] (defScope sWSigns) := ⟨rfl, rfl, rfl, by decide +kernel, rfl, by decide +kernel, by decide +kernel⟩
theorem ok_wSigns {C f : Addr} {fd : FuncData} (F : L2.Fun K "signs" "Weights.signs" sWSigns f fd) (M : WT K C) : FnOk P w K mg base CX0 1 f fd ["self"] (getSp C "_signs") := by
  refine F.ok scWSigns (fun vs H Q E h => ?_) (fun cdv A outer s H vs Q E hr h => ?_)
  · obtain ⟨a, dx, fs, v, rfl, _⟩ := h
    rfl
  · obtain ⟨a, dx, fs, v, rfl, e, l, q⟩ := h
    exact ⟨_, pss_one (ps_ret (pe_fld (pv 0) rfl)), _, rfl, a, C, dx, fs, v, rfl, e, M.cl, M.n1, l, q⟩
end
end Kx


set_option Elab.async false
set_option maxRecDepth 100000
set_option autoImplicit false
/-! Weights == -/
namespace Kx
open PySem L2 PySem.Spec PyProof.Rows Rg Er Ru Tn
structure InsT (K : PySem.W.Frag) (C : Addr) : Prop where
  cl : Cls K C
  ha : PySem.W.findIn K (.ref C) "__class__" = some (some (.builtin "object.__class__"))
  hn : PySem.W.specialIn K (.builtin "object.__class__") "__get__" = some (some (.builtin "getset_descriptor.__get__"))
  htk : PySem.W.takesIn K (.builtin "object.__class__") = some true
  hm : PySem.W.mroIn K C (.type "object") = some true
theorem InsT.ty {K : PySem.W.Frag} {C a dx : Addr} {H : Hp} {fs : List (Str × V)} (T : InsT K C) (e : H a = some (.ins C dx fs)) : TyX K H (.ref a) (.ref C) := .base (.ins e T.cl T.ha T.hn T.htk T.hm)
theorem abc_lt {c : Nat} (h : c ∈ abc.cps.toList) : c < 0x110000 := by
  have q : abc.cps.toList.all (fun c => decide (c < 0x110000)) = true := by decide +kernel
  exact of_decide_eq_true (List.all_eq_true.mp q c h)
theorem PairsD.abc {H : Hp} {xs : List V} {es : List (Nat × Int)} (h : PairsD H xs es) : ∀ e ∈ es, e.1 ∈ abc.cps.toList := fun e he => by
  obtain ⟨i, hi⟩ := List.mem_iff_getElem?.mp he
  obtain ⟨t, _, p⟩ := h.2 i e hi
  exact p.2.1
section
variable {P : Program} {w : World} {K : PySem.W.Frag} {mg : Str → Option Value} {base : Heap}
end
end Kx


set_option Elab.async false
set_option maxRecDepth 100000
set_option autoImplicit false
set_option pp.maxSteps 400
set_option pp.deepTerms false
/-! weights of rows, and the rows one behind the other -/
namespace Kx
open PySem PySem.StrLaws PySem.Builtin PySem.Builtin.Str
theorem cnt_run (s : Str) (c limit : Nat) : ∀ (m cur : Nat) (st : Array Nat × Nat), st.snd ≤ cur → cur + m = s.length + 1 → st.fst.size + m ≤ limit →
    (forIn (List.range' cur m) st (occBody s ⟨#[c]⟩ s.length limit)).run.fst.size = st.fst.size + (s.cps.toList.drop cur).count c
  | 0, cur, st, h1, h2, h3 => by
    have : s.cps.toList.drop cur = [] := List.drop_eq_nil_of_le (by show s.cps.toList.length ≤ cur; rw [Array.length_toList]; show s.length ≤ cur; omega)
    rw [this]
    rfl
  | m + 1, cur, st, h1, h2, h3 => by
    rw [List.range'_succ, List.forIn_cons]
    unfold occBody
    have one : (⟨#[c]⟩ : Str).length = 1 := rfl
    split
    · rename_i hc
      have at_ := (subAt_one s c cur).mp ⟨hc.1.2, hc.2⟩
      obtain ⟨lt, e⟩ := List.getElem?_eq_some_iff.mp at_
      rw [List.drop_eq_getElem_cons lt, e, List.count_cons_self]
      have := cnt_run s c limit m (cur + 1) (st.fst.push cur, cur + (⟨#[c]⟩ : Str).length) (by rw [one]; exact Nat.le_refl _) (by omega) (by show (st.fst.push cur).size + m ≤ limit; rw [Array.size_push]; omega)
      refine this.trans ?_
      show (st.fst.push cur).size + _ = _
      rw [Array.size_push]; omega
    · rename_i hc
      have := cnt_run s c limit m (cur + 1) (st.fst, st.snd) (by show st.snd ≤ cur + 1; omega) (by omega) (by show st.fst.size + m ≤ limit; omega)
      refine this.trans ?_
      show st.fst.size + _ = _
      by_cases lt : cur < s.cps.toList.length
      · rw [List.drop_eq_getElem_cons lt, List.count_cons_of_ne]
        intro e
        have q := (subAt_one s c cur).mpr (List.getElem?_eq_some_iff.mpr ⟨lt, by first | exact e | exact e.symm⟩)
        exact hc ⟨⟨⟨by show st.fst.size < limit; omega, h1⟩, q.1⟩, q.2⟩
      · rw [List.drop_eq_nil_of_le (by omega), List.drop_eq_nil_of_le (by omega)]
theorem count_one (s : Str) (c : Nat) : Txt.count s ⟨#[c]⟩ = ((s.cps.toList.count c : Nat) : Int) := by
  unfold Txt.count
  rw [occ_eq, Array.length_toList]
  have := cnt_run s c (s.length + 1) (s.length + 1) 0 ((#[] : Array Nat), 0) (Nat.le_refl _) (by omega) (by show 0 + (s.length + 1) ≤ s.length + 1; omega)
  rw [show s.length + 1 - 0 = s.length + 1 from rfl, this, List.drop_zero]
  show ((0 + _ : Nat) : Int) = _
  rw [Nat.zero_add]
/-- the weight of a row by its signs -/
def wtC (es : List (Nat × Int)) (l : List Nat) : Int := (es.map fun e => e.2 * ((l.count e.1 : Nat) : Int)).sum
def wtS (es : List (Nat × Int)) (l : List Nat) : Int := (l.map fun c => (es.lookup c).getD 0).sum
theorem wtC_nil : ∀ (es : List (Nat × Int)), wtC es [] = 0
  | [] => rfl
  | e :: r => by
    have := wtC_nil r
    unfold wtC at this ⊢
    rw [List.map_cons, List.sum_cons, this]
    simp
theorem wtC_cons_no : ∀ {es : List (Nat × Int)} {c : Nat} {l : List Nat}, c ∉ es.map (·.1) → wtC es (c :: l) = wtC es l
  | [], _, _, _ => rfl
  | e :: r, c, l, h => by
    rw [List.map_cons, List.mem_cons] at h
    have ih := wtC_cons_no (es := r) (c := c) (l := l) fun z => h (.inr z)
    unfold wtC at ih ⊢
    rw [List.map_cons, List.sum_cons, List.map_cons, List.sum_cons, ih, List.count_cons_of_ne (fun z => h (.inl z))]
theorem wtC_cons : ∀ {es : List (Nat × Int)} {c : Nat} {l : List Nat}, (es.map (·.1)).Nodup → c ∈ es.map (·.1) → wtC es (c :: l) = (es.lookup c).getD 0 + wtC es l
  | [], _, _, _, h => by cases h
  | e :: r, c, l, nd, h => by
    rw [List.map_cons, List.nodup_cons] at nd
    by_cases q : c = e.1
    · subst q
      have ih := wtC_cons_no (es := r) (l := l) nd.1
      unfold wtC at ih ⊢
      rw [List.map_cons, List.sum_cons, List.map_cons, List.sum_cons, ih, List.count_cons_self, show (e :: r).lookup e.1 = some e.2 from by
        obtain ⟨a, b⟩ := e
        simp [List.lookup]]
      show e.2 * ((List.count e.1 l + 1 : Nat) : Int) + _ = e.2 + (e.2 * _ + _)
      rw [Int.natCast_add, Int.mul_add]
      omega
    · have h' : c ∈ r.map (·.1) := (List.mem_cons.mp h).resolve_left q
      have ih := wtC_cons (l := l) nd.2 h'
      unfold wtC at ih ⊢
      rw [List.map_cons, List.sum_cons, List.map_cons, List.sum_cons, ih, List.count_cons_of_ne (fun z => q z), show (e :: r).lookup c = r.lookup c from by
        obtain ⟨a, b⟩ := e
        have : (c == a) = false := by simpa using q
        simp [List.lookup, this]]
      omega
theorem wt_eq {es : List (Nat × Int)} (nd : (es.map (·.1)).Nodup) : ∀ {l : List Nat}, (∀ c ∈ l, c ∈ es.map (·.1)) → wtS es l = wtC es l
  | [], _ => (wtC_nil es).symm
  | c :: l, h => by
    rw [wtC_cons nd (h c List.mem_cons_self), ← wt_eq nd fun d hd => h d (List.mem_cons_of_mem _ hd)]
    rfl
/-! ### rows in order -/
end Kx


set_option Elab.async false
set_option maxRecDepth 100000
set_option autoImplicit false
set_option pp.maxSteps 400
set_option pp.deepTerms false
/-! what is a row; its weight; its place -/
namespace Kx
open PySem L2 PySem.Spec PyProof.Rows Rg Er Ru Tn
abbrev sWrong : Stmt := top 19
abbrev sCheckRow : Stmt := top 20
abbrev sWeigh : Stmt := top 21
def Word (z w : Str) : Prop := ∀ c ∈ w.cps.toList, c ∈ z.cps.toList
theorem take_all (p : Nat → Bool) : ∀ l : List Nat, (∀ c ∈ l, p c = true) → l.takeWhile p = l
  | [], _ => rfl
  | c :: r, h => by
    rw [List.takeWhile_cons, h c List.mem_cons_self, if_pos rfl, take_all p r fun d hd => h d (List.mem_cons_of_mem _ hd)]
theorem strip_word {z w : Str} (h : Word z w) : Txt.lstripChars w z = Str.empty := by
  have e : w.cps.toList.takeWhile z.cps.contains = w.cps.toList := take_all _ _ fun c hc => by
    have q := h c hc
    simpa using q
  have el : w.cps.toList.length = w.length := by simp [Str.length]
  have lo : stripLo z.cps.contains true w = w.length := by unfold stripLo; simp [e, el]
  show Txt.stripBy z.cps.contains true false w = Str.empty
  unfold Txt.stripBy stripSame stripped
  rw [lo]
  have hi : stripHi z.cps.contains false w w.length = w.length := rfl
  rw [hi]
  by_cases q : w.length = 0
  · have e0 : w = Str.empty := by
      obtain ⟨a⟩ := w
      have : a = #[] := Array.eq_empty_of_size_eq_zero q
      subst this; rfl
    subst e0; rfl
  · have f : (w.length == 0) = false := by simpa using q
    rw [f, Bool.false_and, if_neg Bool.false_ne_true]
    show (⟨w.cps.extract w.length w.length⟩ : Str) = Str.empty
    have : w.cps.extract w.length w.length = #[] := by
      simp
      exact Nat.min_le_left _ _
    rw [this]; rfl
def spWrong : Sp := fun vs H Q _ => ∃ z wd : Str, vs = [.str z, .str wd] ∧ Word z wd ∧ wd.length ≤ 1000 ∧ Q .non H
/-- x is no row of the signs z: i is told -/
def Bad (K : PySem.W.Frag) (H : Hp) (z : Str) (x : V) (i : Int) : Prop :=
  (∃ wd : Str, x = .str wd ∧ wd.length ≤ 1000 ∧ Txt.lstripChars wd z ≠ Str.empty ∧ (Txt.lstripChars wd z).length ≤ 1000 ∧ i = (wd.length : Nat) - ((Txt.lstripChars wd z).length : Nat)) ∨ (∃ t, TyX K H x t ∧ PySem.W.kitOne K t (.type "str") = some false ∧ i = 0)
def spWrongB (K : PySem.W.Frag) : Sp := fun vs H Q _ => ∃ (z : Str) (x : V) (i : Int), vs = [.str z, x] ∧ Bad K H z x i ∧ Q (.int i) H
def spCheckB (K : PySem.W.Frag) (C : Addr) : Sp := fun vs H _ E => ∃ (z : Str) (x : V) (i : Int), vs = [.str z, x] ∧ Bad K H z x i ∧ raised C "at" (.int i) E H
section
variable {P : Program} {w : World} {K : PySem.W.Frag} {mg : Str → Option Value} {base : Heap}
theorem scWrong : FnScope ["signs", "value", "rest"] ["signs", "value"] (defScope sWrong) := ⟨rfl, rfl, rfl, by decide +kernel, rfl, by decide +kernel, by decide +kernel⟩
theorem ok_wrong {f : Addr} {fd : FuncData} (F : L2.Fun K "wrong_at" "wrong_at" sWrong f fd) (T : Txt mg) (mS : mg "str" = none) : FnOk P w K mg base CX0 1 f fd ["signs", "value"] spWrong := by
  refine F.ok scWrong (fun vs H Q E h => ?_) (fun cdv A outer s H vs Q E hr h => ?_)
  · obtain ⟨z, wd, rfl, _⟩ := h
    rfl
  · obtain ⟨z, wd, rfl, hw, hl, k⟩ := h
    have nd := scWrong.nd
    refine ⟨_, pss_cons (ps_if (pt_not (pt_val (bIsi (by rfl) T.isi (pv 1) (pe_bltn (v := .ty "str") (by rfl) mS (by decide +kernel) rfl)))) (pss_one (ps_ret pe_int)) pss_nil)
      (pss_cons (ps_set (i := 2) nd rfl (.inl rfl) (pe_bm PySem.F.plainAttrs_str PySem.F.slot_str_lstrip PySem.F.type_str_lstrip mt_lstripChars (pv 1) (pa_cons (pv 0) pa_nil)))
      (pss_cons (ps_if (pt_cmpR op_eq (pv 2) pe_str (nomark _)) (pss_one (ps_ret pe_non)) pss_nil) (pss_one ps_never))), ?_⟩
    refine ⟨_, rfl, .str wd, .ty "str", _, _, true, rfl, .ty "str", .base (.str wd), kit_ty (by decide +kernel), true, rfl, iteF ?_⟩
    refine ⟨_, rfl, rfl, _, rfl, wd, z, rfl, rfl, len_small hl, ?_⟩
    rw [strip_word hw]
    exact ⟨_, rfl, rfl, _, rfl, iteT k⟩
theorem scCheckRow : FnScope ["signs", "value", "at"] ["signs", "value"] (defScope sCheckRow) := ⟨rfl, rfl, rfl, by decide +kernel, rfl, by decide +kernel, by decide +kernel⟩
theorem ok_checkRow {f f1 : Addr} {fd fd1 : FuncData} (F : L2.Fun K "check_row" "check_row" sCheckRow f fd) (G : FnOk P w K mg base CX0 1 f1 fd1 ["signs", "value"] spWrong) (m1 : mg "wrong_at" = some (.ref f1)) (k1 : PySem.W.keepIn K (.ref f1) = true)
    (b1 : L2.Binds K fd1 ["signs", "value"] []) : FnOk P w K mg base CX0 2 f fd ["signs", "value"] spWrong := by
  refine F.ok scCheckRow (fun vs H Q E h => ?_) (fun cdv A outer s H vs Q E hr h => ?_)
  · obtain ⟨z, wd, rfl, _⟩ := h
    rfl
  · obtain ⟨z, wd, rfl, hw, hl, k⟩ := h
    have nd := scCheckRow.nd
    refine ⟨_, pss_cons (ps_set (i := 2) nd rfl (.inl rfl) (pe_call G hr (by rfl) m1 k1 b1 .nil pass0 (pa_cons (pv 0) (pa_cons (pv 1) pa_nil)))) (pss_one (ps_if (pt_cmp (pc_notN (pv 2))) (pss_one ps_never) pss_nil)), ?_⟩
    exact ⟨_, rfl, _, rfl, z, wd, rfl, hw, hl, _, rfl, _, rfl, iteF k⟩
theorem ok_wrongB {f : Addr} {fd : FuncData} (F : L2.Fun K "wrong_at" "wrong_at" sWrong f fd) (T : Txt mg) (mS : mg "str" = none) : FnOk P w K mg base CX0 1 f fd ["signs", "value"] (spWrongB K) := by
  refine F.ok scWrong (fun vs H Q E h => ?_) (fun cdv A outer s H vs Q E hr h => ?_)
  · obtain ⟨z, x, i, rfl, _⟩ := h
    rfl
  · obtain ⟨z, x, i, rfl, bad, k⟩ := h
    have nd := scWrong.nd
    refine ⟨_, pss_cons (ps_if (pt_not (pt_val (bIsi (by rfl) T.isi (pv 1) (pe_bltn (v := .ty "str") (by rfl) mS (by decide +kernel) rfl)))) (pss_one (ps_ret pe_int)) pss_nil)
      (pss_cons (ps_set (i := 2) nd rfl (.inl rfl) (pe_bm PySem.F.plainAttrs_str PySem.F.slot_str_lstrip PySem.F.type_str_lstrip mt_lstripChars (pv 1) (pa_cons (pv 0) pa_nil)))
      (pss_cons (ps_if (pt_cmpR op_eq (pv 2) pe_str (nomark _)) (pss_one (ps_ret pe_non)) pss_nil) (pss_one (ps_ret (pe_op op_sub (bLen (by rfl) T.len (pv 1)) (bLen (by rfl) T.len (pv 2))))))), ?_⟩
    rcases bad with ⟨wd, rfl, hl, ne, hl2, rfl⟩ | ⟨t, ty, no, rfl⟩
    · refine ⟨_, rfl, .str wd, .ty "str", _, _, true, rfl, .ty "str", .base (.str wd), kit_ty (by decide +kernel), true, rfl, iteF ?_⟩
      refine ⟨_, rfl, rfl, _, rfl, wd, z, rfl, rfl, len_small hl, ?_⟩
      refine ⟨_, rfl, rfl, _, rfl, ?_⟩
      have e : decide (V.str (Txt.lstripChars wd z) = V.str "") = false := decide_eq_false fun q => ne (V.str.inj q)
      rw [e]
      exact iteF ⟨_, rfl, _, wd.length, rfl, ⟨len_small hl, rfl⟩, _, rfl, _, (Txt.lstripChars wd z).length, rfl, ⟨len_small hl2, rfl⟩, _, _, rfl, rfl, k⟩
    · exact ⟨_, rfl, x, .ty "str", _, _, false, rfl, .ty "str", ty, no, _, rfl, iteT k⟩
theorem ok_checkB {f f1 C : Addr} {fd fd1 : FuncData} (F : L2.Fun K "check_row" "check_row" sCheckRow f fd) (G : FnOk P w K mg base CX0 1 f1 fd1 ["signs", "value"] (spWrongB K)) (m1 : mg "wrong_at" = some (.ref f1)) (k1 : PySem.W.keepIn K (.ref f1) = true)
    (b1 : L2.Binds K fd1 ["signs", "value"] []) (R : ErrB P w K mg base "BadRow" "at" C) : FnOk P w K mg base (L2.CX P w) 3 f fd ["signs", "value"] (spCheckB K C) := by
  obtain ⟨fi, fdi, psi, r1, r2, r3, r4⟩ := R.init
  refine F.okX scCheckRow (fun vs H Q E h => ?_) (fun cdv A outer s H vs Q E hr h => ?_)
  · obtain ⟨z, x, i, rfl, _⟩ := h
    rfl
  · obtain ⟨z, x, i, rfl, bad, k⟩ := h
    have nd := scCheckRow.nd
    have tk := takes_of (X := cxOf (L2.CX P w) P w K mg base ["signs", "value", "at"] "check_row" (defScope sCheckRow) f cdv A outer s H E) rfl rfl rfl rfl
    refine ⟨_, pss_cons (ps_set (i := 2) nd rfl (.inl rfl) (pe_call G (hr.mono (by decide)) (by rfl) m1 k1 b1 .nil pass0 (pa_cons (pv 0) (pa_cons (pv 1) pa_nil)))) (pss_one (ps_if (pt_cmp (pc_notN (pv 2))) (pss_one (ps_raise1 rfl tk R.O r1 r2 r3 hr r4 (by rfl) R.mgC (pv 2))) pss_nil)), ?_⟩
    exact ⟨_, rfl, _, rfl, z, x, i, rfl, bad, _, rfl, _, rfl, iteT ⟨_, rfl, k⟩⟩
/-- the weight of a row by the pairs -/
def spWeigh : Sp := fun vs H Q _ => ∃ (p : Addr) (xs : List V) (es : List (Nat × Int)) (wd : Str), vs = [.ref p, .str wd] ∧ H p = some (.tup xs) ∧ PairsD H xs es ∧ es.length ≤ 4 ∧ wd.length ≤ 1000 ∧ ∀ H', Same H H' → Q (.int (wtC es wd.cps.toList)) H'
theorem scWeigh : FnScope ["pairs", "row", "sign", "weight"] ["pairs", "row"] (defScope sWeigh) := ⟨rfl, rfl, rfl, by decide +kernel, rfl, by decide +kernel, by decide +kernel⟩
abbrev tCount (K : PySem.W.Frag) (a b : TE) : TE := tBM K "str" (fun x xs H Q => ∃ a b, x = .str a ∧ xs = [.str b] ∧ Q (.int (Txt.count a b)) H) a (tCons b tNil)
/-- a comprehension over pairs, for two names, whose elements are told by the turn, over a heap that only grows -/
theorem lcPairs {J : It} {n : Nat} {G : Hp → Prop} {Y : Nat → Hp → V → Hp → Prop} (w : Walk J n G Y) {i j : Nat} {te : TE} {σ : L2.St} {H1 : Hp} {D : Addr} {Qd : Hp → Prop} (f : Nat → V) (hn : n < sizeLine) (hD : H1 D = none) (hG : ∀ H', Same H1 H' → G H')
    (hY : ∀ m H' x H2, Y m H' x H2 → H2 = H') (hw : ∀ a b : V, wipe ((((wipe σ [i, j]).set i (some a)).set j (some b))) [i, j] = wipe σ [i, j])
    (el : ∀ m x H' (Q : VK), m < n → Same H1 H' → Y m H' x H' → (∀ H4, Same H' H4 → Q (f m) H4) → ∃ t a b, x = .ref t ∧ SqT K H' t [a, b] ∧ te (((wipe σ [i, j]).set i (some a)).set j (some b)) H' Q)
    (hd : ∀ H', Same H1 H' → H' D = some (.lst ((List.range n).map f)) → Qd H') :
    ∃ W : Nat → Nat → Hp → Prop, (∃ m, W 0 m (upd H1 D (.lst []))) ∧ ∀ k m H, W k m H →
      (J.stop k H ∧ Qd H) ∨ (J.go k H ∧ ∃ Nx : Hp → Prop, (∀ H', Nx H' → ∃ m', m' < m ∧ W (k + 1) m' H') ∧ ∀ x H', J.yld k H x H' → gTup K 2 (gCons (gName i) (gCons (gName j) gNil)) x (wipe σ [i, j]) H' fun σ2 H2 => wipe σ2 [i, j] = wipe σ [i, j] ∧ tYes σ2 H2 fun b H3 =>
        if b = true then te σ2 H3 fun y H4 => ∃ acc, H4 D = some (.lst acc) ∧ acc.length < sizeLine ∧ Nx (upd H4 D (.lst (acc ++ [y]))) else Nx H3) := by
  refine lc_it w (fun m H' => Same H1 H' ∧ H' D = some (.lst ((List.range m).map f))) ⟨Same.new hD, upd_same⟩ (fun m H' _ q => hG H' q.1) ?_ fun H' q => hd H' q.1 q.2
  rintro m x H' H2 hm ⟨s1, hl⟩ y
  obtain rfl := hY _ _ _ _ y
  obtain ⟨t, a, b, rfl, ht, q⟩ := el m x H2 (fun y H4 => ∃ acc, H4 D = some (.lst acc) ∧ acc.length < sizeLine ∧ (Same H1 (upd H4 D (.lst (acc ++ [y]))) ∧ upd H4 D (.lst (acc ++ [y])) D = some (.lst ((List.range (m + 1)).map f)))) hm s1 y fun H4 s4 => by
    refine ⟨_, s4 _ _ hl, ?_, Same.putNew hD (s1.trans s4), ?_⟩
    · rw [List.length_map, List.length_range]; omega
    · rw [upd_same, List.range_succ, List.map_append]
      rfl
  refine ⟨t, [a, b], rfl, ht, rfl, a, [b], rfl, b, [], rfl, rfl, hw a b, ?_⟩
  unfold tYes
  dsimp only
  rw [if_pos rfl]
  exact q
theorem map_getD {α β : Type} {f : α → β} {l : List α} {d : α} : (List.range l.length).map (fun i => f (l.getD i d)) = l.map f := by
  refine List.ext_getElem (by simp) fun i h1 h2 => ?_
  simp at h1 h2
  simp [List.getD_eq_getElem?_getD, List.getElem?_eq_getElem h2]
theorem ok_weigh {f : Addr} {fd : FuncData} (F : L2.Fun K "weigh" "weigh" sWeigh f fd) (mS : mg "sum" = none) : FnOk P w K mg base CX0 1 f fd ["pairs", "row"] spWeigh := by
  refine F.ok scWeigh (fun vs H Q E h => ?_) (fun cdv A outer s H vs Q E hr h => ?_)
  · obtain ⟨p, xs, es, wd, rfl, _⟩ := h
    rfl
  · obtain ⟨p, xs, es, wd, rfl, hp, pd, l4, hl, k⟩ := h
    have nd := scWeigh.nd
    refine ⟨_, pss_one (ps_ret (pe_callB (cr_sum rfl) (by rfl) mS (by decide +kernel) (pa_cons (pe_lc (own := [("sign", 2), ("weight", 3)]) (g := gTup K 2 (gCons (gName 2) (gCons (gName 3) gNil))) (tt := tYes) (te := tOp (rI CMul fun i j => .int (i * j)) (tVar 3) (tCount K (tVar 1) (tVar 2))) rfl nd (pi_tup (pv 0)) (blkOk_by (own := [("sign", 2), ("weight", 3)]) (N := ["pairs", "row", "sign", "weight"]) (sc := defScope sWeigh) (by decide +kernel))
      (fun _ _ _ _ _ => pg_tup rfl (pgs_cons (pg_name (i := 2) nd rfl (Or.inl rfl)) (pgs_cons (pg_name (i := 3) nd rfl (Or.inl rfl)) pgs_nil))) (fun _ _ _ _ _ => pts_nil) (fun _ _ _ _ _ => pe_op op_mul (pv 3) (pe_bm PySem.F.plainAttrs_str PySem.F.slot_str_count PySem.F.type_str_count mt_count (pv 1) (pa_cons (pv 2) pa_nil)))) pa_nil))), ?_⟩
    have al := pd.1
    refine ⟨_, rfl, p, rfl, ⟨_, SqT.of hp⟩, fun D hD => ?_⟩
    refine lcPairs (K := K) walk_tup (fun i => .int ((es.getD i (0, 0)).2 * ((wd.cps.toList.count (es.getD i (0, 0)).1 : Nat) : Int))) (by rw [sizeLine_eq]; omega) hD (fun H' s => SqT.of (s _ _ hp)) (fun _ _ _ _ y => y.1) (fun _ _ => rfl) ?_ ?_
    · rintro i x H' Q' hi s1 ⟨_, hx⟩ q
      have hi' : i < es.length := by rw [← al]; exact hi
      obtain ⟨t, et, pt⟩ := pd.2 i _ (List.getElem?_eq_getElem hi')
      rw [hx] at et
      cases et
      have eg : es.getD i (0, 0) = es[i] := by simp [List.getD_eq_getElem?_getD, List.getElem?_eq_getElem hi']
      have cl : wd.cps.toList.count es[i].1 ≤ 1000 := Nat.le_trans List.count_le_length (by rw [Array.length_toList]; exact hl)
      refine ⟨t, _, _, rfl, SqT.of (pt.same s1).1, _, rfl, _, rfl, rfl, _, rfl, wd, ⟨#[es[i].1]⟩, rfl, rfl, _, _, rfl, rfl, ?_, ?_⟩
      · rw [count_one]
        have := pt.2.2
        exact .inl ⟨by omega, by omega⟩
      · rw [count_one]
        have := q _ (Same.refl H')
        rw [eg] at this
        exact this
    intro H1 s1 hD1
    have : wtC es wd.cps.toList = ((List.range es.length).map fun i => (es.getD i (0, 0)).2 * ((wd.cps.toList.count (es.getD i (0, 0)).1 : Nat) : Int)).sum := by
      unfold wtC
      rw [map_getD (f := fun e : Nat × Int => e.2 * ((wd.cps.toList.count e.1 : Nat) : Int))]
    refine ⟨D, _, rfl, SqL.of (by rw [List.map_map]; rw [al] at hD1; exact hD1), ?_⟩
    rw [← this]
    exact k H1 s1
end
end Kx


set_option Elab.async false
set_option maxRecDepth 100000
set_option autoImplicit false
set_option pp.maxSteps 400
set_option pp.deepTerms false
/-! drawn texts -/
namespace Kx
open PySem L2 PySem.Spec PyProof.Rows Rg Er Ru Tn
abbrev sText : Stmt := top 44
abbrev sWeight : Stmt := top 46
def sg (d : Nat) : V := V.str ⟨#[d]⟩
theorem bIxS {X : Cx} {a b : Expr} {ta tb : TE} {pos : Pos} (ha : PE X a ta) (hb : PE X b tb) (hs : PlainIx b := by intro _ _; rfl) : PE X (.Subscript a b pos) (tOp rIxS ta tb) := pe_ix ix_str ha hb hs
def spText : Sp := fun vs H Q _ => ∃ (c p l : Addr) (n m : Nat) (cs : List Nat), vs = [.ref p, .ref l, .int (m : Int)] ∧ n ≤ 900000 ∧ m ≤ 10 ∧ PenAt c n H p ∧ l ≠ p ∧ H l = some (.lst (cs.map sg)) ∧ 0 < cs.length ∧ cs.length ≤ 30 ∧
  ∀ (ds : List Nat) H', (∀ d ∈ ds, d ∈ cs) → ds.length = m → Ink c p (n + 10) H H' → Q (.str ⟨ds.toArray⟩) H'
section
variable {P : Program} {w : World} {K : PySem.W.Frag} {mg : Str → Option Value} {base : Heap}
abbrev nText : List Str := ["_law_pen_here", "_law_signs", "_law_many", "_law_k"]
theorem scText : FnScope nText ["_law_pen_here", "_law_signs", "_law_many"] (defScope sText) := ⟨rfl, rfl, rfl, by decide +kernel, rfl, by decide +kernel, by decide +kernel⟩
theorem ok_text {f f2 : Addr} {fd fd2 : FuncData} (F : L2.Fun K "_law_text" "_law_text" sText f fd) (T : Txt mg)
    (G2 : FnOk P w K mg base CX0 2 f2 fd2 ["_law_pen_here", "_law_things"] spPick) (m2 : mg "_law_pick" = some (.ref f2)) (k2 : PySem.W.keepIn K (.ref f2) = true) (b2 : L2.Binds K fd2 ["_law_pen_here", "_law_things"] []) :
    FnOk P w K mg base CX0 3 f fd ["_law_pen_here", "_law_signs", "_law_many"] spText := by
  refine F.ok scText (fun vs H Q E h => ?_) (fun cdv A outer s H vs Q E hr h => ?_)
  · obtain ⟨c, p, l, n, m, cs, rfl, _⟩ := h
    rfl
  · obtain ⟨c, p, l, n, m, cs, rfl, nb, mb, pen, lp, hl, c0, c30, k⟩ := h
    have nd := scText.nd
    refine ⟨_, pss_one (ps_ret (pe_join pe_str (pe_lc (own := [("_law_k", 3)]) (g := gName 3) (tt := tYes) rfl nd (pi_range1 (by rfl) T.range (pa_cons (pv 2) pa_nil)) (blkOk_by (N := nText) (sc := defScope sText) (by decide +kernel))
          (fun _ _ _ _ _ => pg_name (i := 3) nd rfl (Or.inl rfl)) (fun _ _ _ _ _ => pts_nil) (fun _ _ _ _ _ => pe_call G2 hr (by rfl) m2 k2 b2 .nil pass0 (pa_cons (pv 0) (pa_cons (pv 1) pa_nil)))))), ?_⟩
    refine ⟨⟨_, rfl⟩, _, rfl, m, rfl, by omega, by omega, fun D hD => ?_⟩
    have Dp := pen.ne1 hD
    have Dl : l ≠ D := ne_of_none hl hD
    refine lcGen walk_range (fun i H' acc => Ink c p (n + i) H H' ∧ H' l = some (.lst (cs.map sg)) ∧ ∃ ds : List Nat, acc = ds.map sg ∧ ∀ d ∈ ds, d ∈ cs) (by rw [sizeLine_eq]; omega) ⟨(Ink.start pen).new hD, by rw [upd_ne Dl]; exact hl, [], rfl, fun _ h => nomatch h⟩ (fun _ _ _ _ _ => trivial) (fun _ _ _ _ y => y.1) ?_ ?_
    · rintro i x H' acc Q' hi hDl hl2 ⟨ink, hl', ds, rfl, sub⟩ y q
      have hi8 : i < m := hi
      refine ⟨_, rfl, _, rfl, c, p, n + i, by omega, ink.2, .inl ⟨l, _, rfl, lp, hl', by rw [List.length_map]; exact c0, by rw [List.length_map]; omega, fun v H4 hv pen4 x4 => ?_⟩⟩
      obtain ⟨d, hd, rfl⟩ := List.mem_map.mp hv
      refine q _ H4 (x4 _ _ Dp hDl) ⟨Ink.putNew (n := n + (i + 1)) ⟨Ext1.trans ink.1 x4, pen4⟩ pen hD, ?_, ds ++ [d], by rw [List.map_append]; rfl, ?_⟩
      · rw [upd_ne Dl]; exact x4 _ _ lp hl'
      · intro e he
        rcases List.mem_append.mp he with he | he
        · exact sub e he
        · rw [List.mem_singleton.mp he]; exact hd
    · rintro H2 acc hDl hl2 ⟨ink, _, ds, rfl, sub⟩
      have hm : ds.length = m := by rw [List.length_map] at hl2; exact hl2
      refine ⟨_, D, ds.map fun d => ⟨#[d]⟩, rfl, rfl, .inl (SqL.of (by rw [List.map_map]; exact hDl)), ?_, ?_⟩
      · rw [sum_one, List.length_map]
        show ds.length + ds.length * 0 ≤ 16777216
        omega
      · rw [join_one]
        exact k ds _ sub hm (ink.mono (by omega))
end
end Kx


set_option Elab.async false
set_option maxRecDepth 100000
set_option autoImplicit false
set_option pp.maxSteps 400
set_option pp.deepTerms false
/-! _law_weight, _law_pairs -/
namespace Kx
open PySem L2 PySem.Spec PyProof.Rows Rg Er Ru Tn
abbrev sPairs : Stmt := top 45
def ky (c : Nat) : Key := .inr ⟨#[c]⟩
theorem ky_inj {a b : Nat} (h : ky a = ky b) : a = b := by
  have h1 : (⟨#[a]⟩ : Str) = ⟨#[b]⟩ := Sum.inr.inj h
  simpa using h1
theorem abc_ix : ∀ m, m < 26 → abc.cps.toList[m]? = some (97 + m) := by decide +kernel
theorem putK_app {acc : List (Key × V)} {k : Key} {v : V} (h : ∀ kv ∈ acc, kv.1 ≠ k) : putK acc k v = acc ++ [(k, v)] := by
  unfold putK
  rw [if_neg]
  intro z
  obtain ⟨kv, m, e⟩ := List.any_eq_true.mp z
  exact h kv m (of_decide_eq_true e)
theorem merge_app : ∀ (more acc : List (Key × V)), ((acc ++ more).map (·.1)).Nodup → mergeK acc more = acc ++ more
  | [], acc, _ => by rw [List.append_nil]; rfl
  | (k, v) :: r, acc, nd => by
    have e : ∀ kv ∈ acc, kv.1 ≠ k := fun kv m z => by
      rw [List.map_append, List.map_cons] at nd
      exact (List.pairwise_append.mp nd).2.2 kv.1 (List.mem_map.mpr ⟨kv, m, rfl⟩) k List.mem_cons_self z
    show mergeK (putK acc k v) r = _
    rw [putK_app e, merge_app r (acc ++ [(k, v)]) (by rw [List.append_assoc]; exact nd), List.append_assoc]
    rfl
theorem merge_self {kvs : List (Key × V)} (nd : (kvs.map (·.1)).Nodup) : mergeK [] kvs = kvs := by rw [merge_app kvs [] (by simpa using nd)]; rfl
def kvW (es : List (Nat × Int)) : List (Key × V) := es.map fun e => (ky e.1, V.int e.2)
theorem kvW_nodup {es : List (Nat × Int)} (nd : (es.map (·.1)).Nodup) : ((kvW es).map (·.1)).Nodup := by
  unfold kvW
  rw [List.map_map, show ((fun kv : Key × V => kv.1) ∘ fun e : Nat × Int => (ky e.1, V.int e.2)) = ky ∘ (·.1) from rfl, ← List.map_map]
  rw [List.nodup_iff_pairwise_ne] at nd ⊢
  exact List.Pairwise.map _ (fun a b ne z => ne (ky_inj z)) nd
theorem kvW_get : ∀ {es : List (Nat × Int)} {c : Nat}, c ∈ es.map (·.1) → valV (kvW es) (ky c) = some (.int ((es.lookup c).getD 0))
  | [], _, h => by cases h
  | (a, n) :: r, c, h => by
    by_cases q : c = a
    · subst q
      have : (List.lookup c ((c, n) :: r)) = some n := by simp [List.lookup]
      rw [this]
      unfold valV kvW
      rw [List.map_cons, List.find?_cons_of_pos (by simp)]
      rfl
    · have h' : c ∈ r.map (·.1) := (List.mem_cons.mp h).resolve_left q
      have ih := kvW_get h'
      have e1 : (c == a) = false := by simpa using q
      have : (List.lookup c ((a, n) :: r)) = r.lookup c := by simp [List.lookup, e1]
      rw [this, ← ih]
      unfold valV kvW
      rw [List.map_cons, List.find?_cons_of_neg (by
        intro z
        exact q (ky_inj (of_decide_eq_true z)).symm)]
theorem pairs_refs {K : PySem.W.Frag} {H : Hp} : ∀ {es : List (Nat × Int)} {xs : List V}, PairsD H xs es → ∃ ps : List Addr, xs = ps.map V.ref ∧ Paired (fun p (kv : Key × V) => SqT K H p [kV kv.1, kv.2]) ps (kvW es)
  | [], xs, h => ⟨[], List.eq_nil_of_length_eq_zero h.1, .nil⟩
  | e :: r, [], h => by have := h.1; simp at this
  | e :: r, x :: xs, h => by
    obtain ⟨t, h1, h2⟩ := h.2 0 e rfl
    obtain ⟨ps, e1, e2⟩ := pairs_refs (K := K) (es := r) (xs := xs) ⟨by have := h.1; simpa using this, fun i d hd => by simpa using h.2 (i + 1) d (by simpa using hd)⟩
    have ex : x = .ref t := by simpa using h1
    exact ⟨t :: ps, by rw [ex, e1]; rfl, .cons (SqT.of h2.1) e2⟩
def spWeight : Sp := fun vs H Q _ => ∃ (L : Addr) (xs : List V) (es : List (Nat × Int)) (l : List Nat), vs = [.ref L, .str ⟨l.toArray⟩] ∧ H L = some (.lst xs) ∧ PairsD H xs es ∧ es.length ≤ 4 ∧ (es.map (·.1)).Nodup ∧ (∀ c ∈ l, c ∈ es.map (·.1)) ∧ l.length ≤ 1000 ∧
  ∀ H', Same H H' → Q (.int (wtC es l)) H'
section
variable {P : Program} {w : World} {K : PySem.W.Frag} {mg : Str → Option Value} {base : Heap}
abbrev nWeight : List Str := ["_law_pairs_here", "_law_there", "_law_weights", "_law_sign"]
theorem scWeight : FnScope nWeight ["_law_pairs_here", "_law_there"] (defScope sWeight) := ⟨rfl, rfl, rfl, by decide +kernel, rfl, by decide +kernel, by decide +kernel⟩
theorem ok_weight {f : Addr} {fd : FuncData} (F : L2.Fun K "_law_weight" "_law_weight" sWeight f fd) (mD : mg "dict" = none) (mS : mg "sum" = none) : FnOk P w K mg base CX0 1 f fd ["_law_pairs_here", "_law_there"] spWeight := by
  refine F.ok scWeight (fun vs H Q E h => ?_) (fun cdv A outer s H vs Q E hr h => ?_)
  · obtain ⟨L, xs, es, l, rfl, _⟩ := h
    rfl
  · obtain ⟨L, xs, es, l, rfl, hL, pd, l4, nd0, mem, ll, k⟩ := h
    have nd := scWeight.nd
    refine ⟨_, pss_cons (ps_set (i := 2) nd rfl (.inr rfl) (pe_callTy (call_dictP rfl) (by rfl) mD (by decide +kernel) (pa_cons (pv 0) pa_nil)))
      (pss_one (ps_ret (pe_callB (cr_sum rfl) (by rfl) mS (by decide +kernel) (pa_cons (pe_lc (own := [("_law_sign", 3)]) (g := gName 3) (tt := tYes) (te := tDGet (tVar 2) (tVar 3)) rfl nd (pi_str (pv 1)) (blkOk_by (own := [("_law_sign", 3)]) (N := nWeight) (sc := defScope sWeight) (by decide +kernel))
        (fun _ _ _ _ _ => pg_name (i := 3) nd rfl (Or.inl rfl)) (fun _ _ _ _ _ => pts_nil) (fun _ _ _ _ _ => pe_dget (hu_of hr) (pv 2) (pv 3) (fun _ _ => rfl))) pa_nil)))), ?_⟩
    obtain ⟨ps, rfl, pr⟩ := pairs_refs (K := K) pd
    refine ⟨_, rfl, L, ps, kvW es, rfl, SqL.of hL, pr, fun d hd => ?_⟩
    rw [merge_self (kvW_nodup nd0)]
    have s1 : Same H (upd H d (.dK (kvW es))) := Same.new hd
    have e1 : upd H d (.dK (kvW es)) d = some (.dK (kvW es)) := upd_same
    generalize upd H d (.dK (kvW es)) = H1 at s1 e1 ⊢
    refine ⟨_, rfl, _, rfl, fun D hD => ?_⟩
    refine lcMap walk_str (fun i => V.int ((es.lookup (l.getD i 0)).getD 0)) (by show l.toArray.size < _; rw [sizeLine_eq]; simp; omega) hD (fun _ _ => trivial) (fun _ _ _ _ y => y.1) ?_ ?_
    · rintro i x H' Q' hi s2 ⟨_, c, hc, rfl⟩ q
      have hc' : l[i]? = some c := by simpa using hc
      have g := DGet.k (k := ky c) (s2 _ _ e1)
      rw [kvW_get (mem c (List.mem_of_getElem? hc'))] at g
      refine ⟨_, rfl, _, rfl, d, _, rfl, g, ?_⟩
      have := q _ (Same.refl H')
      rw [show l.getD i 0 = c from by rw [List.getD_eq_getElem?_getD, hc']; rfl] at this
      exact this
    intro H2 s2 hD2
    have : wtC es l = ((List.range l.toArray.size).map fun i => (es.lookup (l.getD i 0)).getD 0).sum := by
      rw [← wt_eq nd0 mem, List.size_toArray, map_getD (f := fun c => (es.lookup c).getD 0)]
      rfl
    refine ⟨D, _, rfl, SqL.of (by rw [List.map_map]; exact hD2), ?_⟩
    rw [← this]
    exact k _ (Same.trans s1 s2)
/-! ### _law_pairs -/
theorem Ink.freeOf {c p q : Addr} {n : Nat} {H H' : Hp} (i : Ink c p n H H') (e : H' q = none) : H q = none := by
  cases z : H q with
  | none => rfl
  | some o =>
    rw [i.1 q o (i.2.ne1 e) z] at e
    cases e
def ltr (f s : Int) (k : Nat) : Nat := 97 + ((f + s * (k : Int)) % 26).toNat
theorem ltr_inj {f r : Int} {i j : Nat} (f0 : 0 ≤ f) (f1 : f < 26) (r0 : 0 ≤ r) (r1 : r < 6) (hi : i < 4) (hj : j < 4) (h : ltr f (2 * r + 1) i = ltr f (2 * r + 1) j) : i = j := by
  unfold ltr at h
  obtain rfl | rfl | rfl | rfl | rfl | rfl : r = 0 ∨ r = 1 ∨ r = 2 ∨ r = 3 ∨ r = 4 ∨ r = 5 := by omega
  all_goals omega
theorem ltr_nodup {f r : Int} {m : Nat} (f0 : 0 ≤ f) (f1 : f < 26) (r0 : 0 ≤ r) (r1 : r < 6) (hm : m ≤ 4) : ((List.range m).map (ltr f (2 * r + 1))).Nodup := by
  rw [List.nodup_iff_pairwise_ne, List.pairwise_map]
  refine List.Pairwise.imp_of_mem ?_ (List.nodup_iff_pairwise_ne.mp List.nodup_range)
  intro a b ha hb ne z
  exact ne (ltr_inj f0 f1 r0 r1 (by have := List.mem_range.mp ha; omega) (by have := List.mem_range.mp hb; omega) z)
theorem ltr_abc (f s : Int) (k : Nat) : ltr f s k ∈ abc.cps.toList := List.mem_of_getElem? (abc_ix _ (by omega))
theorem PairsD.keep {H H' : Hp} {xs : List V} {es : List (Nat × Int)} (h : PairsD H xs es) (e : KeepT H H') : PairsD H' xs es := h.mono fun _ _ _ q => q.keep e
theorem PairsD.push {H : Hp} {xs : List V} {es : List (Nat × Int)} {t : Addr} {c : Nat} {n : Int} (h : PairsD H xs es) (q : PairAt H t c n) : PairsD H (xs ++ [.ref t]) (es ++ [(c, n)]) := by
  refine ⟨by simp [h.1], fun i e he => ?_⟩
  have hl := h.1
  by_cases lt : i < es.length
  · rw [List.getElem?_append_left lt] at he
    rw [List.getElem?_append_left (by omega)]
    exact h.2 i e he
  · rw [List.getElem?_append_right (by omega)] at he
    obtain ⟨i0, ei⟩ := List.getElem?_eq_some_iff.mp he
    have i0' : i - es.length = 0 := by simp at i0; omega
    rw [List.getElem?_append_right (by omega), show i - xs.length = 0 by omega]
    rw [i0'] at he
    cases he
    exact ⟨t, rfl, q⟩
theorem PairsD.set {H : Hp} {xs : List V} {es : List (Nat × Int)} {t : Addr} {c : Nat} {n : Int} (h : PairsD H xs es) (j : Nat) (q : PairAt H t c n) : PairsD H (xs.set j (.ref t)) (es.set j (c, n)) := by
  refine ⟨by simp [h.1], fun i e he => ?_⟩
  have hl := h.1
  by_cases ij : j = i
  · subst ij
    rw [List.getElem?_set] at he
    rw [List.getElem?_set]
    split at he
    · rename_i lt
      split at he
      · rename_i lt'
        cases he
        rw [if_pos rfl, if_pos (by omega)]
        exact ⟨t, rfl, q⟩
      · cases he
    · exact absurd rfl ‹_›
  · rw [List.getElem?_set_ne ij] at he
    rw [List.getElem?_set_ne ij]
    exact h.2 i e he
def spPairs : Sp := fun vs H Q _ => ∃ (c p : Addr) (n : Nat), vs = [.ref p] ∧ n ≤ 800000 ∧ PenAt c n H p ∧ ∀ (L : Addr) H' xs es, L ≠ p → H' L = some (.lst xs) → PairsD H' xs es → 1 ≤ es.length → es.length ≤ 4 → (es.map (·.1)).Nodup → (∃ e ∈ es, 0 < e.2) → Ink c p (n + 20) H H' → Q (.ref L) H'
abbrev nPairs : List Str := ["_law_pen_here", "_law_letters", "_law_first", "_law_stride", "_law_many", "_law_found", "_law_k", "_law_heavy"]
theorem scPairs : FnScope nPairs ["_law_pen_here"] (defScope sPairs) := ⟨rfl, rfl, rfl, by decide +kernel, rfl, by decide +kernel, by decide +kernel⟩
theorem ok_pairs {f f1 f2 : Addr} {fd fd1 fd2 : FuncData} (F : L2.Fun K "_law_pairs" "_law_pairs" sPairs f fd) (T : Txt mg)
    (G1 : FnOk P w K mg base CX0 1 f1 fd1 ["_law_pen_here", "_law_many"] spDraw) (m1 : mg "_law_draw" = some (.ref f1)) (k1 : PySem.W.keepIn K (.ref f1) = true) (b1 : L2.Binds K fd1 ["_law_pen_here", "_law_many"] [])
    (G2 : FnOk P w K mg base CX0 2 f2 fd2 ["_law_pen_here", "_law_things"] spPick) (m2 : mg "_law_pick" = some (.ref f2)) (k2 : PySem.W.keepIn K (.ref f2) = true) (b2 : L2.Binds K fd2 ["_law_pen_here", "_law_things"] []) :
    FnOk P w K mg base CX0 3 f fd ["_law_pen_here"] spPairs := by
  refine F.ok scPairs (fun vs H Q E h => ?_) (fun cdv A outer s H vs Q E hr h => ?_)
  · obtain ⟨c, p, n, rfl, _⟩ := h
    rfl
  · obtain ⟨c, p, n, rfl, nb, pen, k⟩ := h
    have nd := scPairs.nd
    have hr1 := hr.mono (show 1 ≤ 2 by decide)
    refine ⟨_, pss_cons (ps_set (i := 1) nd rfl (.inl rfl) pe_str)
      (pss_cons (ps_par (i := 2) (j := 3) (by rfl) nd rfl rfl (by decide) rfl rfl (pa_cons (pe_call G1 hr1 (by rfl) m1 k1 b1 .nil pass0 (pa_cons (pv 0) (pa_cons pe_int pa_nil))) (pa_cons (pe_op op_add (pe_op op_mul pe_int (pe_call G1 hr1 (by rfl) m1 k1 b1 .nil pass0 (pa_cons (pv 0) (pa_cons pe_int pa_nil)))) pe_int) pa_nil)) (by rfl))
      (pss_cons (ps_set (i := 4) nd rfl (.inl rfl) (pe_call G2 hr (by rfl) m2 k2 b2 .nil pass0 (pa_cons (pv 0) (pa_cons (pe_lst (pa_cons pe_int (pa_cons pe_int (pa_cons pe_int (pa_cons pe_int (pa_cons pe_int (pa_cons pe_int pa_nil))))))) pa_nil))))
      (pss_cons (ps_set (i := 5) nd rfl (.inl rfl) (pe_lst pa_nil))
      (pss_cons (ps_for PassesOwn.never rfl (pi_range1 (by rfl) T.range (pa_cons (pv 4) pa_nil)) (pg_name (i := 6) nd rfl (Or.inl rfl))
        (pss_one (ps_expr (pe_bm PySem.F.plainAttrs_list PySem.F.slot_list_append PySem.F.type_list_append mt_append (pv 5) (pa_cons (pe_tup (pa_cons (bIxS (pv 1) (pe_op op_mod (bInt (by rfl) T.int (pe_op op_add (pv 2) (pe_op op_mul (pv 3) (pv 6)))) pe_int))
          (pa_cons (pe_call G2 hr (by rfl) m2 k2 b2 .nil pass0 (pa_cons (pv 0) (pa_cons (pe_lst (pa_cons pe_int (pa_cons pe_int (pa_cons pe_int (pa_cons pe_int (pa_cons pe_int (pa_cons pe_int pa_nil))))))) pa_nil))) pa_nil))) pa_nil)))))
      (pss_cons (ps_set (i := 7) nd rfl (.inl rfl) (pe_call G1 hr1 (by rfl) m1 k1 b1 .nil pass0 (pa_cons (pv 0) (pa_cons (pv 4) pa_nil))))
      (pss_cons (ps_if (pt_cmpR op_eq (bIxT (bIx (pv 5) (pv 7)) pe_int) pe_int (nomark _)) (pss_one (ps_asg (pe_tup (pa_cons (bIxT (bIx (pv 5) (pv 7)) pe_int) (pa_cons pe_int pa_nil))) (pg_sub (pv 5) (pv 7) set_list))) pss_nil)
      (pss_one (ps_ret (pv 5))))))))), ?_⟩
    refine ⟨_, rfl, c, p, 26, n, rfl, by decide, by decide, by omega, pen, fun ff H1 f0 f1 pen1 x1 => ?_⟩
    refine ⟨_, rfl, c, p, 6, n + 1, rfl, by decide, by decide, by omega, pen1, fun r H2 r0 r1 pen2 x2 => ⟨_, _, rfl, rfl, .inl ⟨by decide, by decide⟩, _, _, rfl, rfl, _, _, rfl, ?_⟩⟩
    refine ⟨_, rfl, by show 6 ≤ sizeLine; decide, fun l hl => ⟨c, p, n + 2, by omega, pen2.new hl, .inl ⟨l, _, rfl, pen2.ne1 hl, upd_same, by decide, by decide, fun v H3 hv pen3 x3 => ?_⟩⟩⟩
    obtain ⟨m, rfl, mlo, mhi⟩ : ∃ m : Nat, v = .int (m : Int) ∧ 1 ≤ m ∧ m ≤ 4 := by
      simp only [List.mem_cons, List.not_mem_nil, or_false] at hv
      rcases hv with rfl | rfl | rfl | rfl | rfl | rfl
      · exact ⟨2, rfl, by decide, by decide⟩
      · exact ⟨2, rfl, by decide, by decide⟩
      · exact ⟨2, rfl, by decide, by decide⟩
      · exact ⟨3, rfl, by decide, by decide⟩
      · exact ⟨4, rfl, by decide, by decide⟩
      · exact ⟨1, rfl, by decide, by decide⟩
    have i3 : Ink c p (n + 3) H H3 := ⟨Ext1.trans x1 (Ext1.trans x2 (Ext1.trans (Ext1.new hl) x3)), pen3⟩
    clear pen1 x1 pen2 x2 hl x3 pen3 hv
    refine ⟨Nat.zero_le _, fun L hL => ?_⟩
    have Lp := i3.2.ne1 hL
    have LH : H L = none := Ink.freeOf i3 hL
    refine ⟨_, rfl, m, rfl, by omega, by omega, ?_⟩
    refine for_it walk_range (fun i σ' G => ∃ y6 y7, σ' = [some (.ref p), some (.str abc), some (.int ff), some (.int (2 * r + 1)), some (.int (m : Int)), some (.ref L), y6, y7] ∧ Ink c p (n + 3 + i) H G ∧ ∃ xs es, G L = some (.lst xs) ∧ PairsD G xs es ∧ es.length = i ∧ es.map (·.1) = (List.range i).map (ltr ff (2 * r + 1)))
      ⟨_, _, rfl, i3.new hL, [], [], upd_same, ⟨rfl, fun i e h => by cases h⟩, rfl, rfl⟩ (fun _ _ _ _ _ => trivial) ?_ ?_
    · rintro i x σ' G G' hi ⟨y6, y7, rfl, ink, xs, es, gL, pd, el, em⟩ ⟨eG, ex⟩
      subst eG
      subst ex
      have hi4 : i < m := hi
      have xl := pd.1
      refine ⟨_, rfl, .inl ⟨rfl, _, SqL.of gL⟩, ?_⟩
      have mlt : ((ff + (2 * r + 1) * (i : Int)) % 26).toNat < 26 := by omega
      have ei : V.int (0 + (i : Int)) = V.int (i : Int) := by rw [Int.zero_add]
      refine ⟨_, rfl, _, rfl, _, rfl, _, rfl, _, _, rfl, ei, .inl ⟨by omega, by omega⟩, _, _, rfl, rfl, .inl ⟨_, rfl, _, _, rfl, rfl, by show (0 : Int) < 26; decide, ?_⟩⟩
      refine ⟨abc, _, ltr ff (2 * r + 1) i, rfl, rfl, len_small (by decide), atI_int (by omega) (abc_ix _ mlt), ?_⟩
      refine ⟨_, rfl, by show 6 ≤ sizeLine; decide, fun l2 hl2 => ⟨c, p, n + 3 + i, by omega, ink.2.new hl2, .inl ⟨l2, _, rfl, ink.2.ne1 hl2, upd_same, by decide, by decide, fun v G1 hv pen4 x4 => ?_⟩⟩⟩
      obtain ⟨k2, rfl, klo, khi⟩ : ∃ k2 : Int, v = .int k2 ∧ 0 ≤ k2 ∧ k2 ≤ 9 := by
        simp only [List.mem_cons, List.not_mem_nil, or_false] at hv
        rcases hv with rfl | rfl | rfl | rfl | rfl | rfl <;> exact ⟨_, rfl, by decide, by decide⟩
      refine ⟨by show 2 ≤ sizeLine; decide, fun t ht => ?_⟩
      have i4 : Ink c p (n + 3 + i + 1) G' G1 := ⟨Ext1.trans (Ext1.new hl2) x4, pen4⟩
      have i5 := i4.new (o := .tup [.str ⟨#[ltr ff (2 * r + 1) i]⟩, .int k2]) ht
      have gL5 := i5.1 _ _ Lp gL
      have pd5 := pd.keep (Ink.keepT ink.2 i5)
      have pt : PairAt (upd G1 t (.tup [.str ⟨#[ltr ff (2 * r + 1) i]⟩, .int k2])) t (ltr ff (2 * r + 1) i) k2 := ⟨upd_same, ltr_abc _ _ _, klo, khi⟩
      have ink5 : Ink c p (n + 3 + (i + 1)) H _ := Ink.trans ink i5
      generalize upd G1 t (.tup [.str ⟨#[ltr ff (2 * r + 1) i]⟩, .int k2]) = G5 at gL5 pd5 pt ink5 ⊢
      refine ⟨L, _, _, rfl, rfl, gL5, by rw [sizeLine_eq]; omega, ?_⟩
      refine ⟨_, _, rfl, Ink.putNew ink5 pen LH, xs ++ [.ref t], es ++ [(ltr ff (2 * r + 1) i, k2)], upd_same, (pd5.push pt).keep (KeepT.put gL5), by simp [el], ?_⟩
      rw [List.map_append, em, List.range_succ, List.map_append]
      rfl
    · rintro σ' G ⟨y6, y7, rfl, ink, xs, es, gL, pd, el, em⟩
      have xl := pd.1
      refine ⟨_, rfl, _, rfl, c, p, m, n + 3 + m, rfl, by omega, by omega, by omega, ink.2, fun h G1 h0 h1 pen4 x4 => ?_⟩
      have i4 : Ink c p (n + 3 + m + 1) G G1 := ⟨x4, pen4⟩
      have gL1 := x4 _ _ Lp gL
      have pd1 := pd.keep (Ink.keepT ink.2 i4)
      have ink1 : Ink c p (n + 3 + m + 1) H G1 := Ink.trans ink i4
      have hj : h.toNat < es.length := by omega
      obtain ⟨t, et, pt⟩ := pd1.2 h.toNat _ (List.getElem?_eq_getElem hj)
      have nd1 : (es.map (·.1)).Nodup := by rw [em]; exact ltr_nodup f0 f1 r0 r1 mhi
      refine ⟨_, rfl, _, rfl, L, xs, h, .ref t, rfl, rfl, SqL.of gL1, atI_int h0 et, t, _, 1, _, rfl, rfl, SqT.of pt.1, rfl, rfl, _, rfl, ?_⟩
      by_cases z : es[h.toNat].2 = 0
      · rw [decide_eq_true (show V.int es[h.toNat].2 = V.int 0 by rw [z])]
        refine iteT ?_
        refine ⟨_, rfl, _, rfl, L, xs, h, .ref t, rfl, rfl, SqL.of gL1, atI_int h0 et, t, _, 0, _, rfl, rfl, SqT.of pt.1, rfl, by show 2 ≤ sizeLine; decide, fun t2 ht2 => ?_⟩
        have i5 := ink1.new (o := .tup [.str ⟨#[es[h.toNat].1]⟩, .int 1]) ht2
        have gL5 := (Ext1.new (p := p) (o := .tup [.str ⟨#[es[h.toNat].1]⟩, .int 1]) ht2) _ _ Lp gL1
        have pd5 := pd1.keep (Same.keepT (Same.new (o := .tup [.str ⟨#[es[h.toNat].1]⟩, .int 1]) ht2))
        have pt5 : PairAt (upd G1 t2 (.tup [.str ⟨#[es[h.toNat].1]⟩, .int 1])) t2 es[h.toNat].1 1 := ⟨upd_same, pt.2.1, by decide, by decide⟩
        generalize upd G1 t2 (.tup [.str ⟨#[es[h.toNat].1]⟩, .int 1]) = G5 at i5 gL5 pd5 pt5 ⊢
        refine ⟨_, rfl, _, rfl, L, xs, h, h.toNat, rfl, rfl, gL5, ?_, ?_⟩
        · unfold ixN
          rw [if_pos h0, if_pos (by omega)]
        · refine ⟨_, rfl, k L _ (xs.set h.toNat (.ref t2)) (es.set h.toNat (es[h.toNat].1, 1)) Lp upd_same ((pd5.set _ pt5).keep (KeepT.put gL5)) (by simp; omega) (by simp; omega) ?_ ⟨(es[h.toNat].1, 1), List.mem_iff_getElem?.mpr ⟨h.toNat, by rw [List.getElem?_set]; simp; omega⟩, by show (0 : Int) < 1; decide⟩ ((Ink.putNew i5 pen LH).mono (by omega))⟩
          have : ((es.set h.toNat (es[h.toNat].1, 1)).map (·.1)) = es.map (·.1) := by
            rw [List.map_set]
            exact List.ext_getElem (by simp) fun j h1 h2 => by
              rw [List.getElem_set]
              split
              · rename_i q; subst q; simp
              · rfl
          rw [this]; exact nd1
      · rw [decide_eq_false (fun q => z (V.int.inj q))]
        exact iteF ⟨_, rfl, k L _ xs es Lp gL1 pd1 (by omega) (by omega) nd1 ⟨es[h.toNat], List.getElem_mem hj, by have := pt.2.2.1; omega⟩ (ink1.mono (by omega))⟩
end
end Kx


set_option Elab.async false
set_option maxRecDepth 100000
set_option autoImplicit false
/-! the texts of rules, as lists of signs -/
namespace Kx
open PySem L2 PySem.Spec PyProof.Rows Rg SX
def isL (c : Nat) : Bool := decide (c ∈ abc.cps.toList)
/-- a stretch of letters -/
def lets (lo : Nat) (z : Str) : Bool := decide (lo ≤ z.length) && decide (z.length ≤ 4) && z.cps.toList.all isL
theorem takeWhile_lt (p : Nat → Bool) : ∀ l : List Nat, l.all p = false → (l.takeWhile p).length < l.length ∧ ∃ c r, l.drop (l.takeWhile p).length = c :: r ∧ p c = false
  | [], h => by simp at h
  | c :: r, h => by
    by_cases q : p c = true
    · have h2 : r.all p = false := by simpa [q] using h
      obtain ⟨a, b⟩ := takeWhile_lt p r h2
      rw [List.takeWhile_cons, q, if_pos rfl]
      exact ⟨by simpa using a, by simpa using b⟩
    · have q2 : p c = false := by simpa using q
      rw [List.takeWhile_cons, q2, if_neg (by simp)]
      exact ⟨by simp, c, r, rfl, q2⟩
theorem takeWhile_all (p : Nat → Bool) : ∀ l : List Nat, l.all p = true → l.takeWhile p = l
  | [], _ => rfl
  | c :: r, h => by
    have q : p c = true := by simp at h; exact h.1
    have h2 : r.all p = true := by simp at h ⊢; exact h.2
    rw [List.takeWhile_cons, q, if_pos rfl, takeWhile_all p r h2]
theorem isL_eq : abc.cps.contains = isL := by
  funext c
  unfold isL
  rw [← Array.contains_toList]
  simp [List.contains_iff_mem]
theorem strip_all (z : Str) (h : z.cps.toList.all isL = true) : Txt.stripChars z abc = Str.empty := by
  obtain ⟨⟨L⟩⟩ := z
  show Txt.stripBy abc.cps.contains true true ⟨⟨L⟩⟩ = Str.empty
  rw [isL_eq]
  have hl : L.takeWhile isL = L := takeWhile_all _ _ h
  unfold Txt.stripBy stripSame stripped stripLo stripHi
  simp only [if_true, hl]
  by_cases q : L = []
  · subst q; rfl
  · have e : (L.length == 0) = false := by
      cases L with
      | nil => exact absurd rfl q
      | cons a r => rfl
    rw [e, Bool.false_and, if_neg (by simp)]
    show (⟨(⟨L⟩ : Array Nat).extract L.length _⟩ : Str) = Str.empty
    have : (⟨L⟩ : Array Nat).extract L.length ((⟨⟨L⟩⟩ : Str).length - (List.takeWhile isL (List.drop L.length L).reverse).length) = #[] := by
      simp [Str.length]
    rw [this]; rfl
theorem strip_some (z : Str) (h : z.cps.toList.all isL = false) : Txt.stripChars z abc ≠ Str.empty := by
  obtain ⟨⟨L⟩⟩ := z
  show Txt.stripBy abc.cps.contains true true ⟨⟨L⟩⟩ ≠ Str.empty
  rw [isL_eq]
  obtain ⟨h1, c, r, h2, h3⟩ := takeWhile_lt isL L h
  have h4 : ((L.drop (L.takeWhile isL).length).reverse.takeWhile isL).length < (L.drop (L.takeWhile isL).length).length := by
    have := (takeWhile_lt isL (L.drop (L.takeWhile isL).length).reverse (by rw [h2]; simp [h3])).1
    rw [List.length_reverse] at this
    exact this
  rw [List.length_drop] at h4
  unfold Txt.stripBy stripSame stripped stripLo stripHi
  simp only [if_true]
  have len : (⟨⟨L⟩⟩ : Str).length = L.length := rfl
  intro z
  split at z
  · have := congrArg Str.length z
    rw [len] at this
    have e0 : Str.empty.length = 0 := rfl
    omega
  · have := congrArg Str.length z
    have e0 : Str.empty.length = 0 := rfl
    rw [e0] at this
    have e1 : ∀ i j : Nat, (Builtin.Str.strSub ⟨⟨L⟩⟩ i j).length = min j L.length - i := fun i j => by
      show ((⟨L⟩ : Array Nat).extract i j).size = _
      rw [Array.size_extract]
      rfl
    rw [e1, len] at this
    have h5 : (List.drop (List.takeWhile isL L).length L) = (L.drop (L.takeWhile isL).length) := rfl
    omega
theorem strip_iff (z : Str) : decide (Txt.stripChars z abc = Str.empty) = z.cps.toList.all isL := by
  cases h : z.cps.toList.all isL with
  | true => exact decide_eq_true (strip_all z h)
  | false => exact decide_eq_false (strip_some z h)
/-! ### the two ways to cut at the arrow -/
end Kx


set_option Elab.async false
set_option maxRecDepth 100000
set_option autoImplicit false
/-! the marks of the ends -/
namespace Kx
open PySem L2 PySem.Spec PyProof.Rows Rg SX
end Kx


set_option Elab.async false
set_option maxRecDepth 100000
set_option autoImplicit false
/-! are_letters of any value; Rule.__init__ -/
namespace Kx
open PySem L2 PySem.Spec PyProof.Rows Rg Er Ru
abbrev sAreLetters : Stmt := top 18
abbrev sRInit : Stmt := inClass (top 30) 1
def NoStr (K : PySem.W.Frag) (H : Hp) (x : V) : Prop := ∃ t, TyX K H x t ∧ PySem.W.kitOne K t (.type "str") = some false
/-- x is a text that is a stretch or not, or no text -/
def Tx (K : PySem.W.Frag) (lo : Nat) (H : Hp) (x : V) (b : Bool) : Prop := (∃ wd : Str, x = .str wd ∧ wd.length ≤ 1000 ∧ b = lets lo wd) ∨ (b = false ∧ NoStr K H x)
/-- x is a truth, or is none -/
def Tb (K : PySem.W.Frag) (H : Hp) (x : V) (b : Bool) : Prop := ∃ t, TyX K H x t ∧ PySem.W.kitOne K t (.type "bool") = some b
def spAreLetters (K : PySem.W.Frag) : Sp := fun vs H Q _ => ∃ (x : V) (lo : Nat) (b : Bool), vs = [x, .int lo, .int 4] ∧ Tx K lo H x b ∧ Q (.bl b) H
theorem eqEmpty (x : Str) : decide (V.str x = V.str "") = decide (x = Str.empty) := by
  by_cases q : x = Str.empty
  · rw [q] <;> rfl
  · rw [decide_eq_false q]
    exact decide_eq_false fun z : V.str x = V.str "" => q (V.str.inj z)
section
variable {P : Program} {w : World} {K : PySem.W.Frag} {mg : Str → Option Value} {base : Heap}
theorem scAreLetters : FnScope ["value", "least", "most"] ["value", "least", "most"] (defScope sAreLetters) := ⟨rfl, rfl, rfl, by decide +kernel, rfl, by decide +kernel, by decide +kernel⟩
theorem ok_areLetters {f : Addr} {fd : FuncData} (F : L2.Fun K "are_letters" "are_letters" sAreLetters f fd) (T : Txt mg) (mS : mg "str" = none) {tk : Tok} (mL : mg "LETTERS" = some (.str abc tk)) : FnOk P w K mg base CX0 1 f fd ["value", "least", "most"] (spAreLetters K) := by
  refine F.ok scAreLetters (fun vs H Q E h => ?_) (fun cdv A outer s H vs Q E hr h => ?_)
  · obtain ⟨x, lo, b, rfl, _⟩ := h
    rfl
  · obtain ⟨x, lo, b, rfl, how, k⟩ := h
    refine ⟨_, pss_one (ps_ret (pe_and (bIsi (by rfl) T.isi (pv 0) (pe_bltn (v := .ty "str") (by rfl) mS (by decide +kernel) rfl)) (pe_and (pe_chain op_le op_le (pv 1) (bLen (by rfl) T.len (pv 0)) (pv 2))
      (pe_one (pe_cmpR op_eq (pe_bm PySem.F.plainAttrs_str PySem.F.slot_str_strip PySem.F.type_str_strip mt_stripChars (pv 0) (pa_cons (pe_glob (v := .str abc) (by rfl) mL ⟨_, rfl⟩) pa_nil)) pe_str (nomark _)))))), ?_⟩
    rcases how with ⟨wd, rfl, few, rfl⟩ | ⟨rfl, t, ty, no⟩
    · refine ⟨_, rfl, .str wd, .ty "str", _, _, true, rfl, .ty "str", .base (.str wd), kit_ty (by decide +kernel), true, rfl, iteT ?_⟩
      refine ⟨_, rfl, _, rfl, _, wd.length, rfl, ⟨len_small (by omega), rfl⟩, _, _, rfl, rfl, _, rfl, ?_⟩
      unfold lets at k
      by_cases h1 : lo ≤ wd.length
      · rw [if_pos (decide_eq_true (by omega))]
        refine ⟨_, rfl, _, _, rfl, rfl, _, rfl, ?_⟩
        rw [decide_eq_true h1, Bool.true_and] at k
        by_cases h2 : wd.length ≤ 4
        · rw [if_pos (decide_eq_true (by omega))]
          refine ⟨_, rfl, rfl, wd, abc, rfl, rfl, len_small (by omega), ?_⟩
          refine ⟨rfl, ?_⟩
          rw [decide_eq_true h2, Bool.true_and] at k
          rw [eqEmpty, strip_iff]
          exact k
        · rw [decide_eq_false h2, Bool.false_and] at k
          have e : decide ((wd.length : Int) ≤ 4) = false := decide_eq_false (by omega)
          rw [e]
          exact iteF k
      · rw [decide_eq_false h1, Bool.false_and, Bool.false_and] at k
        have e : decide ((lo : Int) ≤ (wd.length : Int)) = false := decide_eq_false (by omega)
        rw [e]
        exact iteF ⟨_, rfl, iteF k⟩
    · exact ⟨_, rfl, x, .ty "str", _, _, false, rfl, .ty "str", ty, no, false, rfl, iteF k⟩
end
/-! ### rules -/
def rf1 (o : V) : List (Str × V) := putF "old" o []
def rf2 (o n : V) : List (Str × V) := putF "new" n (rf1 o)
def rf3 (o n l : V) : List (Str × V) := putF "left" l (rf2 o n)
def rf (o n l r : V) : List (Str × V) := putF "right" r (rf3 o n l)
theorem rf_lookups (o n l r : V) : (rf o n l r).lookup ("old" : Str) = some o ∧ (rf o n l r).lookup ("new" : Str) = some n ∧ (rf o n l r).lookup ("left" : Str) = some l ∧ (rf o n l r).lookup ("right" : Str) = some r := by
  unfold rf rf3 rf2 rf1
  refine ⟨?_, ?_, ?_, ?_⟩ <;> simp only [lookup_putF] <;> simp (config := { decide := true })
/-- at a the rule -/
def Rl (C : Addr) (H : Hp) (a : Addr) (o n : Str) (l r : Bool) : Prop := ∃ dx, H a = some (.ins C dx (rf (.str o) (.str n) (.bl l) (.bl r)))
theorem Rl.same {C a : Addr} {H H' : Hp} {o n : Str} {l r : Bool} (h : Rl C H a o n l r) (e : Same H H') : Rl C H' a o n l r := h.imp fun _ q => e _ _ q
/-- what is written of the class -/
structure RT (K : PySem.W.Frag) (mg : Str → Option Value) (C : Addr) : Prop where
  cl : Cls K C
  n1 : NoAttr K C "old"
  n2 : NoAttr K C "new"
  n3 : NoAttr K C "left"
  n4 : NoAttr K C "right"
  mgC : mg "Rule" = some (.ref C)
  rd : ∃ mc u, ClX.CRead K C mc ∧ ClX.CVal K C mc "LONGEST" (.int 4) u
/-- the first part that is wrong -/
def bad4 (a b c d : Bool) : Option Str := if a = false then some "old" else if b = false then some "new" else if c = false then some "left" else if d = false then some "right" else none
def spRInit (K : PySem.W.Frag) (C CR : Addr) : Sp := fun vs H Q E => ∃ (p dx : Addr) (x y u v : V) (a b c d : Bool), vs = [.ref p, x, y, u, v] ∧ H p = some (.ins C dx []) ∧ Tx K 1 H x a ∧ Tx K 0 H y b ∧ Tb K H u c ∧ Tb K H v d ∧
  match bad4 a b c d with
  | some part => raised CR "part" (.str part) E H
  | none => ∀ H', Ext1 p H H' → H' p = some (.ins C dx (rf x y u v)) → Q .non H'
section
variable {P : Program} {w : World} {K : PySem.W.Frag} {mg : Str → Option Value} {base : Heap}
abbrev nInit : List Str := ["self", "old", "new", "left", "right"]
theorem scRInit : FnScope nInit nInit (defScope sRInit) := ⟨rfl, rfl, rfl, by decide +kernel, rfl, by decide +kernel, by decide +kernel⟩
theorem ok_rInit {C CR f f1 : Addr} {fd fd1 : FuncData} {kws : List (Str × V)} (F : FunD K "__init__" "Rule.__init__" (defArgs sRInit) (defBody sRInit) (defScope sRInit) [] kws f fd) (T : Txt mg) (M : RT K mg C) (R : ErrB P w K mg base "BadRule" "part" CR) (mB : mg "bool" = none)
    (G : FnOk P w K mg base CX0 1 f1 fd1 ["value", "least", "most"] (spAreLetters K)) (m1 : mg "are_letters" = some (.ref f1)) (k1 : PySem.W.keepIn K (.ref f1) = true) (b1 : L2.Binds K fd1 ["value", "least", "most"] []) :
    FnOk P w K mg base (L2.CX P w) 3 f fd nInit (spRInit K C CR) := by
  obtain ⟨fi, fdi, psi, r1, r2, r3, r4⟩ := R.init
  obtain ⟨mc, lu, rd, cv⟩ := M.rd
  refine F.ok scRInit (fun vs H Q E h => ?_) (fun cdv A outer s H vs Q E hr h => ?_)
  · obtain ⟨p, dx, x, y, u, v, a, b, c, d, rfl, _⟩ := h
    rfl
  · obtain ⟨p, dx, x, y, u, v, a, b, c, d, rfl, hp, hx, hy, hu, hv, k⟩ := h
    have tk := takes_of (X := cxOf (L2.CX P w) P w K mg base nInit "Rule.__init__" (defScope sRInit) f cdv A outer s H E) rfl rfl rfl rfl
    have hr1 := hr.mono (show 1 ≤ 2 by decide)
    refine ⟨_, pss_cons (ps_if (pt_not (pt_val (pe_call G hr1 (by rfl) m1 k1 b1 .nil pass0 (pa_cons (pv 1) (pa_cons pe_int (pa_cons (ClX.pe_cval (pe_glob (v := .ref C) (by rfl) M.mgC rfl)) pa_nil)))))) (pss_one (ps_raise1 rfl tk R.O r1 r2 r3 hr r4 (by rfl) R.mgC pe_str)) pss_nil)
      (pss_cons (ps_if (pt_not (pt_val (pe_call G hr1 (by rfl) m1 k1 b1 .nil pass0 (pa_cons (pv 2) (pa_cons pe_int (pa_cons (ClX.pe_cval (pe_glob (v := .ref C) (by rfl) M.mgC rfl)) pa_nil)))))) (pss_one (ps_raise1 rfl tk R.O r1 r2 r3 hr r4 (by rfl) R.mgC pe_str)) pss_nil)
      (pss_cons (ps_if (pt_not (pt_val (bIsi (by rfl) T.isi (pv 3) (pe_bltn (v := .ty "bool") (by rfl) mB (by decide +kernel) rfl)))) (pss_one (ps_raise1 rfl tk R.O r1 r2 r3 hr r4 (by rfl) R.mgC pe_str)) pss_nil)
      (pss_cons (ps_if (pt_not (pt_val (bIsi (by rfl) T.isi (pv 4) (pe_bltn (v := .ty "bool") (by rfl) mB (by decide +kernel) rfl)))) (pss_one (ps_raise1 rfl tk R.O r1 r2 r3 hr r4 (by rfl) R.mgC pe_str)) pss_nil)
      (pss_cons (ps_fld (pv 0) (pv 1) rfl) (pss_cons (ps_fld (pv 0) (pv 2) rfl) (pss_cons (ps_fld (pv 0) (pv 3) rfl) (pss_one (ps_fld (pv 0) (pv 4) rfl)))))))), ?_⟩
    refine ⟨_, rfl, C, mc, _, lu, rfl, rd, cv, x, 1, a, rfl, hx, a, rfl, ?_⟩
    cases a with
    | false => exact iteT k
    | true =>
    refine iteF ⟨_, rfl, C, mc, _, lu, rfl, rd, cv, y, 0, b, rfl, hy, b, rfl, ?_⟩
    cases b with
    | false => exact iteT k
    | true =>
    obtain ⟨tu, tyu, ku⟩ := hu
    refine iteF ⟨_, rfl, u, .ty "bool", _, _, c, rfl, .ty "bool", tyu, ku, c, rfl, ?_⟩
    cases c with
    | false => exact iteT k
    | true =>
    obtain ⟨tv, tyv, kv⟩ := hv
    refine iteF ⟨_, rfl, v, .ty "bool", _, _, d, rfl, .ty "bool", tyv, kv, d, rfl, ?_⟩
    cases d with
    | false => exact iteT k
    | true =>
    refine iteF ?_
    refine ⟨_, rfl, _, rfl, p, C, dx, [], rfl, hp, M.cl, M.n1, by show 0 < 1000; decide, ?_⟩
    refine ⟨_, rfl, _, rfl, p, C, dx, _, rfl, upd_same, M.cl, M.n2, by show 1 < 1000; decide, ?_⟩
    refine ⟨_, rfl, _, rfl, p, C, dx, _, rfl, upd_same, M.cl, M.n3, by show 2 < 1000; decide, ?_⟩
    refine ⟨_, rfl, _, rfl, p, C, dx, _, rfl, upd_same, M.cl, M.n4, by show 3 < 1000; decide, ?_⟩
    exact k _ (Ext1.trans Ext1.put (Ext1.trans Ext1.put (Ext1.trans Ext1.put Ext1.put))) upd_same
end
end Kx


set_option Elab.async false
set_option maxRecDepth 100000
set_option autoImplicit false
/-! parts_of_text, is_text_of_rule, Rule.read, str, == -/
namespace Kx
open PySem L2 PySem.Spec PyProof.Rows Rg Er Ru SX
abbrev sREq : Stmt := inClass (top 30) 4
section
variable {P : Program} {w : World} {K : PySem.W.Frag} {mg : Str → Option Value} {base : Heap}
def gKw : List Value → List Value → List Value := fun us ws => us ++ ws
def gKwV : List V → List V → List V := fun us ws => us ++ ws
end
end Kx


set_option Elab.async false
set_option maxRecDepth 100000
set_option autoImplicit false
/-! str of a rule, == -/
namespace Kx
open PySem L2 PySem.Spec PyProof.Rows Rg Er Ru SX
def spREq (K : PySem.W.Frag) (C : Addr) : Sp := fun vs H Q _ => ∃ a y o n l r, vs = [.ref a, y] ∧ Rl C H a o n l r ∧
  ((∃ b o' n' l' r', y = .ref b ∧ Rl C H b o' n' l' r' ∧ Q (.bl (decide (o = o') && decide (n = n') && decide (l = l') && decide (r = r'))) H) ∨
   ((∃ t, TyX K H y t ∧ PySem.W.kitOne K t (.ref C) = some false) ∧ Q (.bl false) H))
theorem dStr (x y : Str) : decide (V.str x = V.str y) = decide (x = y) := by
  by_cases q : x = y
  · rw [q, decide_eq_true rfl, decide_eq_true rfl]
  · rw [decide_eq_false q]
    exact decide_eq_false fun z => q (V.str.inj z)
theorem dBl (x y : Bool) : decide (V.bl x = V.bl y) = decide (x = y) := by
  by_cases q : x = y
  · rw [q, decide_eq_true rfl, decide_eq_true rfl]
  · rw [decide_eq_false q]
    exact decide_eq_false fun z => q (V.bl.inj z)
section
variable {P : Program} {w : World} {K : PySem.W.Frag} {mg : Str → Option Value} {base : Heap}
theorem scREq : FnScope ["self", "other", "stretches"] ["self", "other"] (defScope sREq) := ⟨rfl, rfl, rfl, by decide +kernel, rfl, by decide +kernel, by decide +kernel⟩
theorem ok_rEq {C f : Addr} {fd : FuncData} (F : L2.Fun K "__eq__" "Rule.__eq__" sREq f fd) (T : Txt mg) (M : RT K mg C) (I : InsT K C) (rk : PySem.W.kitOne K (.ref C) (.ref C) = some true) : FnOk P w K mg base CX0 1 f fd ["self", "other"] (spREq K C) := by
  refine F.ok scREq (fun vs H Q E h => ?_) (fun cdv A outer s H vs Q E hr h => ?_)
  · obtain ⟨a, y, o, n, l, r, rfl, _⟩ := h
    rfl
  · obtain ⟨a, y, o, n, l, r, rfl, ⟨dx, ha⟩, h⟩ := h
    have nd := scREq.nd
    obtain ⟨e1, e2, e3, e4⟩ := rf_lookups (.str o) (.str n) (.bl l) (.bl r)
    refine ⟨_, pss_cons (ps_if (pt_not (pt_val (bIsi (by rfl) T.isi (pv 1) (pe_glob (v := .ref C) (by rfl) M.mgC rfl)))) (pss_one (ps_ret pe_bl)) pss_nil)
      (pss_cons (ps_set (i := 2) nd rfl (.inl rfl) (pe_and (pe_cmpR op_eq (pe_fld (pv 0) rfl) (pe_fld (pv 1) rfl) (nomark _)) (pe_one (pe_cmpR op_eq (pe_fld (pv 0) rfl) (pe_fld (pv 1) rfl) (nomark _)))))
      (pss_one (ps_ret (pe_and (pv 2) (pe_and (pe_cmpR op_eq (pe_fld (pv 0) rfl) (pe_fld (pv 1) rfl) (nomark _)) (pe_one (pe_cmpR op_eq (pe_fld (pv 0) rfl) (pe_fld (pv 1) rfl) (nomark _)))))))), ?_⟩
    rcases h with ⟨b, o', n', l', r', rfl, ⟨dy, hb⟩, k⟩ | ⟨⟨t, ty, no⟩, k⟩
    · obtain ⟨d1, d2, d3, d4⟩ := rf_lookups (.str o') (.str n') (.bl l') (.bl r')
      refine ⟨_, rfl, .ref b, .ref C, _, _, true, rfl, .own C, I.ty hb, rk, true, rfl, iteF ?_⟩
      refine ⟨_, rfl, a, C, dx, _, _, rfl, ha, M.cl, M.n1, e1, _, rfl, b, C, dy, _, _, rfl, hb, M.cl, M.n1, d1, rfl, _, rfl, ?_⟩
      rw [dStr]
      cases e : decide (o = o') with
      | false => rw [e] at k; exact iteF ⟨_, rfl, false, rfl, iteF k⟩
      | true =>
        rw [e, Bool.true_and] at k
        refine iteT ⟨_, rfl, a, C, dx, _, _, rfl, ha, M.cl, M.n2, e2, _, rfl, b, C, dy, _, _, rfl, hb, M.cl, M.n2, d2, rfl, ?_⟩
        rw [dStr]
        cases e5 : decide (n = n') with
        | false => rw [e5] at k; exact ⟨_, rfl, false, rfl, iteF k⟩
        | true =>
          rw [e5, Bool.true_and] at k
          refine ⟨_, rfl, true, rfl, iteT ⟨_, rfl, a, C, dx, _, _, rfl, ha, M.cl, M.n3, e3, _, rfl, b, C, dy, _, _, rfl, hb, M.cl, M.n3, d3, rfl, _, rfl, ?_⟩⟩
          rw [dBl]
          cases e6 : decide (l = l') with
          | false => rw [e6] at k; exact iteF k
          | true =>
            rw [e6, Bool.true_and] at k
            refine iteT ⟨_, rfl, a, C, dx, _, _, rfl, ha, M.cl, M.n4, e4, _, rfl, b, C, dy, _, _, rfl, hb, M.cl, M.n4, d4, rfl, ?_⟩
            rw [dBl]
            exact k
    · exact ⟨_, rfl, y, .ref C, _, _, false, rfl, .own C, ty, no, false, rfl, iteT k⟩
end
end Kx


set_option Elab.async false
set_option maxRecDepth 100000
set_option autoImplicit false
/-! x in t, t == u, where the items are compared by an own == -/
namespace Ow
open PySem PySem.SeqAt
open AutoSeq1 (wpAny_loadPart')
open MeetsSeq MeetsSeq2 MeetsSeq3 SeqRoads2
section
variable {prog : Program} {w : World}
/-- x in t: the items one by one -/
theorem tuple_containsW (l : Addr) (items : Array Value) (n : Nat) (dd : Option Addr) (sl : Array (Option Value)) (x : Value) :
    MeetsIn prog w (Builtin.«tuple.__contains__» ⟨[.ref l, x], []⟩)
      (fun A R s => s.heap.get? l = some { cls := .type "tuple", dict := dd, data := .seq items n, slots := sl } ∧ ∃ St : Nat → Shared → Prop, St 0 s ∧
        (∀ (i : Nat) (y : Value) (s' : Shared), items[i]? = some y → St i s' → wpAny (model prog w) A.in1 (eqBool y x) (fun b s'' => if b = true then R (.ok (.ret (.bool true))) s'' else St (i + 1) s'') (fun e s'' => R (.error e) s'') s') ∧
        ∀ s', St items.size s' → R (.ok (.ret (.bool false))) s') :=
  .of_wp fun A R s h => by
    obtain ⟨hp, g, d, tk, os⟩ := s; obtain ⟨hl, St, h0, step, fin⟩ := h
    wp_walk using wpAny_loadPart' hl, wpAny_forIn_array _ (fun rest b s' => b.1 = none ∧ ∃ i, rest = items.toList.drop i ∧ i ≤ items.size ∧ St i s') _
    case turn =>
      rintro y rest b s' ⟨hb, i, hr, hle, st⟩
      have hlt : i < items.toList.length := by
        rcases Nat.lt_or_ge i items.toList.length with h' | h'
        · exact h'
        · rw [List.drop_of_length_le h'] at hr; cases hr
      rw [List.drop_eq_getElem_cons hlt] at hr
      injection hr with hy hrest
      have at_ : items[i]? = some y := by
        rw [← Array.getElem?_toList, List.getElem?_eq_getElem hlt, hy]
      refine wpAny_bind (wpAny_mono (step i y s' at_ st) (fun bb s'' hh => ?_) fun _ _ x => x)
      cases bb with
      | true =>
        wp_walk
        exact ⟨_, rfl, by simpa using hh⟩
      | false =>
        wp_walk
        exact ⟨rfl, i + 1, hrest, by have : i < items.size := (by simpa using hlt); omega, by simpa using hh⟩
    case fin =>
      rintro ⟨b1, b2⟩ s' ⟨hb, i, hr, hle, st⟩
      simp only at hb
      subst hb
      have : i = items.size := by
        have := congrArg List.length hr
        simp at this
        omega
      subst this
      wp_walk
      exact ⟨_, rfl, fin _ st⟩
    case h =>
      exact ⟨rfl, 0, by simp, Nat.zero_le _, h0⟩
variable {A : Around} {E : Value → Shared → Prop} {s : Shared}
theorem in_tupleW {l : Addr} {items : Array Value} {x : Value} {Q : Value → Shared → Prop} (hl : s.heap.IsTuple l items) (St : Nat → Shared → Prop) (h0 : St 0 s)
    (step : ∀ (i : Nat) (y : Value) (s' : Shared), items[i]? = some y → St i s' → wpAny (model prog w) A.in1 (eqBool y x) (fun b s'' => if b = true then Q (.bool true) s'' else St (i + 1) s'') E s')
    (fin : ∀ s', St items.size s' → Q (.bool false) s') : wpAny (model prog w) A (compareOp .In x (.ref l)) Q E s := by
  obtain ⟨⟨cls, dd, data, sl⟩, ho, hc, n, hd⟩ := id hl
  simp only at hc hd
  subst hc hd
  show wpAny _ _ (do return .bool (← contains (.ref l) x)) Q E s
  have hT : s.TypeIs (.ref l) "tuple" := ⟨_, ho, rfl⟩
  refine wpAny_bind (wpAny_contains_slot hT F.slot_tuple_contains (call_meetsIn (Q := fun v s' => wpAny _ A (truthy v) (fun b s'' => wpAny _ A (pure (Value.bool b)) Q E s'') E s') F.slot_tuple_contains hT F.entry_tuple_contains (F.args_tuple_contains_2 _ _) (tuple_containsW l items n dd sl x) ⟨ho, St, h0, fun i y s' hy st => ?_, fun s' st => ?_⟩))
  · refine wpAny_mono (step i y s' hy st) (fun b s'' h => ?_) fun _ _ e => e
    cases b with
    | true => exact wpAny_pure (wpAny_pure (by simpa using h))
    | false => simpa using h
  · exact wpAny_pure (wpAny_pure (fin s' st))
end
end Ow
set_option Elab.async false
set_option maxRecDepth 100000
set_option autoImplicit false
/-! x in t, t == u over the layer, where the items are instances with an own == that changes nothing -/
namespace Ow
open PySem L2 PySem.Spec PyProof.Rows Rg Ru
section
variable {X : Cx} {CX : CXT} {k : Nat} {C f : Addr} {fd : FuncData} {ps : List Str} {sp : Sp} {E : XK} {pins : List (Addr × Obj)} {σ : L2.St} {H : Hp} {s : Shared}
theorem eqB_own {x : V} {u : Value} {a dx : Addr} {fs : List (Str × V)} {t : Value} {b : Bool} (F : FnOk X.prog X.w X.K X.mg X.base CX k f fd ps sp) (room : Room (k + 1) X.A) (bd : Binds X.K fd ps []) (ex : Passes CX X E)
    (at_ : PySem.W.findIn X.K (.ref C) "__eq__" = some (some (.ref f))) (fn : PySem.W.isFn X.K (.ref f) = true)
    (I : Inv X pins σ H s) (rx : RelV x u) (e : H a = some (.ins C dx fs)) (ty : TyX X.K H x t) (nf : PySem.W.notFirst X.K C t = true) (hs : x = .ref a → b = true)
    (want : ∀ P : VK, P (.bl b) H → sp [.ref a, x] H P E) : wpAny (model X.prog X.w) X.A.in1 (eqBool (.ref a) u) (fun b' s' => b' = b ∧ Inv X pins σ H s') X.xe s := by
  obtain ⟨od, J⟩ := instAt I e
  obtain ⟨m, hF⟩ := I.fr
  obtain ⟨P0, kx, hp, _⟩ := kit_of I rx ty
  unfold eqBool
  refine wpAny_holding ?_
  refine wpAny_ite_split (fun hab => ?_) (fun _ => ?_)
  · have eu : Value.ref a = u := eq_of_beq hab
    have ex : x = .ref a := by
      subst eu
      cases x with
      | ref c => cases rx; rfl
      | non => exact absurd rx (fun z => nomatch z)
      | bl b => exact absurd rx (fun z => nomatch z)
      | int i => obtain ⟨_, z⟩ := rx; cases z
      | str i => obtain ⟨_, z⟩ := rx; cases z
      | byt i => obtain ⟨_, z⟩ := rx; cases z
      | flt i => obtain ⟨_, z⟩ := rx; cases z
      | ty i => exact absurd rx (fun z => nomatch z)
    exact wpAny_bind (wpAny_rule (wpAny_pure ⟨(hs ex).symm, I⟩))
  · refine wpAny_bind (PySem.W.cmp_K (op := .Eq) (tb := t) (room.in1 : Room k X.A.in1).units0 hF I.ok.mod.kin J (kx.ty _ _ I.kIn hp) nf at_ fn ?_)
    refine thn (runIn F room bd ex I (.cons (rvRef a) (.cons rx .nil)) (want (fun v H' => v = .bl b ∧ H' = H) ⟨rfl, rfl⟩)) ?_
    rintro z s' ⟨v', H', I', rv, rfl, rfl⟩
    obtain rfl : z = Value.bool b := rv
    exact wpAny_truthy_bool ⟨rfl, I'⟩
def OwnItem (K : PySem.W.Frag) (C : Addr) (sp : Sp) (E : XK) (H : Hp) (y x : V) (b : Bool) : Prop := ∃ a dx fs t, y = .ref a ∧ H a = some (.ins C dx fs) ∧ TyX K H x t ∧ PySem.W.notFirst K C t = true ∧ (x = .ref a → b = true) ∧ ∀ P : VK, P (.bl b) H → sp [.ref a, x] H P E
def rInOwn (K : PySem.W.Frag) (C : Addr) (sp : Sp) (E : XK) : R2 := fun x y H Q => ∃ (p : Addr) (ys : List V) (bs : List Bool), y = .ref p ∧ SqT K H p ys ∧ bs.length = ys.length ∧ (∀ (i : Nat) (y : V) (b : Bool), ys[i]? = some y → bs[i]? = some b → OwnItem K C sp E H y x b) ∧ Q (.bl (bs.any id)) H
theorem op_inOwn (F : FnOk X.prog X.w X.K X.mg X.base CX k f fd ps sp) (room : Room (k + 1) X.A) (bd : Binds X.K fd ps []) (ex : Passes CX X E)
    (at_ : PySem.W.findIn X.K (.ref C) "__eq__" = some (some (.ref f))) (fn : PySem.W.isFn X.K (.ref f) = true) : OpR X (compareOp .In) (rInOwn X.K C sp E) := by
  rintro pins s σ H x y v u Q I rx ry ⟨p, ys, bs, rfl, hq, bl, all, q⟩
  obtain rfl : u = Value.ref p := ry
  obtain ⟨its, r, pl, hz⟩ := I.tuple hq
  have rl := r.length
  refine in_tupleW pl (fun i s' => Inv X pins σ H s' ∧ (bs.take i).any id = false) ⟨I, rfl⟩ ?_ ?_
  · rintro i w s' hw ⟨I', none⟩
    have hi : i < ys.length := by
      rw [List.getElem?_toArray] at hw
      obtain ⟨lt, _⟩ := List.getElem?_eq_some_iff.mp hw
      omega
    obtain ⟨b, hb⟩ : ∃ b, bs[i]? = some b := ⟨_, List.getElem?_eq_getElem (by omega)⟩
    obtain ⟨a, dx, fs, t, ey, e, ty, nf, hs, want⟩ := all i _ b (List.getElem?_eq_getElem hi) hb
    obtain ⟨w', hw', rw'⟩ := r.get (List.getElem?_eq_getElem hi)
    rw [List.getElem?_toArray] at hw
    obtain rfl : w = w' := Option.some.inj (hw.symm.trans hw')
    rw [ey] at rw'
    obtain rfl : w = Value.ref a := rw'
    refine wpAny_mono (eqB_own F room bd ex at_ fn I' rx e ty nf hs want) (fun b' s'' ⟨eb, I''⟩ => ?_) fun _ _ z => z
    subst eb
    have tk : (bs.take (i + 1)).any id = b' := by
      rw [List.take_add_one, hb, List.any_append, none]
      simp
    cases b' with
    | true =>
      have : bs.any id = true := List.any_eq_true.mpr ⟨true, List.mem_of_getElem? hb, rfl⟩
      rw [this] at q
      exact ⟨.bl true, H, I'', rfl, q⟩
    | false => exact ⟨I'', tk⟩
  · rintro s' ⟨I', none⟩
    have : its.toArray.size = bs.length := by rw [List.size_toArray]; omega
    rw [this, List.take_length] at none
    rw [none] at q
    exact ⟨.bl false, H, I', rfl, q⟩
end
end Ow
set_option Elab.async false
set_option maxRecDepth 100000
set_option autoImplicit false
/-! raise A(..) from B(..), errors with an __init__ of their own -/
namespace Rf
open PySem PySem.Spec PyProof.Rows L2 Er
section
variable {X : Cx} {pins : List (Addr × Obj)} {σ : L2.St} {H : Hp} {s : Shared}
/-- what is new is no frame -/
theorem not_frame (J : Inv X pins σ H s) {a : Addr} (n : s.heap.get? a = none) : a ≠ X.env.locals ∧ a ∉ X.fs := by
  refine ⟨fun z => ?_, fun hb => ?_⟩
  · obtain ⟨m, ⟨o, _, _, e, _⟩, _⟩ := J.loc
    rw [← z, n] at e
    cases e
  · have hb' : a ∈ frs X.stack := by
      rcases J.ok.stk with e | ⟨e, _⟩
      · rw [e]; exact hb
      · rw [e]
        unfold frs at hb ⊢
        rw [List.filterMap_cons]
        split
        · exact hb
        · exact List.mem_cons_of_mem _ hb
    obtain ⟨_, o, e, _⟩ := J.stack.mem hb'
    rw [n] at e
    cases e
/-- a state whose heap holds more, nothing tracked changed -/
theorem inv_more (J : Inv X pins σ H s) {s' : Shared} (more : ∀ b o, s.heap.get? b = some o → s'.heap.get? b = some o) (os : s'.os = s.os) (gs : AllBare s'.gens) : Inv X pins σ H s' := by
  have Z := J.kept (t' := s'.toks) more
  exact ⟨Z.ok, os.trans J.os, gs, Z.base, Z.loc, Z.cell, Z.free, Z.freeC, Z.pin, Z.hok, Z.len⟩
/-- an object that is pinned, let go -/
theorem inv_less {a : Addr} {oe : Obj} (J : Inv X ((a, oe) :: pins) σ H s) (hex : X.ex = []) (new0 : X.s_0.heap.get? a = none) (pa : ∀ p ∈ X.pn ++ pins, p.1 ≠ a) {G : Heap} (same : ∀ b, b ≠ a → G.get? b = s.heap.get? b) : Inv X pins σ H { s with heap := G } := by
  obtain ⟨here, free, nl, nf, nc⟩ := J.pin (a, oe) (List.mem_append_right _ List.mem_cons_self)
  have ne0 : ∀ {b : Addr} {o : Obj}, X.s_0.heap.get? b = some o → b ≠ a := fun {b o} e z => by rw [z, new0] at e; cases e
  have cellOk : ∀ {b : Addr} {v : Option Value}, s.heap.IsCell b v → G.IsCell b v := fun {b v} ⟨o, e, d⟩ => by
    have : b ≠ a := fun z => by
      rw [z] at e
      have e2 : some o = some oe := e.symm.trans here
      cases e2
      exact nc _ d
    exact ⟨o, (same b this).trans e, d⟩
  have U := J.base
  refine ⟨J.ok, J.os, J.bare, ⟨fun b o e n f x => ?_, fun b o e n f x => ?_, U.free, fun b o e x => ?_, U.tups, U.frzs, U.tbls⟩, ?_, fun x c e => ?_, J.free, J.freeC, fun p hp => ?_, fun b o e => ?_, J.len⟩
  · exact (same b (ne0 e)).trans (U.keep b o e n f x)
  · obtain ⟨sl, q⟩ := U.slot b o e n f x
    exact ⟨sl, (same b (ne0 e)).trans q⟩
  · obtain ⟨o', q⟩ := U.there b o e x
    exact ⟨o', (same b (ne0 e)).trans q⟩
  · obtain ⟨m, ⟨o, es, ep, e, r⟩, lk⟩ := J.loc
    refine ⟨m, ⟨o, es, ep, (same _ nl.symm).trans e, r⟩, fun i x v h1 h2 h3 => ?_⟩
    obtain ⟨u, r1, l⟩ := lk i x v h1 h2 h3
    refine ⟨u, r1, ?_⟩
    rcases l with l | ⟨k, c, ec, cl⟩
    · exact .inl l
    · exact .inr ⟨k, c, ec, cellOk cl⟩
  · obtain ⟨v, q⟩ := J.cell x c e
    exact ⟨v, cellOk q⟩
  · have hp' : p ∈ X.pn ++ (a, oe) :: pins := by
      rcases List.mem_append.mp hp with h | h
      · exact List.mem_append_left _ h
      · exact List.mem_append_right _ (List.mem_cons_of_mem _ h)
    obtain ⟨q1, q2⟩ := J.pin p hp'
    exact ⟨(same _ (pa p hp)).trans q1, q2⟩
  · refine (J.hok b o e).stay (fun c v hc y => ?_) (fun _ q => q) (fun _ _ q => q)
    have : c ≠ a := fun z => by
      have fa : H a = none := free
      rcases hc with hc | hc
      · rw [← hc, z, fa] at e; cases e
      · rw [z, fa] at hc; cases hc
    exact (same c this).trans y
/-- an expression that makes an error whose record has its fields -/
def Whole (u : Value) (s' : Shared) : Prop := ∀ (a : Addr) (oe : Obj) (vs : Array Value), u = .ref a → s'.heap.get? a = some oe → oe.data = .fields vs → 4 < vs.size
def PMkW (X : Cx) (e : Expr) (t : L2.St → Hp → XK → Prop) : Prop :=
  ∀ (pins : List (Addr × Obj)) (s : Shared) (σ : L2.St) (H : Hp) (Q : XK), Inv X pins σ H s → t σ H Q → wpAny (model X.prog X.w) X.A (eval e X.env) (fun u s' => MkP X pins σ Q u s' ∧ Whole u s') X.xe s
theorem ps_raiseFrom {W : WX} {e c : Expr} {t1 t2 : L2.St → Hp → XK → Prop} {pos : Pos} (hc : X.calm = true) (hex : X.ex = []) (tk : Takes X W) (he : PMkW X e t1) (hb : PMkW X c t2) :
    PS X (.Raise (some e) (some c) pos) (fun _ σ H => t1 σ H fun cls d H1 => t2 σ H1 fun _ _ H2 => W cls d σ H2) := by
  refine ⟨fun pins s σ H D I want => wpAny_Raise_from (wpAny_mono (he pins s σ H _ I want) (fun u s1 hu => ?_) fun _ _ z => z)⟩
  obtain ⟨⟨a, oe, vs, sI, H1, cls, d, rfl, J1, keep1, new1, at1, zc1, dat1, vs1, free1, os1, gs1, rs1, q1⟩, six1⟩ := hu
  obtain ⟨nl, nf⟩ := not_frame J1 new1
  have J1' := inv_more J1 keep1 os1 gs1
  have P1 : Inv X ((a, oe) :: pins) σ H1 s1 := J1'.pins_of fun p hp => by
    rcases List.mem_cons.mp hp with rfl | hp
    · exact ⟨at1, free1, nl, nf, fun v z => by rw [dat1] at z; cases z⟩
    · exact J1'.pin p (List.mem_append_right _ hp)
  refine wpAny_mono (hb _ s1 σ H1 _ P1 q1) (fun v s2 hv => ?_) fun _ _ z => z
  obtain ⟨⟨b, ob, ws, sJ, H2, cls2, d2, rfl, J2, keep2, new2, at2, zc2, dat2, ws1, free2, os2, gs2, rs2, q2⟩, six2⟩ := hv
  obtain ⟨pa1, pa2, _⟩ := J2.pin (a, oe) (List.mem_append_right _ List.mem_cons_self)
  have atA : s2.heap.get? a = some oe := keep2 _ _ pa1
  have bk : ∀ x o, X.base.get? x = some o → s2.heap.get? x = some o := fun x o z => keep2 _ _ (J2.bk x o z)
  have K0 : X.K.In X.base := I.ok.mod.kin
  have nba : X.base.get? a = none := by
    cases z : X.base.get? a with
    | none => rfl
    | some o => have := J1.bk a o z; rw [new1] at this; cases this
  have nbb : X.base.get? b = none := by
    cases z : X.base.get? b with
    | none => rfl
    | some o => have := J2.bk b o z; rw [new2] at this; cases this
  obtain ⟨l1, l2⟩ := rs1 (model X.prog X.w) X.base K0
  obtain ⟨m1, m2⟩ := rs2 (model X.prog X.w) X.base K0
  have RA : RaiseAt (model X.prog X.w) X.base s2.heap a oe vs cls := ⟨atA, zc1.1, dat1, bk, nba, l1, l2⟩
  have RB : RaiseAt (model X.prog X.w) X.base s2.heap b ob ws cls2 := ⟨at2, zc2.1, dat2, bk, nbb, m1, m2⟩
  have big : 4 < vs.size := six1 a oe vs rfl at1 dat1
  refine raise_from_tree RA big (.inr ⟨b, ob, ws, cls2, rfl, X.base, RB⟩) ?_
  have U3 := RA.set 3 (.ref b)
  have U4 := U3.set 4 (.bool true)
  have one : (((vs.setIfInBounds 3 (.ref b)).setIfInBounds 4 (.bool true)))[1]? = some Value.none := by
    rw [Array.getElem?_setIfInBounds_ne (by decide), Array.getElem?_setIfInBounds_ne (by decide)]
    exact vs1
  refine setFlight_fresh (s := { s2 with heap := _ }) U4.at_ U4.dat one ?_
  refine raiseNew_none' (.inl (I.ok.hd hc)) ?_
  obtain ⟨G, gk, gn⟩ := restrict sJ.heap fun x => decide (x ≠ a)
  have gk' : ∀ x, x ≠ a → G.get? x = sJ.heap.get? x := fun x hx => gk x (decide_eq_true hx)
  have ga : G.get? a = none := gn a (by simp)
  have new0 : X.s_0.heap.get? a = none := by
    cases z : X.s_0.heap.get? a with
    | none => rfl
    | some o =>
      obtain ⟨o', q⟩ := J1.base.there a o z (by rw [hex]; exact List.not_mem_nil)
      rw [new1] at q; cases q
  have L := inv_less J2 hex new0 (fun p hp z => by
    have q := (J1.pin p hp).1
    rw [z, new1] at q; cases q) gk'
  refine tk _ _ (XE.new L (fun x o z => ?_) ga U4.at_ ⟨?_, ?_⟩ U4.dat one pa2 os2 gs2 q2)
  · have nx : x ≠ a := fun y => by
      have z' : G.get? x = some o := z
      rw [y, ga] at z'; cases z'
    have z' : G.get? x = some o := z
    rw [gk' x nx] at z'
    show (((s2.heap.update a _).update a _)).get? x = some o
    rw [Heap.get?_update_other _ _ (Ne.symm nx), Heap.get?_update_other _ _ (Ne.symm nx)]
    exact keep2 _ _ z'
  · rw [Obj.cls_mapFields, Obj.cls_mapFields]; exact zc1.1
  · rw [HandSPX.dict_mapFields, HandSPX.dict_mapFields]; exact zc1.2
end
end Rf
set_option Elab.async false
set_option maxRecDepth 100000
set_option autoImplicit false
/-! an error that is made by a call of its class: its record is whole -/
namespace Rf
open PySem PySem.Spec PyProof.Rows L2 Er
section
variable {X : Cx}
theorem pmkW_own {cx : CXT} {nm : Str} {q1 q2 : Pos} {a0 : Expr} {more : List Expr} {t : TA} {C g : Addr} {lev : Nat} {gd : FuncData} {params : List Str} {sp : Sp} (O : OexC X.K C) (hI : PySem.W.findIn X.K (.ref C) "__init__" = some (some (.ref g)))
    (hT : PySem.W.typeIn X.K (.ref g) = some (.type "function")) (G : FnOk X.prog X.w X.K X.mg X.base cx lev g gd params sp) (rm : Room (lev + 1) X.A) (bd : Binds X.K gd params []) (none_ : Passes cx X (fun _ _ _ => False)) (gl : Gl X nm) (mC : X.mg nm = some (.ref C))
    (args : PA X (a0 :: more) t) (nd : (nm == ("__debug__" : Str)) = false := by decide) (st : starEach (a0 :: more) X.env = (false, eval a0 X.env) :: starEach more X.env := by rfl) (pl : (backTo q2 (starEach more X.env)).any (·.1) = false := by rfl) :
    PMkW X (.Call (.Name nm q1) (a0 :: more) [] q2) (tMkO C sp [] t) := by
  intro pins s σ H Q J want
  obtain ⟨w1, w2, w3, w4, w5, w6, w7, w8, w9, w10, v0, v1, v2, v3, v4, stands, refs⟩ := O.cls
  refine wpAny_Call_Name_kw (ld_glob J gl mC ?_ nd)
  refine PySem.W.callWith_K (h₀ := X.base) J.ok.mod.kin O.kC (thn (args.run q2 pins s σ H _ J want) fun us s1 ⟨vs, H1, J1, rel, few, next⟩ => ⟨J1.kIn, ?_⟩) st pl
  show wpAny _ _ (call (Value.ref C) us) _ _ _
  obtain ⟨heap1, gens1, dr1, tk1, os1⟩ := s1
  have up1 : heap1.objs.size ≤ heap1.objs.size + 1 := Nat.le_succ _
  have free1 : H1 (heap1.objs.size + 1) = none := J1.hok.fresh up1
  have inner := next (heap1.objs.size + 1) free1
  have stays : ∀ b o, heap1.get? b = some o → ((heap1.push (PySem.W.kdv_tup us)).push (PySem.HandSPX.excO C heap1.objs.size)).get? b = some o := fun b o z => Heap.get?_push_of_some _ (Heap.get?_push_of_some _ z)
  have there1 : ((heap1.push (PySem.W.kdv_tup us)).push (PySem.HandSPX.excO C heap1.objs.size)).get? (heap1.objs.size + 1) = some (PySem.HandSPX.excO C heap1.objs.size) := by heap_get
  have J2 : Inv X pins σ (upd H1 (heap1.objs.size + 1) (exo (heap1.objs.size + 1) C none)) ⟨(heap1.push (PySem.W.kdv_tup us)).push (PySem.HandSPX.excO C heap1.objs.size), gens1, dr1, tk1, os1⟩ := J1.laid (t' := tk1) stays up1 (exo_ok there1)
  have rel2 : Vals (V.ref (heap1.objs.size + 1) :: (vs ++ [])) (Value.ref (heap1.objs.size + 1) :: (us ++ [])) := .cons rfl (rel.append .nil)
  have len2 : (Value.ref (heap1.objs.size + 1) :: us ++ []).length = params.length := (rel2.length.symm.trans (G.len _ _ _ _ inner) : _)
  have short : us.length ≤ sizeLine := by
    rw [← Paired.length rel, sizeLine_eq]
    omega
  have bind2 := bd _ (Value.ref (heap1.objs.size + 1) :: us) J2.kIn len2
  rw [List.cons_append] at bind2
  refine wpAny_call (PySem.HandSPX.call_own F.excBase_ValueError (fun Y => PySem.HandSPX.refsVE_contains Y w5 refs) (J1.kIn _ _ stands) (PySem.W.looks_findIn J1.kIn hI) (fun self => PySem.W.bind_fn J1.kIn self hT) short
    (codeAny_mono (G.run _ X.stack _ _ ⟨Value.ref (heap1.objs.size + 1) :: us, []⟩ (Value.ref (heap1.objs.size + 1) :: (us ++ [])) _ _ (fun _ _ _ => False) (rm.make C us []) (J2.env0.make C us []) bind2 rel2 inner) fun res s' got => ?_))
  rcases res with err | fl
  · exact none_ pins σ _ _ err s' J2 got
  cases fl with
  | next => exact got.elim
  | brk => exact got.elim
  | cont => exact got.elim
  | ret u =>
    obtain ⟨v, H2, os2, bare2, un2, hok2, rv, ev, d, fs, ea, ed, hd1, q2⟩ := got
    subst ev
    obtain ⟨heap2, gens2, dr2, tk2, os'⟩ := s'
    obtain ⟨t0, W, K1, kW, gone, rec, na⟩ := mk_end0 (d2 := dr2) (t2 := tk2) J1 up1 stays un2 hok2 os2 bare2 ea ed hd1
    refine ⟨rv, ⟨heap1.objs.size + 1, _, _, ⟨W, gens2, dr2, tk2, os'⟩, _, .ref C, some d, rfl, K1, kW, gone, rec, ⟨rfl, rfl⟩, rfl, rfl, na, rfl, bare2, raises_own O.exC O.tyC, q2⟩, fun a oe ws ea' hg hd => ?_⟩
    cases ea'
    have e : some oe = _ := hg.symm.trans rec
    cases e
    cases hd
    show (4 : Nat) < 6
    decide
end
end Rf
set_option Elab.async false
set_option maxRecDepth 100000
set_option autoImplicit false
/-! raise A(e) from B(e1, e2) -/
namespace Rf
open PySem PySem.Spec PyProof.Rows L2 Er
section
variable {X : Cx}
def tRaise12 (C : Addr) (f : Str) (W : WX) (te t1 t2 : TE) : TS := fun _ σ H => te σ H fun v H1 => ∀ d, H1 d = none → t1 σ (upd H1 d (.xd [(f, v)])) fun _ H2 => t2 σ H2 fun _ H3 => ∀ H4, (∀ b o, H3 b = some o → H4 b = some o) → W (.ref C) (some d) σ H4
theorem ps_raise12 {x y f g1 g2 : Str} {C D fi fj : Addr} {k l : Nat} {fd gd : FuncData} {ps qs : List Str} {e e1 e2 : Expr} {te t1 t2 : TE} {W : WX} {p p' pos pos' pos2 : Pos} (hc : X.calm = true) (hex : X.ex = []) (tk : Takes X W)
    (O : OexC X.K C) (iC : PySem.W.findIn X.K (.ref C) "__init__" = some (some (.ref fi))) (tI : PySem.W.typeIn X.K (.ref fi) = some (.type "function")) (F : FnOk X.prog X.w X.K X.mg X.base CX0 k fi fd ps (spErr1 C f)) (hr : Room (k + 1) X.A) (hb : Binds X.K fd ps []) (hg : Gl X x) (hm : X.mg x = some (.ref C))
    (O2 : OexC X.K D) (iD : PySem.W.findIn X.K (.ref D) "__init__" = some (some (.ref fj))) (tJ : PySem.W.typeIn X.K (.ref fj) = some (.type "function")) (F2 : FnOk X.prog X.w X.K X.mg X.base CX0 l fj gd qs (spErr2 D g1 g2)) (hr2 : Room (l + 1) X.A) (hb2 : Binds X.K gd qs []) (hg2 : Gl X y) (hm2 : X.mg y = some (.ref D))
    (he : PE X e te) (h1 : PE X e1 t1) (h2 : PE X e2 t2) (hdb : (x == ("__debug__" : Str)) = false := by decide) (hdb2 : (y == ("__debug__" : Str)) = false := by decide)
    (hs : starEach [e] X.env = (false, eval e X.env) :: starEach [] X.env := by rfl) (hs1 : starEach [e1, e2] X.env = (false, eval e1 X.env) :: starEach [e2] X.env := by rfl) (hs2 : starEach [e2] X.env = (false, eval e2 X.env) :: starEach [] X.env := by rfl) (pl2 : (backTo pos' (starEach [e2] X.env)).any (·.1) = false := by rfl) :
    PS X (.Raise (some (.Call (.Name x p) [e] [] pos)) (some (.Call (.Name y p') [e1, e2] [] pos')) pos2) (tRaise12 C f W te t1 t2) := by
  have R := ps_raiseFrom (pos := pos2) hc hex tk (pmkW_own (q1 := p) (q2 := pos) O iC tI F hr hb pass0 hg hm (pa_cons (pe_up he) pa_nil hs) hdb hs) (pmkW_own (q1 := p') (q2 := pos') O2 iD tJ F2 hr2 hb2 pass0 hg2 hm2 (pa_cons (pe_up h1) (pa_cons (pe_up h2) pa_nil hs2) hs1) hdb2 hs1 pl2)
  refine ⟨fun pins s σ H D' I h => R.run pins s σ H D' I ?_⟩
  refine ⟨_, h, fun v H1 q => ⟨by show 1 ≤ 1000; decide, fun a na => ⟨a, v, rfl, upd_same, fun d nd ne => ⟨rfl, d, [(f, v)], upd_same, ?_, ?_, ?_⟩⟩⟩⟩
  · rw [upd_ne ne, upd_same]
  · rw [upd_ne ne] at nd; exact nd
  · rw [upd_ne ne] at nd
    rw [left1 na]
    refine ⟨_, q d nd, fun v1 H2 q1 => ⟨_, q1, fun v2 H3 q2 => ⟨by show 2 ≤ 1000; decide, fun b nb => ⟨b, v1, v2, rfl, upd_same, fun d2 nd2 ne2 => ⟨rfl, d2, [(g2, v2), (g1, v1)], ?_, upd_same, ?_, ?_⟩⟩⟩⟩⟩
    · rw [upd_ne (Ne.symm ne2), upd_same]
    · rw [upd_ne ne2] at nd2; exact nd2
    · rw [upd_ne ne2] at nd2
      refine q2 _ fun c o e => ?_
      have c1 : c ≠ d2 := fun z => by rw [z, nd2] at e; cases e
      have c2 : c ≠ b := fun z => by rw [z, nb] at e; cases e
      rw [upd_ne c1, del_ne c2, upd_ne c1, upd_ne c2, upd_ne c1, upd_ne c2]
      exact e
end
end Rf
set_option Elab.async false
set_option maxRecDepth 100000
set_option autoImplicit false
set_option pp.maxSteps 400
set_option pp.deepTerms false
/-! rules in a book; is_rule_of -/
namespace Kx
open PySem L2 PySem.Spec PyProof.Rows Rg Er Ru Tn
abbrev sIsRule : Stmt := top 39
abbrev sBInit : Stmt := inClass (top 38) 1
abbrev RD : Type := Str × Str × Bool × Bool
def RlD (C : Addr) (H : Hp) (a : Addr) (d : RD) : Prop := Rl C H a d.1 d.2.1 d.2.2.1 d.2.2.2 ∧ d.1.length ≤ 4 ∧ d.2.1.length ≤ 4
theorem RlD.same {C a : Addr} {H H' : Hp} {d : RD} (h : RlD C H a d) (e : Same H H') : RlD C H' a d := ⟨h.1.same e, h.2⟩
theorem RlD.inj {C a : Addr} {H : Hp} {d e : RD} (h : RlD C H a d) (k : RlD C H a e) : d = e := by
  obtain ⟨⟨dx, h1⟩, _⟩ := h
  obtain ⟨⟨dy, k1⟩, _⟩ := k
  obtain ⟨d1, d2, d3, d4⟩ := d
  obtain ⟨e1, e2, e3, e4⟩ := e
  dsimp only at h1 k1
  rw [h1] at k1
  obtain ⟨a1, a2, a3, a4⟩ := rf_lookups (.str d1) (.str d2) (.bl d3) (.bl d4)
  obtain ⟨b1, b2, b3, b4⟩ := rf_lookups (.str e1) (.str e2) (.bl e3) (.bl e4)
  have k2 : rf (.str d1) (.str d2) (.bl d3) (.bl d4) = rf (.str e1) (.str e2) (.bl e3) (.bl e4) := by
    have := Option.some.inj k1
    injection this
  rw [k2] at a1 a2 a3 a4
  have z1 := V.str.inj (Option.some.inj (a1.symm.trans b1))
  have z2 := V.str.inj (Option.some.inj (a2.symm.trans b2))
  have z3 := V.bl.inj (Option.some.inj (a3.symm.trans b3))
  have z4 := V.bl.inj (Option.some.inj (a4.symm.trans b4))
  rw [z1, z2, z3, z4]
/-- an entry of a book: a rule, or none -/
def EntR (K : PySem.W.Frag) (C : Addr) (H : Hp) (v : V) (o : Option RD) : Prop := (∃ a d, v = .ref a ∧ RlD C H a d ∧ o = some d) ∨ (o = none ∧ ∀ H', Same H H' → ∃ t, TyX K H' v t ∧ PySem.W.kitOne K t (.ref C) = some false)
theorem EntR.same {K : PySem.W.Frag} {C : Addr} {H H' : Hp} {v : V} {o : Option RD} (h : EntR K C H v o) (e : Same H H') : EntR K C H' v o := by
  rcases h with ⟨a, d, rfl, r, rfl⟩ | ⟨rfl, q⟩
  · exact .inl ⟨a, d, rfl, r.same e, rfl⟩
  · exact .inr ⟨rfl, fun H2 s => q H2 (Same.trans e s)⟩
def EntsR (K : PySem.W.Frag) (C : Addr) (H : Hp) (ys : List V) (os : List (Option RD)) : Prop := ys.length = os.length ∧ ∀ (i : Nat) (o : Option RD), os[i]? = some o → ∃ v, ys[i]? = some v ∧ EntR K C H v o
theorem EntsR.same {K : PySem.W.Frag} {C : Addr} {H H' : Hp} {ys : List V} {os : List (Option RD)} (h : EntsR K C H ys os) (e : Same H H') : EntsR K C H' ys os := ⟨h.1, fun i o q => let ⟨v, a, b⟩ := h.2 i o q; ⟨v, a, b.same e⟩⟩
def inCs (es : List (Nat × Int)) (d : RD) : Bool := (d.1 ++ d.2.1).cps.toList.all fun c => decide (c ∈ es.map (·.1))
theorem not_word {z w : Str} (h : ¬ Word z w) : Txt.lstripChars w z ≠ Str.empty := by
  intro e
  have el : w.cps.toList.length = w.length := by simp [Str.length]
  have lo : stripLo z.cps.contains true w = (w.cps.toList.takeWhile z.cps.contains).length := by unfold stripLo; simp
  have hi : ∀ k, stripHi z.cps.contains false w k = w.length := fun k => rfl
  have le : (w.cps.toList.takeWhile z.cps.contains).length ≤ w.length := by rw [← el]; exact (List.takeWhile_sublist _).length_le
  have lt : (w.cps.toList.takeWhile z.cps.contains).length < w.length := by
    rcases Nat.lt_or_ge (w.cps.toList.takeWhile z.cps.contains).length w.length with q | q
    · exact q
    · exfalso
      refine h fun c hc => ?_
      have all : w.cps.toList.takeWhile z.cps.contains = w.cps.toList := (List.takeWhile_prefix _).eq_of_length (by omega)
      rw [← all] at hc
      have := List.all_eq_true.mp List.all_takeWhile c hc
      simpa using this
  have e' : Txt.stripBy z.cps.contains true false w = Str.empty := e
  unfold Txt.stripBy stripSame stripped at e'
  rw [lo, hi] at e'
  split at e'
  · have : w.length = 0 := by rw [e']; rfl
    omega
  · have := congrArg Str.length e'
    have e2 : (Builtin.Str.strSub w (w.cps.toList.takeWhile z.cps.contains).length w.length).length = w.length - (w.cps.toList.takeWhile z.cps.contains).length := by
      show (w.cps.extract _ _).size = _
      rw [Array.size_extract]
      show min w.length w.cps.size - _ = _
      rw [show w.cps.size = w.length from rfl, Nat.min_self]
    have e0 : Str.empty.length = 0 := rfl
    rw [e2] at this
    omega
theorem lstrip_len (w z : Str) : (Txt.lstripChars w z).length ≤ w.length := by
  show (Txt.stripBy z.cps.contains true false w).length ≤ _
  unfold Txt.stripBy stripSame stripped
  split
  · exact Nat.le_refl _
  · show (w.cps.extract _ _).size ≤ w.cps.size
    rw [Array.size_extract]
    omega
theorem inCs_word {es : List (Nat × Int)} {d : RD} : inCs es d = true ↔ Word (letters es) (d.1 ++ d.2.1) := by
  unfold inCs Word letters
  rw [List.all_eq_true, List.toList_toArray]
  simp only [decide_eq_true_eq]
def spIsRule (K : PySem.W.Frag) (CW C : Addr) : Sp := fun vs H Q _ => ∃ (q : Addr) (xs : List V) (es : List (Nat × Int)) (v : V) (o : Option RD), vs = [.ref q, v] ∧ Wts CW H q es xs ∧ EntR K C H v o ∧
  Q (.bl (match o with | some d => inCs es d | none => false)) H
section
variable {P : Program} {w : World} {K : PySem.W.Frag} {mg : Str → Option Value} {base : Heap}
theorem scIsRule : FnScope ["weights", "value"] ["weights", "value"] (defScope sIsRule) := ⟨rfl, rfl, rfl, by decide +kernel, rfl, by decide +kernel, by decide +kernel⟩
theorem ok_isRule {CW C f f1 ps_ gs : Addr} {fd fd1 fds : FuncData} (F : L2.Fun K "is_rule_of" "is_rule_of" sIsRule f fd) (T : Txt mg) (M : WT K CW) (MR : RT K mg C) (I : InsT K C) (rk : PySem.W.kitOne K (.ref C) (.ref C) = some true)
    (G1 : FnOk P w K mg base CX0 1 f1 fd1 ["signs", "value"] spWrong) (G1B : FnOk P w K mg base CX0 1 f1 fd1 ["signs", "value"] (spWrongB K)) (m1 : mg "wrong_at" = some (.ref f1)) (k1 : PySem.W.keepIn K (.ref f1) = true) (b1 : L2.Binds K fd1 ["signs", "value"] [])
    (po : PropOf K CW "signs" ps_ gs) (GS : FnOk P w K mg base CX0 1 gs fds ["self"] (getSp CW "_signs")) (bS : L2.Binds K fds ["self"] []) : FnOk P w K mg base CX0 3 f fd ["weights", "value"] (spIsRule K CW C) := by
  refine F.ok scIsRule (fun vs H Q E h => ?_) (fun cdv A outer s H vs Q E hr h => ?_)
  · obtain ⟨q, xs, es, v, o, rfl, _⟩ := h
    rfl
  · obtain ⟨q, xs, es, v, o, rfl, ⟨dw, p, hq, hp, pd⟩, ent, k⟩ := h
    have hr1 := hr.mono (show 1 ≤ 2 by decide)
    by_cases good : ∃ d, o = some d ∧ inCs es d = false
    · refine ⟨_, pss_one (ps_ret (pe_and (bIsi (by rfl) T.isi (pv 1) (pe_glob (v := .ref C) (by rfl) MR.mgC rfl)) (pe_one (pe_cmp (pc_isN (pe_call G1B hr1 (by rfl) m1 k1 b1 .nil pass0 (pa_cons (pe_prop (pv 0) M.cl po GS hr bS .nil pass0 rfl) (pa_cons (pe_op op_add_str (pe_fld (pv 1) rfl) (pe_fld (pv 1) rfl)) pa_nil)))))))), ?_⟩
      obtain ⟨d, rfl, bad⟩ := good
      rcases ent with ⟨a, d', rfl, ⟨⟨dx, ha⟩, l4, n4⟩, e⟩ | ⟨z, _⟩
      · cases e
        obtain ⟨e1, e2, _, _⟩ := rf_lookups (.str d.1) (.str d.2.1) (.bl d.2.2.1) (.bl d.2.2.2)
        have len := Str.length_append d.1 d.2.1
        have nw : ¬ Word (letters es) (d.1 ++ d.2.1) := fun z => by rw [inCs_word.mpr z] at bad; cases bad
        refine ⟨_, rfl, .ref a, .ref C, _, _, true, rfl, .own C, I.ty ha, rk, true, rfl, iteT ?_⟩
        refine ⟨_, rfl, q, dw, _, rfl, hq, q, dw, _, _, rfl, hq, wf_signs _ _, ?_⟩
        refine ⟨_, rfl, a, C, dx, _, _, rfl, ha, MR.cl, MR.n1, e1, _, rfl, a, C, dx, _, _, rfl, ha, MR.cl, MR.n2, e2, _, _, rfl, rfl, by rw [sizeLine_eq]; omega, ?_⟩
        refine ⟨_, _, _, rfl, .inl ⟨_, rfl, by omega, not_word nw, Nat.le_trans (lstrip_len _ _) (by omega), rfl⟩, ?_⟩
        dsimp only at k
        rw [bad] at k
        exact k
      · cases z
    · refine ⟨_, pss_one (ps_ret (pe_and (bIsi (by rfl) T.isi (pv 1) (pe_glob (v := .ref C) (by rfl) MR.mgC rfl)) (pe_one (pe_cmp (pc_isN (pe_call G1 hr1 (by rfl) m1 k1 b1 .nil pass0 (pa_cons (pe_prop (pv 0) M.cl po GS hr bS .nil pass0 rfl) (pa_cons (pe_op op_add_str (pe_fld (pv 1) rfl) (pe_fld (pv 1) rfl)) pa_nil)))))))), ?_⟩
      rcases ent with ⟨a, d, rfl, ⟨⟨dx, ha⟩, l4, n4⟩, rfl⟩ | ⟨rfl, q'⟩
      · obtain ⟨e1, e2, _, _⟩ := rf_lookups (.str d.1) (.str d.2.1) (.bl d.2.2.1) (.bl d.2.2.2)
        have len := Str.length_append d.1 d.2.1
        have ok : inCs es d = true := by
          cases z : inCs es d with
          | true => rfl
          | false => exact absurd ⟨d, rfl, z⟩ good
        refine ⟨_, rfl, .ref a, .ref C, _, _, true, rfl, .own C, I.ty ha, rk, true, rfl, iteT ?_⟩
        refine ⟨_, rfl, q, dw, _, rfl, hq, q, dw, _, _, rfl, hq, wf_signs _ _, ?_⟩
        refine ⟨_, rfl, a, C, dx, _, _, rfl, ha, MR.cl, MR.n1, e1, _, rfl, a, C, dx, _, _, rfl, ha, MR.cl, MR.n2, e2, _, _, rfl, rfl, by rw [sizeLine_eq]; omega, ?_⟩
        refine ⟨_, _, rfl, inCs_word.mp ok, by omega, ?_⟩
        dsimp only at k
        rw [ok] at k
        exact k
      · obtain ⟨t, ty, no⟩ := q' H (Same.refl H)
        exact ⟨_, rfl, v, .ref C, _, _, false, rfl, .own C, ty, no, false, rfl, iteF k⟩
end
end Kx

set_option Elab.async false
set_option maxRecDepth 100000
set_option autoImplicit false
set_option pp.maxSteps 400
set_option pp.deepTerms false
/-! Book.__init__ -/
namespace Kx
open PySem L2 PySem.Spec PyProof.Rows Rg Er Ru Tn
theorem h12b : ¬ (("weights" : Str) = "rules") := by decide +kernel
def bf1 (w : Addr) : List (Str × V) := putF "weights" (.ref w) []
def bf (w r : Addr) : List (Str × V) := putF "rules" (.ref r) (bf1 w)
theorem bf_weights (w r : Addr) : (bf w r).lookup ("weights" : Str) = some (.ref w) := by
  unfold bf bf1
  rw [lookup_putF, if_neg h12b, lookup_putF, if_pos rfl]
theorem bf_rules (w r : Addr) : (bf w r).lookup ("rules" : Str) = some (.ref r) := by
  unfold bf
  rw [lookup_putF, if_pos rfl]
structure BT (K : PySem.W.Frag) (C : Addr) : Prop where
  cl : Cls K C
  n1 : NoAttr K C "weights"
  n2 : NoAttr K C "rules"
  rd : ClX.CRead K C (.type "type")
  most : ∃ tk, ClX.CVal K C (.type "type") "MOST" (.int 8) (.int 8 tk)
/-- the first entry that is refused -/
def firstBad (es : List (Nat × Int)) : Nat → List RD → List (Option RD) → Option Nat
  | _, _, [] => none
  | i, _, none :: _ => some i
  | i, seen, some d :: r => if inCs es d = false ∨ d ∈ seen then some i else firstBad es (i + 1) (seen ++ [d]) r
def wtR (es : List (Nat × Int)) (z : Str) : Int := wtC es z.cps.toList
def firstHeavy (es : List (Nat × Int)) : Nat → List RD → Option Nat
  | _, [] => none
  | i, d :: r => if wtR es d.1 ≤ wtR es d.2.1 then some i else firstHeavy es (i + 1) r
/-- an error from another one -/
def raisedF (C : Addr) (f : Str) (v : V) (E : XK) (H : Hp) : Prop := ∀ d H', H d = none → H' d = some (.xd [(f, v)]) → Same H H' → E (.ref C) (some d) H'
structure ErrB2 (P : Program) (w : World) (K : PySem.W.Frag) (mg : Str → Option Value) (base : Heap) (x f g : Str) (C : Addr) : Prop where
  O : OexC K C
  mgC : mg x = some (.ref C)
  init : ∃ fi fd ps, PySem.W.findIn K (.ref C) "__init__" = some (some (.ref fi)) ∧ PySem.W.typeIn K (.ref fi) = some (.type "function") ∧ FnOk P w K mg base CX0 1 fi fd ps (spErr2 C f g) ∧ L2.Binds K fd ps []
def spBInit (K : PySem.W.Frag) (C CW CR CB CH : Addr) : Sp := fun vs H Q E => ∃ (a dx p : Addr) (wv : V) (ys : List V), vs = [.ref a, wv, .ref p] ∧ H a = some (.ins C dx []) ∧ H p = some (.tup ys) ∧ ys.length ≤ 1000 ∧
  (((∃ t, TyX K H wv t ∧ PySem.W.kitOne K t (.ref CW) = some false) ∧ raised CB "at" .non E H) ∨
   ∃ (q : Addr) (xs : List V) (es : List (Nat × Int)) (os : List (Option RD)), wv = .ref q ∧ Wts CW H q es xs ∧ es.length ≤ 4 ∧ EntsR K CR H ys os ∧
    (8 < ys.length → raised CB "at" .non E H) ∧
    (ys.length ≤ 8 → match firstBad es 0 [] os with
      | some i => ∀ H', Same H H' → raised CB "at" (.int (i : Nat)) E H'
      | none => ∀ rs : List RD, os = rs.map some → match firstHeavy es 0 rs with
        | some i => ∀ H', Same H H' → raisedF CH "at" (.int (i : Nat)) E H'
        | none => ∀ H', Ext1 a H H' → H' a = some (.ins C dx (bf q p)) → Q .non H'))
theorem lenD {d e : RD} : decide (d = e) = (decide (d.1 = e.1) && decide (d.2.1 = e.2.1) && decide (d.2.2.1 = e.2.2.1) && decide (d.2.2.2 = e.2.2.2)) := by
  obtain ⟨a, b, c, f⟩ := d
  obtain ⟨a', b', c', f'⟩ := e
  rw [Bool.eq_iff_iff]
  simp [Prod.ext_iff, and_assoc]
/-- what == of two rules asks -/
theorem own_item {K : PySem.W.Frag} {C a b : Addr} {H : Hp} {d e : RD} (I : InsT K C) (ha : RlD C H a d) (hb : RlD C H b e) : Ow.OwnItem K C (spREq K C) E0 H (.ref a) (.ref b) (decide (d = e)) := by
  have ha' := ha
  have hb' := hb
  obtain ⟨⟨dx, h1⟩, _⟩ := ha'
  obtain ⟨⟨dy, h2⟩, _⟩ := hb'
  refine ⟨a, dx, _, .ref C, rfl, h1, I.ty h2, by simp [PySem.W.notFirst], fun z => ?_, fun P p => ?_⟩
  · have z' : b = a := V.ref.inj z
    subst z'
    rw [ha.inj hb]
    exact decide_eq_true rfl
  · rw [lenD] at p
    exact ⟨a, .ref b, _, _, _, _, rfl, ha.1, .inl ⟨b, _, _, _, _, rfl, hb.1, p⟩⟩
section
variable {P : Program} {w : World} {K : PySem.W.Frag} {mg : Str → Option Value} {base : Heap}
abbrev nBInit : List Str := ["self", "weights", "rules", "at", "rule", "old", "new"]
theorem scBInit : FnScope nBInit ["self", "weights", "rules"] (defScope sBInit) := ⟨rfl, rfl, rfl, by decide +kernel, rfl, by decide +kernel, by decide +kernel⟩
set_option maxHeartbeats 0 in
theorem ok_bInit {C CW CR CB CH CU f f1 f2 fe : Addr} {fd fd1 fd2 fde : FuncData} (F : L2.Fun K "__init__" "Book.__init__" sBInit f fd) (T : Txt mg) (M : BT K C) (MW : WT K CW) (MR : RT K mg CR) (IW : InsT K CW) (IR : InsT K CR) (wk : PySem.W.kitOne K (.ref CW) (.ref CW) = some true)
    (mE : mg "enumerate" = none) (mW : mg "Weights" = some (.ref CW)) (mB : mg "Book" = some (.ref C)) (EB : ErrB P w K mg base "BadBook" "at" CB) (EH : ErrB P w K mg base "Heavier" "at" CH) (EU : ErrB2 P w K mg base "Unlessened" "old" "new" CU)
    (G1 : FnOk P w K mg base CX0 3 f1 fd1 ["weights", "value"] (spIsRule K CW CR)) (m1 : mg "is_rule_of" = some (.ref f1)) (k1 : PySem.W.keepIn K (.ref f1) = true) (b1 : L2.Binds K fd1 ["weights", "value"] [])
    (G2 : FnOk P w K mg base CX0 1 f2 fd2 ["pairs", "row"] spWeigh) (m2 : mg "weigh" = some (.ref f2)) (k2 : PySem.W.keepIn K (.ref f2) = true) (b2 : L2.Binds K fd2 ["pairs", "row"] [])
    (Fe : FnOk P w K mg base CX0 1 fe fde ["self", "other"] (spREq K CR)) (be : L2.Binds K fde ["self", "other"] []) (ae : PySem.W.findIn K (.ref CR) "__eq__" = some (some (.ref fe))) (ne_ : PySem.W.isFn K (.ref fe) = true) :
    FnR P w K mg base (L2.CX P w) 4 f (spStar 2 (spBInit K C CW CR CB CH)) := by
  obtain ⟨fi, fdi, psi, r1, r2, r3, r4⟩ := EB.init
  obtain ⟨fj, fdj, psj, j1, j2, j3, j4⟩ := EH.init
  obtain ⟨fl, fdl, psl, l1, l2, l3, l4⟩ := EU.init
  obtain ⟨tkm, most⟩ := M.most
  refine starOkX (N := nBInit) (ps := ["self", "weights"]) (pv := "rules") (sp := spBInit K C CW CR CB CH) F scBInit (fun kV doc pm an cdv ct => StX.bind_star2 (B := fun us => bindArgs (PySem.W.fnOf "__init__" "Book.__init__" (defArgs sBInit) (defBody sBInit) (defScope sBInit) .none kV doc pm an cdv ct) ⟨us, []⟩) (fun a b => rfl) (fun a b r rs => rfl)) (fun cdv A outer s H vs Q E hr h => ?_)
  obtain ⟨a, dx, p, wv, ys, rfl, ha, hp, yl, how⟩ := h
  have nd := scBInit.nd
  have hr2 := hr.mono (show 1 + 1 ≤ 3 by decide)
  have hr1 := hr.mono (show 1 ≤ 3 by decide)
  have tk := takes_of (X := cxOf (L2.CX P w) P w K mg base nBInit "Book.__init__" (defScope sBInit) f cdv A outer s H E) rfl rfl rfl rfl
  refine ⟨_, pss_cons (ps_if (PW.pt (pw_or (pt_not (pt_val (bIsi (by rfl) T.isi (pv 1) (pe_glob (v := .ref CW) (by rfl) mW rfl)))) (pw_or1 (pt_cmpR op_gt (bLen (by rfl) T.len (pv 2)) (ClX.pe_cval (pe_glob (v := .ref C) (by rfl) mB rfl)) (nomark _))))) (pss_one (ps_raise1 rfl tk EB.O r1 r2 r3 hr2 r4 (by rfl) EB.mgC pe_non)) pss_nil)
    (pss_cons (ps_for (passes_of (K := fun e s'' => L2.CX P w outer H s E e s'') rfl) rfl (pi_enumT (by rfl) mE (pa_cons (pv 2) pa_nil)) (pg_tup rfl (pgs_cons (pg_name (i := 3) nd rfl (.inl rfl)) (pgs_cons (pg_name (i := 4) nd rfl (.inl rfl)) pgs_nil)))
      (pss_one (ps_if (PW.pt (pw_or (pt_not (pt_val (pe_call G1 hr (by rfl) m1 k1 b1 .nil pass0 (pa_cons (pv 1) (pa_cons (pv 4) pa_nil))))) (pw_or1 (pt_cmpR (Ow.op_inOwn Fe hr2 be pass0 ae ne_) (pv 4) (pe_slice sl_tup (pv 2) po_none (po_some (pv 3))) rfl)))) (pss_one (ps_raise1 rfl tk EB.O r1 r2 r3 hr2 r4 (by rfl) EB.mgC (pv 3))) pss_nil)))
    (pss_cons (ps_for (passes_of (K := fun e s'' => L2.CX P w outer H s E e s'') rfl) rfl (pi_enumT (by rfl) mE (pa_cons (pv 2) pa_nil)) (pg_tup rfl (pgs_cons (pg_name (i := 3) nd rfl (.inl rfl)) (pgs_cons (pg_name (i := 4) nd rfl (.inl rfl)) pgs_nil)))
      (pss_cons (ps_set (i := 5) nd rfl (.inl rfl) (pe_call G2 hr1 (by rfl) m2 k2 b2 .nil pass0 (pa_cons (pe_fld (pv 1) rfl) (pa_cons (pe_fld (pv 4) rfl) pa_nil))))
      (pss_cons (ps_set (i := 6) nd rfl (.inl rfl) (pe_call G2 hr1 (by rfl) m2 k2 b2 .nil pass0 (pa_cons (pe_fld (pv 1) rfl) (pa_cons (pe_fld (pv 4) rfl) pa_nil))))
      (pss_one (ps_if (pt_cmpR op_le (pv 5) (pv 6) (nomark _)) (pss_one (Rf.ps_raise12 rfl rfl tk EH.O j1 j2 j3 hr2 j4 (by rfl) EH.mgC EU.O l1 l2 l3 hr2 l4 (by rfl) EU.mgC (pv 3) (pv 5) (pv 6))) pss_nil)))))
    (pss_cons (ps_fld (pv 0) (pv 1) rfl) (pss_one (ps_fld (pv 0) (pv 2) rfl))))), ?_⟩
  rcases how with ⟨⟨t, ty, no⟩, bad⟩ | ⟨q, xs, es, os, rfl, wts, e4, ents, many, good⟩
  · exact ⟨_, rfl, wv, .ref CW, _, _, false, rfl, .own CW, ty, no, false, rfl, iteT (iteT bad)⟩
  · have wts' := wts
    obtain ⟨dw, pw, hw1, hw2, hw3⟩ := wts'
    have eb := ents.1
    refine ⟨_, rfl, .ref q, .ref CW, _, _, true, rfl, .own CW, IW.ty hw1, wk, true, rfl, iteF ?_⟩
    refine ⟨_, rfl, _, ys.length, rfl, .inr ⟨_, SqT.of hp, rfl⟩, C, .type "type", _, _, rfl, M.rd, most, (ys.length : Int), 8, rfl, rfl, _, rfl, ?_⟩
    by_cases many8 : 8 < ys.length
    · rw [decide_eq_true (show (ys.length : Int) > 8 by omega)]
      exact iteT (many many8)
    · rw [decide_eq_false (show ¬ (ys.length : Int) > 8 by omega)]
      refine iteF ?_
      replace good := good (by omega)
      clear many
      refine ⟨_, rfl, p, ys, rfl, SqT.of hp, ?_⟩
      refine for_it walk_enumT (fun j σ' G => ∃ y3 y4 y5 y6, σ' = [some (.ref a), some (.ref q), some (.ref p), y3, y4, y5, y6] ∧ Same H G ∧ ∃ seen : List RD, os.take j = seen.map some ∧ firstBad es 0 [] os = firstBad es j seen (os.drop j))
        ⟨_, _, _, _, rfl, Same.refl H, [], rfl, rfl⟩ (fun j σ' G _ y => by obtain ⟨_, _, _, _, _, s, _⟩ := y; exact SqT.of (s _ _ hp)) ?_ ?_
      · rintro j x σ' G G2 hj ⟨y3, y4, y5, y6, rfl, s1, seen, et, fb⟩ ⟨Tt, vx, vy, rfl, hT, rfl, ex, ey⟩
        have ex' : vx = .int (j : Int) := (Option.some.inj ex).symm
        subst ex'
        have hjo : j < os.length := by omega
        have sl : seen.length = j := by
          have := congrArg List.length et
          simp at this; omega
        refine ⟨Tt, _, rfl, SqT.of upd_same, rfl, _, _, rfl, _, _, rfl, rfl, ?_⟩
        have s2 := Same.trans s1 (Same.new (o := .tup [.int (j : Int), vy]) hT)
        generalize upd G Tt (.tup [.int (j : Int), vy]) = G2 at s2 ⊢
        clear hT s1
        obtain ⟨o, ho⟩ : ∃ o, os[j]? = some o := ⟨_, List.getElem?_eq_getElem hjo⟩
        obtain ⟨v', ev', ent⟩ := ents.2 j o ho
        obtain rfl : vy = v' := Option.some.inj (ey.symm.trans ev')
        have dr : os.drop j = o :: os.drop (j + 1) := by
          rw [List.drop_eq_getElem_cons hjo]
          congr 1
          rw [List.getElem?_eq_getElem hjo] at ho
          exact Option.some.inj ho
        rw [dr] at fb
        refine ⟨_, rfl, _, rfl, q, xs, es, vy, o, rfl, ?_, ent.same s2, ?_⟩
        · exact ⟨dw, pw, s2 _ _ hw1, s2 _ _ hw2, hw3.mono fun _ _ _ h => h.same s2⟩
        have bad : ∀ i : Nat, i = j → firstBad es 0 [] os = some j → ∀ H', Same H H' → raised CB "at" (.int (i : Int)) E H' := fun i e z => by
          rw [z] at good
          rw [e]
          exact good
        cases o with
        | none =>
          have z : firstBad es 0 [] os = some j := fb
          exact ⟨_, rfl, iteT (iteT ⟨_, rfl, bad j rfl z _ s2⟩)⟩
        | some d =>
          dsimp only
          cases ic : inCs es d with
          | false =>
            have z : firstBad es 0 [] os = some j := by rw [fb]; unfold firstBad; rw [if_pos (.inl ic)]
            exact ⟨_, rfl, iteT (iteT ⟨_, rfl, bad j rfl z _ s2⟩)⟩
          | true =>
            refine ⟨_, rfl, iteF ?_⟩
            have hp2 := s2 _ _ hp
            refine ⟨_, rfl, _, rfl, _, rfl, (j : Int), rfl, p, ys, rfl, SqT.of hp2, ?_, fun S hS => ?_⟩
            · rw [HT.sIx_nat]
              rintro ⟨_, z⟩
              have : j < ys.length := hj
              omega
            have cut : cutV ys none (some (j : Int)) = ys.take j := by
              unfold cutV
              rw [show HT.sIx ys.length 0 none = 0 from rfl, HT.sIx_nat, List.drop_zero, Nat.sub_zero, Nat.min_eq_left (Nat.le_of_lt hj)]
            rw [cut]
            have s3 := Same.trans s2 (Same.new (o := .tup (ys.take j)) hS)
            have eS : upd G2 S (.tup (ys.take j)) S = some (.tup (ys.take j)) := upd_same
            generalize upd G2 S (.tup (ys.take j)) = G3 at s3 eS ⊢
            have rlx : ∃ ax, vy = .ref ax ∧ RlD CR G3 ax d := by
              rcases ent.same s3 with ⟨ax, d', e1, r, e2⟩ | ⟨z, _⟩
              · cases e2; exact ⟨ax, e1, r⟩
              · cases z
            obtain ⟨ax, rfl, rx⟩ := rlx
            refine ⟨S, ys.take j, seen.map (fun s => decide (s = d)), rfl, SqT.of eS, by rw [List.length_map, sl, List.length_take]; omega, fun i y b hy hb => ?_, ?_⟩
            · have hi : i < j := by
                obtain ⟨lt, _⟩ := List.getElem?_eq_some_iff.mp hb
                rw [List.length_map] at lt; omega
              rw [List.getElem?_take_of_lt hi] at hy
              rw [List.getElem?_map] at hb
              obtain ⟨sd, hsd, rfl⟩ := Option.map_eq_some_iff.mp hb
              have os_i : os[i]? = some (some sd) := by
                rw [← List.getElem?_take_of_lt hi, et, List.getElem?_map, hsd]; rfl
              obtain ⟨v2, ev2, ent2⟩ := ents.2 i _ os_i
              obtain rfl : y = v2 := Option.some.inj (hy.symm.trans ev2)
              rcases ent2.same s3 with ⟨a2, d2, rfl, r2, e2⟩ | ⟨z, _⟩
              · cases e2
                exact own_item IR r2 rx
              · cases z
            · have any : (seen.map (fun s => decide (s = d))).any id = decide (d ∈ seen) := by
                rw [Bool.eq_iff_iff, List.any_map, List.any_eq_true, decide_eq_true_iff]
                constructor
                · rintro ⟨x, hx, e⟩
                  have : x = d := of_decide_eq_true e
                  rw [← this]; exact hx
                · intro h
                  exact ⟨d, h, decide_eq_true rfl⟩
              rw [any]
              refine ⟨_, rfl, ?_⟩
              by_cases dup : d ∈ seen
              · rw [decide_eq_true dup]
                have z : firstBad es 0 [] os = some j := by rw [fb]; unfold firstBad; rw [if_pos (.inr dup)]
                exact iteT ⟨_, rfl, bad j rfl z _ s3⟩
              · rw [decide_eq_false dup]
                refine iteF ⟨_, _, _, _, rfl, s3, seen ++ [d], ?_, ?_⟩
                · rw [List.take_add_one, et, ho, List.map_append]; rfl
                · rw [fb]
                  show (if _ then _ else _) = _
                  rw [if_neg]
                  rintro (z | z)
                  · rw [ic] at z; cases z
                  · exact dup z
      · rintro σ' G ⟨y3, y4, y5, y6, rfl, s1, rs, et, fb⟩
        have full : os = rs.map some := by rw [← et, List.take_of_length_le (by omega)]
        have z : firstBad es 0 [] os = none := by
          rw [fb, List.drop_of_length_le (by omega)]; rfl
        rw [z] at good
        replace good := good rs full
        have rl : rs.length = ys.length := by rw [eb, full, List.length_map]
        have at_ : ∀ (j : Nat) (d : RD) (G' : Hp), Same H G' → rs[j]? = some d → ∃ ax, ys[j]? = some (.ref ax) ∧ RlD CR G' ax d := fun j d G' s h => by
          have : os[j]? = some (some d) := by rw [full, List.getElem?_map, h]; rfl
          obtain ⟨v, ev, ent⟩ := ents.2 j _ this
          rcases ent.same s with ⟨ax, d2, rfl, r, e2⟩ | ⟨z, _⟩
          · cases e2; exact ⟨ax, ev, r⟩
          · cases z
        refine ⟨_, rfl, p, ys, rfl, SqT.of (s1 _ _ hp), ?_⟩
        refine for_it walk_enumT (fun j σ' G => ∃ y3 y4 y5 y6, σ' = [some (.ref a), some (.ref q), some (.ref p), y3, y4, y5, y6] ∧ Same H G ∧ firstHeavy es 0 rs = firstHeavy es j (rs.drop j))
          ⟨_, _, _, _, rfl, s1, rfl⟩ (fun j σ' G _ y => by obtain ⟨_, _, _, _, _, s, _⟩ := y; exact SqT.of (s _ _ hp)) ?_ ?_
        · rintro j x σ' G G2 hj ⟨y3, y4, y5, y6, rfl, s1, fh⟩ ⟨Tt, vx, vy, rfl, hT, rfl, ex, ey⟩
          have ex' : vx = .int (j : Int) := (Option.some.inj ex).symm
          subst ex'
          have hjr : j < rs.length := by omega
          refine ⟨Tt, _, rfl, SqT.of upd_same, rfl, _, _, rfl, _, _, rfl, rfl, ?_⟩
          have s2 := Same.trans s1 (Same.new (o := .tup [.int (j : Int), vy]) hT)
          generalize upd G Tt (.tup [.int (j : Int), vy]) = G2 at s2 ⊢
          clear hT s1
          obtain ⟨d, hd⟩ : ∃ d, rs[j]? = some d := ⟨_, List.getElem?_eq_getElem hjr⟩
          have dr : rs.drop j = d :: rs.drop (j + 1) := by
            rw [List.drop_eq_getElem_cons hjr]
            congr 1
            rw [List.getElem?_eq_getElem hjr] at hd
            exact Option.some.inj hd
          rw [dr] at fh
          obtain ⟨ax, ev, ⟨dxx, rx⟩, o4, n4⟩ := at_ j d G2 s2 hd
          obtain rfl : vy = .ref ax := Option.some.inj (ey.symm.trans ev)
          obtain ⟨e1, e2, _, _⟩ := rf_lookups (.str d.1) (.str d.2.1) (.bl d.2.2.1) (.bl d.2.2.2)
          have pd2 := hw3.mono fun _ _ _ h => h.same s2
          refine ⟨_, rfl, q, CW, dw, _, _, rfl, s2 _ _ hw1, MW.cl, MW.n2, wf_pairs _ _, _, rfl, ax, CR, dxx, _, _, rfl, rx, MR.cl, MR.n1, e1, pw, xs, es, d.1, rfl, s2 _ _ hw2, pd2, e4, by omega, fun G3 s3 => ?_⟩
          have s23 := Same.trans s2 s3
          refine ⟨_, rfl, q, CW, dw, _, _, rfl, s23 _ _ hw1, MW.cl, MW.n2, wf_pairs _ _, _, rfl, ax, CR, dxx, _, _, rfl, s3 _ _ rx, MR.cl, MR.n2, e2, pw, xs, es, d.2.1, rfl, s23 _ _ hw2, pd2.mono (fun _ _ _ h => h.same s3), e4, by omega, fun G4 s4 => ?_⟩
          have s24 := Same.trans s23 s4
          refine ⟨_, rfl, _, rfl, _, _, rfl, rfl, _, rfl, ?_⟩
          by_cases hv : wtR es d.1 ≤ wtR es d.2.1
          · rw [decide_eq_true (show wtC es d.1.cps.toList ≤ wtC es d.2.1.cps.toList from hv)]
            have z : firstHeavy es 0 rs = some j := by rw [fh]; unfold firstHeavy; rw [if_pos hv]
            rw [z] at good
            refine iteT ⟨_, rfl, fun e he => ⟨_, rfl, _, rfl, fun H4 keep => ?_⟩⟩
            exact good _ s24 e H4 he (keep _ _ upd_same) (Same.trans (Same.new he) keep)
          · rw [decide_eq_false (show ¬ wtC es d.1.cps.toList ≤ wtC es d.2.1.cps.toList from hv)]
            refine iteF ⟨_, _, _, _, rfl, s24, ?_⟩
            rw [fh]
            show (if _ then _ else _) = _
            rw [if_neg hv]
        · rintro σ' G ⟨y3, y4, y5, y6, rfl, s1, fh⟩
          have z : firstHeavy es 0 rs = none := by
            rw [fh, List.drop_of_length_le (by omega)]; rfl
          rw [z] at good
          have ha1 := s1 _ _ ha
          refine ⟨_, rfl, _, rfl, a, C, dx, [], rfl, ha1, M.cl, M.n1, by show 0 < 1000; decide, ?_⟩
          refine ⟨_, rfl, _, rfl, a, C, dx, _, rfl, upd_same, M.cl, M.n2, by show 1 < 1000; decide, ?_⟩
          exact good _ (Ext1.trans (Same.ext1 a s1) (Ext1.trans Ext1.put Ext1.put)) upd_same
end
end Kx

set_option Elab.async false
set_option maxRecDepth 100000
set_option autoImplicit false
/-! max(ints, default=d) -/
namespace Tn
open PySem L2 PySem.Spec PyProof.Rows PySem.Calls PySem.W
section
variable {X : Cx} {e d : Expr} {te td : TE} {p pos kpos : Pos}
end
end Tn
set_option Elab.async false
set_option maxRecDepth 100000
set_option autoImplicit false
set_option pp.maxSteps 400
set_option pp.deepTerms false
/-! Book: of, longest, len, [ ], in, == -/
namespace Kx
open PySem L2 PySem.Spec PyProof.Rows Rg Er Ru Tn
abbrev sBOf : Stmt := inClass (top 38) 2
/-- the rules of a book, one by one -/
def RulesAt (CR : Addr) (H : Hp) (ys : List V) (rs : List RD) : Prop := ys.length = rs.length ∧ ∀ (i : Nat) (d : RD), rs[i]? = some d → ∃ a, ys[i]? = some (.ref a) ∧ RlD CR H a d
theorem RulesAt.same {C : Addr} {H H' : Hp} {ys : List V} {rs : List RD} (h : RulesAt C H ys rs) (e : Same H H') : RulesAt C H' ys rs := ⟨h.1, fun i d q => let ⟨a, x, y⟩ := h.2 i d q; ⟨a, x, y.same e⟩⟩
theorem EntsR.rules {K : PySem.W.Frag} {C : Addr} {H : Hp} {ys : List V} {rs : List RD} (h : EntsR K C H ys (rs.map some)) : RulesAt C H ys rs := by
  refine ⟨by rw [h.1, List.length_map], fun i d q => ?_⟩
  obtain ⟨v, e, ent⟩ := h.2 i (some d) (by rw [List.getElem?_map, q]; rfl)
  rcases ent with ⟨a, d', rfl, r, e2⟩ | ⟨z, _⟩
  · cases e2; exact ⟨a, e, r⟩
  · cases z
theorem RulesAt.ents {K : PySem.W.Frag} {C : Addr} {H : Hp} {ys : List V} {rs : List RD} (h : RulesAt C H ys rs) : EntsR K C H ys (rs.map some) := by
  refine ⟨by rw [h.1, List.length_map], fun i o q => ?_⟩
  rw [List.getElem?_map] at q
  obtain ⟨d, hd, rfl⟩ := Option.map_eq_some_iff.mp q
  obtain ⟨a, e, r⟩ := h.2 i d hd
  exact ⟨_, e, .inl ⟨a, d, rfl, r, rfl⟩⟩
def Bk (C CW CR : Addr) (H : Hp) (b : Addr) (es : List (Nat × Int)) (rs : List RD) : Prop := ∃ dx q r xs ys, H b = some (.ins C dx (bf q r)) ∧ Wts CW H q es xs ∧ H r = some (.tup ys) ∧ RulesAt CR H ys rs
theorem Bk.same {C CW CR b : Addr} {H H' : Hp} {es : List (Nat × Int)} {rs : List RD} (h : Bk C CW CR H b es rs) (e : Same H H') : Bk C CW CR H' b es rs := by
  obtain ⟨dx, q, r, xs, ys, h1, h2, h3, h4⟩ := h
  exact ⟨dx, q, r, xs, ys, e _ _ h1, h2.same e, e _ _ h3, h4.same e⟩
/-- what a call of Book is to answer -/
def bookDue (K : PySem.W.Frag) (C CW CR CB CH : Addr) (wv : V) (xs : List V) (H : Hp) (Q : VK) (E : XK) : Prop :=
  (∀ H', Same H H' → (∃ t, TyX K H' wv t ∧ PySem.W.kitOne K t (.ref CW) = some false) ∧ raised CB "at" .non E H') ∨
   ∃ (q : Addr) (ws : List V) (es : List (Nat × Int)) (os : List (Option RD)), wv = .ref q ∧ Wts CW H q es ws ∧ es.length ≤ 4 ∧ EntsR K CR H xs os ∧
    (8 < xs.length → ∀ H', Same H H' → raised CB "at" .non E H') ∧
    (xs.length ≤ 8 → match firstBad es 0 [] os with
      | some i => ∀ H', Same H H' → raised CB "at" (.int (i : Nat)) E H'
      | none => ∀ rs : List RD, os = rs.map some → match firstHeavy es 0 rs with
        | some i => ∀ H', Same H H' → raisedF CH "at" (.int (i : Nat)) E H'
        | none => ∀ H' b, Same H H' → Bk C CW CR H' b es rs → Q (.ref b) H')
theorem book_made {K : PySem.W.Frag} {C CW CR CB CH x dx p : Addr} {wv : V} {xs : List V} {H : Hp} {Q : VK} {E : XK} (hx : H x = none) (hd : H dx = none) (hp : upd (upd H dx (.own x)) x (.ins C dx []) p = none) (l : xs.length ≤ 1000) (h : bookDue K C CW CR CB CH wv xs H Q E) :
    spBInit K C CW CR CB CH [.ref x, wv, .ref p] (upd (upd (upd H dx (.own x)) x (.ins C dx [])) p (.tup xs)) (fun v H3 => v = .non ∧ Q (.ref x) H3) E := by
  have s1 : Same H (upd (upd H dx (.own x)) x (.ins C dx [])) := made_same hx hd
  have s2 : Same H (upd (upd (upd H dx (.own x)) x (.ins C dx [])) p (.tup xs)) := Same.putNew' hp s1
  refine ⟨x, dx, p, wv, xs, rfl, ?_, upd_same, l, ?_⟩
  · rw [upd_ne (ne_of_none upd_same hp)]
    exact upd_same
  rcases h with bad | ⟨q, ws, es, os, rfl, wt, e4, ents, many, good⟩
  · exact .inl (bad _ s2)
  refine .inr ⟨q, ws, es, os, rfl, wt.same s2, e4, ents.same s2, fun h => many h _ s2, fun h => ?_⟩
  have g := good h
  cases e : firstBad es 0 [] os with
  | some i =>
    rw [e] at g
    exact fun H' s3 => g H' (Same.trans s2 s3)
  | none =>
    rw [e] at g
    dsimp only
    intro rs er
    have g2 := g rs er
    cases e2 : firstHeavy es 0 rs with
    | some i =>
      rw [e2] at g2
      exact fun H' s3 => g2 H' (Same.trans s2 s3)
    | none =>
      rw [e2] at g2
      dsimp only
      intro H' e1 hb
      have s3 := same_ext1 hx s2 e1
      have np : p ≠ x := by rintro rfl; rw [upd_same] at hp; cases hp
      subst er
      exact ⟨rfl, g2 H' x s3 ⟨dx, q, p, ws, xs, hb, wt.same s3, e1 _ _ np upd_same, (ents.same s3).rules⟩⟩
def spBOf (K : PySem.W.Frag) (C CW CR CB CH : Addr) : Sp := fun vs H Q E => ∃ (l : Addr) (wv : V) (xs : List V), vs = [.ref C, wv, .ref l] ∧ Sq H l xs ∧ xs.length ≤ 1000 ∧ bookDue K C CW CR CB CH wv xs H Q E
section
variable {P : Program} {w : World} {K : PySem.W.Frag} {mg : Str → Option Value} {base : Heap}
theorem scBOf : FnScope ["cls", "weights", "rules"] ["cls", "weights", "rules"] (defScope sBOf) := ⟨rfl, rfl, rfl, by decide +kernel, rfl, by decide +kernel, by decide +kernel⟩
theorem ok_bOf {C CW CR CB CH f g : Addr} {fd : FuncData} (F : L2.Fun K "of" "Book.of" sBOf f fd) (M : Mk K C g) (G : FnR P w K mg base (L2.CX P w) 4 g (spStar 2 (spBInit K C CW CR CB CH))) : FnOk P w K mg base (L2.CX P w) 6 f fd ["cls", "weights", "rules"] (spBOf K C CW CR CB CH) := by
  refine F.okX scBOf (fun vs H Q E h => ?_) (fun cdv A outer s H vs Q E hr h => ?_)
  · obtain ⟨l, wv, xs, rfl, _⟩ := h
    rfl
  · obtain ⟨l, wv, xs, rfl, hl, ln, due⟩ := h
    have tk := takes_of (X := cxOf (L2.CX P w) P w K mg base ["cls", "weights", "rules"] "Book.of" (defScope sBOf) f cdv A outer s H E) rfl rfl rfl rfl
    refine ⟨_, pss_one (ps_ret (pe_makeV2 M G hr (passes_call tk fun _ _ _ _ h => h) (pv 0) (pa_cons (pv 1) (StX.pa_star (pv 2) pa_nil)))), ?_⟩
    exact ⟨_, rfl, rfl, _, rfl, _, rfl, l, xs, rfl, hl.elim (fun q => .inr (SqL.of q)) (fun q => .inl (SqT.of q)), fun x dx hx hd ne => ⟨[.ref x, wv], xs, by rw [List.append_nil]; rfl, rfl, by rw [sizeLine_eq]; omega, fun p hp => book_made hx hd hp ln due⟩⟩
end
end Kx

set_option Elab.async false
set_option maxRecDepth 100000
set_option autoImplicit false
set_option pp.maxSteps 400
set_option pp.deepTerms false
/-! _law_rule -/
namespace Kx
open PySem L2 PySem.Spec PyProof.Rows Rg Er Ru Tn
abbrev sRule : Stmt := top 47
/-- at t a rule as a tuple -/
def RuleAt (H : Hp) (t : Addr) (d : RD) : Prop := H t = some (.tup [.str d.1, .str d.2.1, .bl d.2.2.1, .bl d.2.2.2])
/-- a rule that a book of these weights takes -/
def GoodR (es : List (Nat × Int)) (d : RD) : Prop := (∀ c ∈ d.1.cps.toList, c ∈ es.map (·.1)) ∧ (∀ c ∈ d.2.1.cps.toList, c ∈ es.map (·.1)) ∧ 1 ≤ d.1.length ∧ d.1.length ≤ 4 ∧ d.2.1.length ≤ 4 ∧ wtR es d.2.1 < wtR es d.1
def PairsOf (H : Hp) (L : Addr) (es : List (Nat × Int)) : Prop := ∃ xs, H L = some (.lst xs) ∧ PairsD H xs es ∧ 1 ≤ es.length ∧ es.length ≤ 4 ∧ (es.map (·.1)).Nodup
def spRule : Sp := fun vs H Q _ => ∃ (c p L : Addr) (n : Nat) (es : List (Nat × Int)), vs = [.ref p, .ref L] ∧ n ≤ 800000 ∧ PenAt c n H p ∧ L ≠ p ∧ PairsOf H L es ∧ (∃ e ∈ es, 0 < e.2) ∧
  ∀ (d : RD) H' t, GoodR es d → RuleAt H' t d → Ink c p (n + 30) H H' → Q (.ref t) H'
/-- a comprehension with a condition, by an invariant -/
theorem lcSel {J : It} {n : Nat} {G : Hp → Prop} {Y : Nat → Hp → V → Hp → Prop} (w : Walk J n G Y) {v : Nat} {tt : TT} {te : TE} {σ : L2.St} {H1 : Hp} {D : Addr} {Qd : Hp → Prop} (Iv : Nat → Hp → List V → Prop) (hn : n < sizeLine)
    (h0 : Iv 0 (upd H1 D (.lst [])) []) (hG : ∀ i H' acc, i ≤ n → Iv i H' acc → G H') (hY : ∀ i H' x H2, Y i H' x H2 → H2 = H')
    (el : ∀ i x H' acc (Q : VK) (Qf : Hp → Prop), i < n → H' D = some (.lst acc) → acc.length ≤ i → Iv i H' acc → Y i H' x H' → (∀ y H4, H4 D = some (.lst acc) → Iv (i + 1) (upd H4 D (.lst (acc ++ [y]))) (acc ++ [y]) → Q y H4) → (∀ H3, H3 D = some (.lst acc) → Iv (i + 1) H3 acc → Qf H3) →
      tt ((wipe σ [v]).set v (some x)) H' fun b H3 => if b = true then te ((wipe σ [v]).set v (some x)) H3 Q else Qf H3)
    (hd : ∀ H' acc, H' D = some (.lst acc) → acc.length ≤ n → Iv n H' acc → Qd H') :
    ∃ W : Nat → Nat → Hp → Prop, (∃ m, W 0 m (upd H1 D (.lst []))) ∧ ∀ i m H, W i m H →
      (J.stop i H ∧ Qd H) ∨ (J.go i H ∧ ∃ Nx : Hp → Prop, (∀ H', Nx H' → ∃ m', m' < m ∧ W (i + 1) m' H') ∧ ∀ x H', J.yld i H x H' → gName v x (wipe σ [v]) H' fun σ2 H2 => wipe σ2 [v] = wipe σ [v] ∧ tt σ2 H2 fun b H3 =>
        if b = true then te σ2 H3 fun y H4 => ∃ acc, H4 D = some (.lst acc) ∧ acc.length < sizeLine ∧ Nx (upd H4 D (.lst (acc ++ [y]))) else Nx H3) := by
  refine lc_it w (fun i H' => ∃ acc, H' D = some (.lst acc) ∧ acc.length ≤ i ∧ Iv i H' acc) ⟨[], upd_same, Nat.le_refl _, h0⟩ (fun i H' hi ⟨acc, _, _, q⟩ => hG i H' acc hi q) ?_ fun H' ⟨acc, q1, q2, q3⟩ => hd H' acc q1 q2 q3
  rintro i x H' H2 hi ⟨acc, ha, hl, iv⟩ y
  obtain rfl := hY _ _ _ _ y
  refine ⟨wipe1 σ v x, ?_⟩
  exact el i x H2 acc _ _ hi ha hl iv y (fun y H4 h4 i4 => ⟨acc, h4, by omega, _, upd_same, by simp; omega, i4⟩) (fun H3 h3 i3 => ⟨acc, h3, by omega, i3⟩)
theorem cut_drop {l : List Nat} {k : Nat} (h : k ≤ l.length) : cutS ⟨l.toArray⟩ (some (k : Int)) none = ⟨(l.drop k).toArray⟩ := by
  have len : (⟨l.toArray⟩ : Str).length = l.length := by show l.toArray.size = _; simp
  unfold cutS
  rw [len, show HT.sIx l.length l.length none = l.length from rfl, HT.sIx_nat, Nat.min_eq_left h, List.toList_toArray, List.take_of_length_le (by simp)]
theorem cut_tail (l : List Nat) : cutS ⟨l.toArray⟩ (some 1) none = ⟨(l.drop 1).toArray⟩ := by
  cases l with
  | nil => rfl
  | cons a r => exact cut_drop (k := 1) (by simp)
theorem PairsOf.ext {c p L : Addr} {n : Nat} {H H' : Hp} {es : List (Nat × Int)} (pen : PenAt c n H p) (Lp : L ≠ p) (h : PairsOf H L es) (i : Ext1 p H H') : PairsOf H' L es := by
  obtain ⟨xs, h1, h2, h3⟩ := h
  refine ⟨xs, i _ _ Lp h1, h2.mono fun t c n q => ⟨i _ _ ?_ q.1, q.2⟩, h3⟩
  rintro rfl
  obtain ⟨_, _, _, h, _⟩ := pen
  rw [q.1] at h
  cases h
theorem heads_at (es : List (Nat × Int)) (n : Nat) (h : n = es.length) : (List.range n).map (fun i => sg ((es.map (·.1)).getD i 0)) = (es.map (·.1)).map sg := by
  subst h
  refine List.ext_getElem? fun i => ?_
  rw [List.getElem?_map, List.getElem?_map]
  rcases Nat.lt_or_ge i es.length with lt | ge
  · rw [List.getElem?_range lt, List.getElem?_eq_getElem (by rw [List.length_map]; exact lt), Option.map_some, Option.map_some]
    congr 2
    rw [List.getD_eq_getElem?_getD, List.getElem?_eq_getElem (by rw [List.length_map]; exact lt)]
    rfl
  · rw [List.getElem?_eq_none (by rw [List.length_range]; exact ge), List.getElem?_eq_none (by rw [List.length_map]; exact ge)]
    rfl
/-- [pair[0] for pair in pairs] -/
theorem lcHeads {K : PySem.W.Frag} {v : Nat} {σ : L2.St} {H1 : Hp} {D L : Addr} {xs : List V} {es : List (Nat × Int)} {Qd : Hp → Prop} (hL : H1 L = some (.lst xs)) (pd : PairsD H1 xs es) (l4 : es.length ≤ 1000) (hv : ∀ x : V, ((wipe σ [v]).set v (some x))[v]? = some (some x)) (hD : H1 D = none)
    (hd : ∀ H', Same H1 H' → H' D = some (.lst ((es.map (·.1)).map sg)) → Qd H') :
    ∃ W : Nat → Nat → Hp → Prop, (∃ m, W 0 m (upd H1 D (.lst []))) ∧ ∀ i m H, W i m H →
      ((Itl K L).stop i H ∧ Qd H) ∨ ((Itl K L).go i H ∧ ∃ Nx : Hp → Prop, (∀ H', Nx H' → ∃ m', m' < m ∧ W (i + 1) m' H') ∧ ∀ x H', (Itl K L).yld i H x H' → gName v x (wipe σ [v]) H' fun σ2 H2 => wipe σ2 [v] = wipe σ [v] ∧ tYes σ2 H2 fun b H3 =>
        if b = true then tOp (rIxT K) (tVar v) (tC (.int 0)) σ2 H3 fun y H4 => ∃ acc, H4 D = some (.lst acc) ∧ acc.length < sizeLine ∧ Nx (upd H4 D (.lst (acc ++ [y]))) else Nx H3) := by
  have al := pd.1
  refine lcMap walk_list (fun i => sg ((es.map (·.1)).getD i 0)) (by rw [sizeLine_eq]; omega) hD (fun H' s => SqL.of (s _ _ hL)) (fun _ _ _ _ y => y.1) ?_ ?_
  · rintro i x H' Q' hi s2 ⟨_, hx⟩ qq
    have hi' : i < es.length := by rw [← al]; exact hi
    obtain ⟨t, et, pt⟩ := pd.2 i _ (List.getElem?_eq_getElem hi')
    rw [hx] at et
    cases et
    refine ⟨_, hv _, t, _, 0, _, rfl, rfl, SqT.of (pt.same s2).1, rfl, ?_⟩
    have := qq _ (Same.refl H')
    rw [show (es.map (·.1)).getD i 0 = es[i].1 from by rw [List.getD_eq_getElem?_getD, List.getElem?_map, List.getElem?_eq_getElem hi']; rfl] at this
    exact this
  · intro H2 s2 hD2
    rw [heads_at es xs.length al] at hD2
    exact hd H2 s2 hD2
theorem mem_heads {es : List (Nat × Int)} {c : Nat} {n : Int} (h : (c, n) ∈ es) : c ∈ es.map (·.1) := List.mem_map.mpr ⟨_, h, rfl⟩
theorem wtC_pos {es : List (Nat × Int)} {c : Nat} {n : Int} {l : List Nat} (nn : ∀ e ∈ es, 0 ≤ e.2) (h : (c, n) ∈ es) (n0 : 0 < n) (hc : c ∈ l) : 0 < wtC es l := by
  have all : ∀ fs : List (Nat × Int), (∀ e ∈ fs, 0 ≤ e.2) → 0 ≤ wtC fs l := by
    intro fs
    induction fs with
    | nil => intro _; exact Int.le_refl _
    | cons e r ih =>
      intro q
      have h1 := ih fun e he => q e (List.mem_cons_of_mem _ he)
      have h2 := q e List.mem_cons_self
      show 0 ≤ e.2 * ((l.count e.1 : Nat) : Int) + wtC r l
      have := Int.mul_nonneg h2 (show (0 : Int) ≤ ((l.count e.1 : Nat) : Int) by omega)
      omega
  induction es with
  | nil => cases h
  | cons e r ih =>
    have q := all r fun e he => nn e (List.mem_cons_of_mem _ he)
    have h2 := nn e List.mem_cons_self
    show 0 < e.2 * ((l.count e.1 : Nat) : Int) + wtC r l
    rcases List.mem_cons.mp h with rfl | h
    · have := Int.mul_pos n0 (show (0 : Int) < ((l.count c : Nat) : Int) by have := List.count_pos_iff.mpr hc; omega)
      dsimp only at this ⊢
      omega
    · have h3 := ih (fun e he => nn e (List.mem_cons_of_mem _ he)) h
      have := Int.mul_nonneg h2 (show (0 : Int) ≤ ((l.count e.1 : Nat) : Int) by omega)
      omega
theorem wtC_nonneg {es : List (Nat × Int)} {l : List Nat} (nn : ∀ e ∈ es, 0 ≤ e.2) : 0 ≤ wtC es l := by
  induction es with
  | nil => exact Int.le_refl _
  | cons e r ih =>
    have h1 := ih fun e he => nn e (List.mem_cons_of_mem _ he)
    have h2 := nn e List.mem_cons_self
    show 0 ≤ e.2 * ((l.count e.1 : Nat) : Int) + wtC r l
    have := Int.mul_nonneg h2 (show (0 : Int) ≤ ((l.count e.1 : Nat) : Int) by omega)
    omega
theorem PairsD.nonneg {H : Hp} {xs : List V} {es : List (Nat × Int)} (h : PairsD H xs es) : ∀ e ∈ es, 0 ≤ e.2 := fun e he => by
  obtain ⟨i, hi⟩ := List.mem_iff_getElem?.mp he
  obtain ⟨t, _, p⟩ := h.2 i e hi
  exact p.2.2.1
/-- the end of _law_rule: new is cut until it is lighter -/
def tRuleEnd (K : PySem.W.Frag) : TS :=
  tSeq (tWhile (tTest (tOp (rI0 fun i j => .bl (decide (j ≤ i))) (tCall spWeight [] E0 (tCons (tVar 1) (tCons (tVar 6) tNil))) (tCall spWeight [] E0 (tCons (tVar 1) (tCons (tVar 5) tNil))))) (tAsg (tSl rSlS (tVar 6) (tPart (tC (.int 1))) tNoPart) (gName 6)))
    (tSeq (tAsg (tCall spPick [] E0 (tCons (tVar 0) (tCons (tLst (tCons (tTup (tCons (tC (.int 0)) (tCons (tC (.int 0)) tNil))) (tCons (tTup (tCons (tC (.int 0)) (tCons (tC (.int 0)) tNil))) (tCons (tTup (tCons (tC (.int 0)) (tCons (tC (.int 0)) tNil))) (tCons (tTup (tCons (tC (.int 1)) (tCons (tC (.int 0)) tNil))) (tCons (tTup (tCons (tC (.int 0)) (tCons (tC (.int 1)) tNil))) (tCons (tTup (tCons (tC (.int 1)) (tCons (tC (.int 1)) tNil))) tNil))))))) tNil))) (gName 7))
      (tRet (tTup (tCons (tVar 5) (tCons (tVar 6) (tCons (tOp rEq (tOp (rIxT K) (tVar 7) (tC (.int 0))) (tC (.int 1))) (tCons (tOp rEq (tOp (rIxT K) (tVar 7) (tC (.int 1))) (tC (.int 1))) tNil)))))))
def TwoB (H : Hp) (t : Addr) : Prop := ∃ a b : Int, H t = some (.tup [.int a, .int b])
theorem TwoB.same {H H' : Hp} {t : Addr} (h : TwoB H t) (e : Same H H') : TwoB H' t := let ⟨a, b, q⟩ := h; ⟨a, b, e _ _ q⟩
theorem rule_end {K : PySem.W.Frag} {D : Ends} {c p L : Addr} {n N : Nat} {y2 y3 y4 y7 : Option V} {H H6 : Hp} {es : List (Nat × Int)} {os ns : List Nat} (pen : PenAt c n H p) (Lp : L ≠ p) (po : PairsOf H L es) (nb : N ≤ 900000) (ink : Ink c p N H H6)
    (osub : ∀ d ∈ os, d ∈ es.map (·.1)) (nsub : ∀ d ∈ ns, d ∈ es.map (·.1)) (o1 : 1 ≤ os.length) (o4 : os.length ≤ 4) (n4 : ns.length ≤ 4) (w0 : 0 < wtC es os)
    (k : ∀ (d : RD) H' t, GoodR es d → RuleAt H' t d → Ink c p (N + 1) H H' → D.rt (.ref t) H') : tRuleEnd K D [some (.ref p), some (.ref L), y2, y3, y4, some (.str ⟨os.toArray⟩), some (.str ⟨ns.toArray⟩), y7] H6 := by
  refine ⟨fun m σ' H' => ∃ j, j ≤ ns.length ∧ m = ns.length - j ∧ σ' = [some (.ref p), some (.ref L), y2, y3, y4, some (.str ⟨os.toArray⟩), some (.str ⟨(ns.drop j).toArray⟩), y7] ∧ Ink c p N H H', ⟨_, 0, Nat.zero_le _, rfl, rfl, ink⟩, ?_⟩
  rintro m σ' H' ⟨j, hj, rfl, rfl, ink⟩
  obtain ⟨xs, hL, pd, l1, l4, nde⟩ := po.ext pen Lp ink.1
  have dsub : ∀ d ∈ ns.drop j, d ∈ es.map (·.1) := fun d hd => nsub d (List.mem_of_mem_drop hd)
  refine ⟨_, rfl, _, rfl, L, xs, es, ns.drop j, rfl, hL, pd, l4, nde, dsub, by rw [List.length_drop]; omega, fun H1 s1 => ?_⟩
  refine ⟨_, rfl, _, rfl, L, xs, es, os, rfl, s1 _ _ hL, pd.mono fun _ _ _ q => q.same s1, l4, nde, osub, by omega, fun H2 s2 => ?_⟩
  refine ⟨_, _, rfl, rfl, _, rfl, ?_⟩
  have ink2 := (ink.same s1).same s2
  by_cases v : wtC es os ≤ wtC es (ns.drop j)
  · rw [decide_eq_true v]
    have lt : j < ns.length := by
      rcases Nat.lt_or_ge j ns.length with lt | ge
      · exact lt
      · rw [List.drop_of_length_le ge, wtC_nil] at v
        omega
    refine iteT ⟨fun σ' H' => σ' = [some (.ref p), some (.ref L), y2, y3, y4, some (.str ⟨os.toArray⟩), some (.str ⟨(ns.drop (j + 1)).toArray⟩), y7] ∧ H' = H2, ?_, ?_⟩
    · rintro σ' H' ⟨rfl, rfl⟩
      exact ⟨_, by omega, j + 1, lt, rfl, rfl, ink2⟩
    · refine ⟨_, rfl, _, rfl, _, rfl, len_small (by show (ns.drop j).toArray.size ≤ _; rw [List.size_toArray, List.length_drop]; omega), ?_⟩
      rw [cut_tail, List.drop_drop]
      exact ⟨rfl, rfl⟩
  · rw [decide_eq_false v]
    refine iteF ?_
    have ml4 : (ns.drop j).length ≤ 4 := by rw [List.length_drop]; omega
    clear hL pd ink s1 s2 nsub n4 hj
    generalize ns.drop j = ms at *
    have ml : ms.length ≤ 4 := ml4
    generalize H2 = G0 at ink2 ⊢
    replace ink := ink2
    clear ink2
    refine ⟨_, rfl, by show 2 ≤ sizeLine; decide, fun t1 h1 => ?_⟩
    have s1 : Same G0 (upd G0 t1 (.tup [.int 0, .int 0])) := Same.new h1
    have e1 : TwoB (upd G0 t1 (.tup [.int 0, .int 0])) t1 := ⟨_, _, upd_same⟩
    replace ink := ink.same s1
    generalize upd G0 t1 (.tup [.int 0, .int 0]) = G1 at e1 ink ⊢
    clear h1 s1
    refine ⟨by show 2 ≤ sizeLine; decide, fun t2 h2 => ?_⟩
    have s2 : Same G1 (upd G1 t2 (.tup [.int 0, .int 0])) := Same.new h2
    have e2 : TwoB (upd G1 t2 (.tup [.int 0, .int 0])) t2 := ⟨_, _, upd_same⟩
    replace e1 := e1.same s2
    replace ink := ink.same s2
    generalize upd G1 t2 (.tup [.int 0, .int 0]) = G2 at e1 e2 ink ⊢
    clear h2 s2
    refine ⟨by show 2 ≤ sizeLine; decide, fun t3 h3 => ?_⟩
    have s3 : Same G2 (upd G2 t3 (.tup [.int 0, .int 0])) := Same.new h3
    have e3 : TwoB (upd G2 t3 (.tup [.int 0, .int 0])) t3 := ⟨_, _, upd_same⟩
    replace e1 := e1.same s3
    replace e2 := e2.same s3
    replace ink := ink.same s3
    generalize upd G2 t3 (.tup [.int 0, .int 0]) = G3 at e1 e2 e3 ink ⊢
    clear h3 s3
    refine ⟨by show 2 ≤ sizeLine; decide, fun t4 h4 => ?_⟩
    have s4 : Same G3 (upd G3 t4 (.tup [.int 1, .int 0])) := Same.new h4
    have e4 : TwoB (upd G3 t4 (.tup [.int 1, .int 0])) t4 := ⟨_, _, upd_same⟩
    replace e1 := e1.same s4
    replace e2 := e2.same s4
    replace e3 := e3.same s4
    replace ink := ink.same s4
    generalize upd G3 t4 (.tup [.int 1, .int 0]) = G4 at e1 e2 e3 e4 ink ⊢
    clear h4 s4
    refine ⟨by show 2 ≤ sizeLine; decide, fun t5 h5 => ?_⟩
    have s5 : Same G4 (upd G4 t5 (.tup [.int 0, .int 1])) := Same.new h5
    have e5 : TwoB (upd G4 t5 (.tup [.int 0, .int 1])) t5 := ⟨_, _, upd_same⟩
    replace e1 := e1.same s5
    replace e2 := e2.same s5
    replace e3 := e3.same s5
    replace e4 := e4.same s5
    replace ink := ink.same s5
    generalize upd G4 t5 (.tup [.int 0, .int 1]) = G5 at e1 e2 e3 e4 e5 ink ⊢
    clear h5 s5
    refine ⟨by show 2 ≤ sizeLine; decide, fun t6 h6 => ?_⟩
    have s6 : Same G5 (upd G5 t6 (.tup [.int 1, .int 1])) := Same.new h6
    have e6 : TwoB (upd G5 t6 (.tup [.int 1, .int 1])) t6 := ⟨_, _, upd_same⟩
    replace e1 := e1.same s6
    replace e2 := e2.same s6
    replace e3 := e3.same s6
    replace e4 := e4.same s6
    replace e5 := e5.same s6
    replace ink := ink.same s6
    generalize upd G5 t6 (.tup [.int 1, .int 1]) = G6 at e1 e2 e3 e4 e5 e6 ink ⊢
    clear h6 s6
    refine ⟨by show 6 ≤ sizeLine; decide, fun l hl => ⟨c, p, N, by omega, ink.2.new hl, .inl ⟨l, _, rfl, ink.2.ne1 hl, upd_same, by show 0 < 6; decide, by show 6 ≤ 1000; decide, fun v H3 hv pen3 x3 => ?_⟩⟩⟩
    have x3' : Ext1 p G6 H3 := Ext1.trans (Ext1.new hl) x3
    obtain ⟨t, rfl, tb⟩ : ∃ t, v = .ref t ∧ TwoB G6 t := by
      simp only [List.mem_cons, List.not_mem_nil, or_false] at hv
      rcases hv with rfl | rfl | rfl | rfl | rfl | rfl
      · exact ⟨_, rfl, e1⟩
      · exact ⟨_, rfl, e2⟩
      · exact ⟨_, rfl, e3⟩
      · exact ⟨_, rfl, e4⟩
      · exact ⟨_, rfl, e5⟩
      · exact ⟨_, rfl, e6⟩
    obtain ⟨a, b, ht⟩ := tb
    have tp : t ≠ p := by
      rintro rfl
      obtain ⟨_, _, _, h, _⟩ := ink.2
      rw [ht] at h
      cases h
    have ht3 := x3' _ _ tp ht
    have i3 : Ink c p (N + 1) H H3 := ⟨Ext1.trans ink.1 x3', pen3⟩
    refine ⟨_, rfl, _, rfl, _, rfl, t, _, 0, .int a, rfl, rfl, SqT.of ht3, rfl, rfl, ?_⟩
    refine ⟨_, rfl, t, _, 1, .int b, rfl, rfl, SqT.of ht3, rfl, rfl, ?_⟩
    refine ⟨by show 4 ≤ sizeLine; decide, fun q hq => ?_⟩
    refine k (⟨os.toArray⟩, ⟨ms.toArray⟩, decide (V.int a = V.int 1), decide (V.int b = V.int 1)) _ q ⟨?_, ?_, ?_, ?_, ?_, ?_⟩ upd_same (i3.new hq)
    · exact fun c hc => osub c (by simpa using hc)
    · exact fun c hc => dsub c (by simpa using hc)
    · show 1 ≤ os.toArray.size; rw [List.size_toArray]; exact o1
    · show os.toArray.size ≤ 4; rw [List.size_toArray]; exact o4
    · show ms.toArray.size ≤ 4; rw [List.size_toArray]; exact ml
    · show wtC es ms < wtC es os; omega
section
variable {P : Program} {w : World} {K : PySem.W.Frag} {mg : Str → Option Value} {base : Heap}
abbrev nRule : List Str := ["_law_pen_here", "_law_pairs_here", "_law_signs", "_law_pair", "_law_heavy", "_law_old", "_law_new", "_law_ends"]
theorem scRule : FnScope nRule ["_law_pen_here", "_law_pairs_here"] (defScope sRule) := ⟨rfl, rfl, rfl, by decide +kernel, rfl, by decide +kernel, by decide +kernel⟩
theorem ok_rule {f f2 f3 f4 : Addr} {fd fd2 fd3 fd4 : FuncData} (F : L2.Fun K "_law_rule" "_law_rule" sRule f fd) (T : Txt mg)
    (G2 : FnOk P w K mg base CX0 2 f2 fd2 ["_law_pen_here", "_law_things"] spPick) (m2 : mg "_law_pick" = some (.ref f2)) (k2 : PySem.W.keepIn K (.ref f2) = true) (b2 : L2.Binds K fd2 ["_law_pen_here", "_law_things"] [])
    (G3 : FnOk P w K mg base CX0 3 f3 fd3 ["_law_pen_here", "_law_signs", "_law_many"] spText) (m3 : mg "_law_text" = some (.ref f3)) (k3 : PySem.W.keepIn K (.ref f3) = true) (b3 : L2.Binds K fd3 ["_law_pen_here", "_law_signs", "_law_many"] [])
    (G4 : FnOk P w K mg base CX0 1 f4 fd4 ["_law_pairs_here", "_law_there"] spWeight) (m4 : mg "_law_weight" = some (.ref f4)) (k4 : PySem.W.keepIn K (.ref f4) = true) (b4 : L2.Binds K fd4 ["_law_pairs_here", "_law_there"] []) :
    FnOk P w K mg base CX0 4 f fd ["_law_pen_here", "_law_pairs_here"] spRule := by
  refine F.ok scRule (fun vs H Q E h => ?_) (fun cdv A outer s H vs Q E hr h => ?_)
  · obtain ⟨c, p, L, n, es, rfl, _⟩ := h
    rfl
  · obtain ⟨c, p, L, n, es, rfl, nb, pen, Lp, po, pos, k⟩ := h
    have nd := scRule.nd
    have hr1 := hr.mono (show 1 ≤ 3 by decide)
    have hr2 := hr.mono (show 2 ≤ 3 by decide)
    refine ⟨_, pss_cons (ps_setLc (i := 2) (own := [("_law_pair", 3)]) (g := gName 3) (tt := tYes) (te := tOp (rIxT K) (tVar 3) (tC (.int 0))) rfl nd rfl rfl (sw_true rfl rfl rfl (by decide +kernel)) (pi_list (pv 1)) (blkOk_by (own := [("_law_pair", 3)]) (N := nRule) (sc := defScope sRule) (by decide +kernel)) (fun _ _ _ _ _ => (pg_name (i := 3) nd rfl (Or.inl rfl))) (fun _ _ _ _ _ => pts_nil) (fun _ _ _ _ _ => (bIxT (pv 3) pe_int)))
      (pss_cons (ps_setLc (i := 4) (own := [("_law_pair", 3)]) (g := gName 3) (tt := tTest (tOp (rI0 fun i j => .bl (decide (j < i))) (tOp (rIxT K) (tVar 3) (tC (.int 1))) (tC (.int 0)))) (te := tOp (rIxT K) (tVar 3) (tC (.int 0))) rfl nd rfl rfl (sw_true rfl rfl rfl (by decide +kernel)) (pi_list (pv 1)) (blkOk_by (own := [("_law_pair", 3)]) (N := nRule) (sc := defScope sRule) (by decide +kernel)) (fun _ _ _ _ _ => (pg_name (i := 3) nd rfl (Or.inl rfl))) (fun _ _ _ _ _ => pts_one (pt_cmpR op_gt (bIxT (pv 3) pe_int) pe_int (nomark _))) (fun _ _ _ _ _ => (bIxT (pv 3) pe_int)))
      (pss_cons (ps_set (i := 5) nd rfl (.inl rfl) (pe_call G3 hr (by rfl) m3 k3 b3 .nil pass0 (pa_cons (pv 0) (pa_cons (pv 2) (pa_cons (pe_call G2 hr2 (by rfl) m2 k2 b2 .nil pass0 (pa_cons (pv 0) (pa_cons (pe_lst (pa_cons pe_int (pa_cons pe_int (pa_cons pe_int (pa_cons pe_int (pa_cons pe_int (pa_cons pe_int pa_nil))))))) pa_nil))) pa_nil)))))
      (pss_cons (ps_set (i := 6) nd rfl (.inl rfl) (pe_call G3 hr (by rfl) m3 k3 b3 .nil pass0 (pa_cons (pv 0) (pa_cons (pv 2) (pa_cons (pe_call G2 hr2 (by rfl) m2 k2 b2 .nil pass0 (pa_cons (pv 0) (pa_cons (pe_lst (pa_cons pe_int (pa_cons pe_int (pa_cons pe_int (pa_cons pe_int (pa_cons pe_int (pa_cons pe_int (pa_cons pe_int pa_nil)))))))) pa_nil))) pa_nil)))))
      (pss_cons (ps_if (pt_cmpR op_eq (pe_call G4 hr1 (by rfl) m4 k4 b4 .nil pass0 (pa_cons (pv 1) (pa_cons (pv 5) pa_nil))) pe_int (nomark _)) (pss_one (ps_set (i := 5) nd rfl (.inl rfl) (pe_op op_add_str (pe_call G2 hr2 (by rfl) m2 k2 b2 .nil pass0 (pa_cons (pv 0) (pa_cons (pv 4) pa_nil))) (pe_slice sl_str (pv 5) (po_some pe_int) po_none)))) pss_nil)
      (pss_cons (ps_while PassesOwn.never (pt_cmpR op_ge (pe_call G4 hr1 (by rfl) m4 k4 b4 .nil pass0 (pa_cons (pv 1) (pa_cons (pv 6) pa_nil))) (pe_call G4 hr1 (by rfl) m4 k4 b4 .nil pass0 (pa_cons (pv 1) (pa_cons (pv 5) pa_nil))) (nomark _)) (pss_one (ps_set (i := 6) nd rfl (.inl rfl) (pe_slice sl_str (pv 6) (po_some pe_int) po_none))))
      (pss_cons (ps_set (i := 7) nd rfl (.inl rfl) (pe_call G2 hr2 (by rfl) m2 k2 b2 .nil pass0 (pa_cons (pv 0) (pa_cons (pe_lst (pa_cons (pe_tup (pa_cons pe_int (pa_cons pe_int pa_nil))) (pa_cons (pe_tup (pa_cons pe_int (pa_cons pe_int pa_nil))) (pa_cons (pe_tup (pa_cons pe_int (pa_cons pe_int pa_nil))) (pa_cons (pe_tup (pa_cons pe_int (pa_cons pe_int pa_nil))) (pa_cons (pe_tup (pa_cons pe_int (pa_cons pe_int pa_nil))) (pa_cons (pe_tup (pa_cons pe_int (pa_cons pe_int pa_nil))) pa_nil))))))) pa_nil))))
      (pss_one (ps_ret (pe_tup (pa_cons (pv 5) (pa_cons (pv 6) (pa_cons (pe_cmpR op_eq (bIxT (pv 7) pe_int) pe_int (nomark _)) (pa_cons (pe_cmpR op_eq (bIxT (pv 7) pe_int) pe_int (nomark _)) pa_nil))))))))))))), ?_⟩
    have po0 := po
    obtain ⟨xs, hL, pd, l1, l4, nde⟩ := po
    have nn := pd.nonneg
    have xl := pd.1
    refine ⟨_, rfl, L, rfl, ⟨_, SqL.of hL⟩, fun D hD => lcHeads hL pd (by omega) (fun _ => rfl) hD fun H1 s1 hD1 => ?_⟩
    have Dp := pen.ne1 hD
    have hL1 := s1 _ _ hL
    have pd1 : PairsD H1 xs es := pd.mono fun _ _ _ q => q.same s1
    refine ⟨_, rfl, L, rfl, ⟨_, SqL.of hL1⟩, fun D2 hD2 => ?_⟩
    refine lcSel walk_list (fun i H' acc => Same H1 H' ∧ ∃ ds : List Nat, acc = ds.map sg ∧ (∀ d ∈ ds, ∃ n, (d, n) ∈ es ∧ 0 < n) ∧ ((∃ j e, j < i ∧ es[j]? = some e ∧ 0 < e.2) → ds ≠ [])) (by rw [sizeLine_eq]; omega) ⟨Same.new hD2, [], rfl, (fun _ h => nomatch h), fun ⟨_, _, h, _⟩ => absurd h (Nat.not_lt_zero _)⟩ (fun i H' acc _ q => SqL.of (q.1 _ _ hL1)) (fun _ _ _ _ y => y.1) ?_ ?_
    · rintro i x H' acc Q' Qf hi hDl hla ⟨s2, ds, rfl, sub, some_⟩ ⟨_, hx⟩ hq hf
      have hi' : i < es.length := by omega
      obtain ⟨t, et, pt⟩ := pd1.2 i _ (List.getElem?_eq_getElem hi')
      rw [hx] at et
      cases et
      have tt := SqT.of (K := K) (pt.same s2).1
      refine ⟨_, rfl, t, _, 1, _, rfl, rfl, tt, rfl, _, _, rfl, rfl, _, rfl, ?_⟩
      by_cases z : 0 < es[i].2
      · rw [decide_eq_true z]
        refine iteT ⟨_, rfl, t, _, 0, _, rfl, rfl, tt, rfl, hq _ _ hDl ⟨Same.putNew hD2 s2, ds ++ [es[i].1], by rw [List.map_append]; rfl, fun d hd => ?_, fun _ z => by simp at z⟩⟩
        rcases List.mem_append.mp hd with hd | hd
        · exact sub d hd
        · rw [List.mem_singleton.mp hd]; exact ⟨_, List.getElem_mem hi', z⟩
      · rw [decide_eq_false z]
        refine iteF (hf _ hDl ⟨s2, ds, rfl, sub, fun ⟨j, e, hj, he, e0⟩ => some_ ⟨j, e, ?_, he, e0⟩⟩)
        rcases Nat.lt_or_ge j i with lt | ge
        · exact lt
        · obtain rfl : j = i := by omega
          rw [List.getElem?_eq_getElem hi'] at he
          cases he
          exact absurd e0 z
    rintro H2 acc hD3 hla ⟨s2, ds, rfl, sub, some_⟩
    have dne : ds ≠ [] := by
      obtain ⟨e, he, e0⟩ := pos
      obtain ⟨j, hj⟩ := List.mem_iff_getElem?.mp he
      exact some_ ⟨j, e, by have := (List.getElem?_eq_some_iff.mp hj).1; omega, hj, e0⟩
    have D2p := (pen.ext s1).ne1 hD2
    have i2 : Ink c p n H H2 := ((Ink.start pen).same s1).same s2
    have hD2' := s2 _ _ hD1
    have po2 : PairsOf H2 L es := po0.ext pen Lp i2.1
    have dl : ds.length ≤ 4 := by rw [List.length_map] at hla; omega
    clear some_ s1 s2 hL1 pd1 hD2 hD1 hD hla hL pd xl
    have csl : (es.map (·.1)).length = es.length := by simp
    refine ⟨_, rfl, _, rfl, _, rfl, by show 6 ≤ sizeLine; decide, fun l hl => ⟨c, p, n, by omega, i2.2.new hl, .inl ⟨l, _, rfl, i2.2.ne1 hl, upd_same, by decide, by decide, fun v H3 hv pen3 x3 => ?_⟩⟩⟩
    obtain ⟨m, rfl, mlo, mhi⟩ : ∃ m : Nat, v = .int (m : Int) ∧ 1 ≤ m ∧ m ≤ 4 := by
      simp only [List.mem_cons, List.not_mem_nil, or_false] at hv
      rcases hv with rfl | rfl | rfl | rfl | rfl | rfl
      · exact ⟨1, rfl, by decide, by decide⟩
      · exact ⟨1, rfl, by decide, by decide⟩
      · exact ⟨2, rfl, by decide, by decide⟩
      · exact ⟨2, rfl, by decide, by decide⟩
      · exact ⟨3, rfl, by decide, by decide⟩
      · exact ⟨4, rfl, by decide, by decide⟩
    have x3' : Ext1 p H2 H3 := Ext1.trans (Ext1.new hl) x3
    have i3 : Ink c p (n + 1) H H3 := ⟨Ext1.trans i2.1 x3', pen3⟩
    have hD3' := x3' _ _ Dp hD2'
    have hD23 := x3' _ _ D2p hD3
    clear hv hl x3 pen3 x3' i2 hD2' hD3 po2
    refine ⟨c, p, D, n + 1, m, es.map (·.1), rfl, by omega, by omega, i3.2, Dp, hD3', by omega, by omega, fun os H4 osub ol i4 => ?_⟩
    have i4' := Ink.trans i3 i4
    have hD4 := i4.1 _ _ Dp hD3'
    have hD24 := i4.1 _ _ D2p hD23
    clear i3 i4 hD3' hD23
    refine ⟨_, rfl, _, rfl, _, rfl, by show 7 ≤ sizeLine; decide, fun l hl => ⟨c, p, n + 1 + 10, by omega, i4'.2.new hl, .inl ⟨l, _, rfl, i4'.2.ne1 hl, upd_same, by decide, by decide, fun v H5 hv pen5 x5 => ?_⟩⟩⟩
    obtain ⟨m2, rfl, mhi2⟩ : ∃ m : Nat, v = .int (m : Int) ∧ m ≤ 4 := by
      simp only [List.mem_cons, List.not_mem_nil, or_false] at hv
      rcases hv with rfl | rfl | rfl | rfl | rfl | rfl | rfl
      · exact ⟨1, rfl, by decide⟩
      · exact ⟨0, rfl, by decide⟩
      · exact ⟨1, rfl, by decide⟩
      · exact ⟨2, rfl, by decide⟩
      · exact ⟨2, rfl, by decide⟩
      · exact ⟨3, rfl, by decide⟩
      · exact ⟨4, rfl, by decide⟩
    have x5' : Ext1 p H4 H5 := Ext1.trans (Ext1.new hl) x5
    have i5 : Ink c p (n + 1 + 10 + 1) H H5 := ⟨Ext1.trans i4'.1 x5', pen5⟩
    have hD5 := x5' _ _ Dp hD4
    have hD25 := x5' _ _ D2p hD24
    clear hv hl x5 pen5 x5' i4' hD4 hD24
    refine ⟨c, p, D, n + 1 + 10 + 1, m2, es.map (·.1), rfl, by omega, by omega, i5.2, Dp, hD5, by omega, by omega, fun ns H6 nsub nl i6 => ?_⟩
    have i6' := Ink.trans i5 i6
    have hD26 := i6.1 _ _ D2p hD25
    clear i5 i6 hD5 hD25
    have po6 : PairsOf H6 L es := po0.ext pen Lp i6'.1
    have olm : os.length = m := ol
    have finish : ∀ (os' : List Nat) (H7 : Hp) (N : Nat), Ink c p N H H7 → N ≤ n + 29 → (∀ d ∈ os', d ∈ es.map (·.1)) → os'.length = m → 0 < wtC es os' →
        tRuleEnd K { nx := fun x H' => Q .non H', rt := Q } [some (.ref p), some (.ref L), some (.ref D), none, some (.ref D2), some (.str ⟨os'.toArray⟩), some (.str ⟨ns.toArray⟩), none] H7 := fun os' H7 N i7 nn7 sub7 ol7 w7 =>
      rule_end pen Lp po0 (by omega) i7 sub7 nsub (by omega) (by omega) (by omega) w7 fun d H' t gd rt i => k d H' t gd rt (i.mono (by omega))
    have po6' := po6
    obtain ⟨xs6, hL6, pd6, _⟩ := po6'
    refine ⟨_, rfl, _, rfl, L, xs6, es, os, rfl, hL6, pd6, l4, nde, osub, by omega, fun H7 s7 => ?_⟩
    have i7 := i6'.same s7
    have hD27 := s7 _ _ hD26
    refine ⟨rfl, _, rfl, ?_⟩
    by_cases z : wtC es os = 0
    · rw [decide_eq_true (show V.int (wtC es os) = V.int 0 by rw [z])]
      refine iteT ⟨_, rfl, _, rfl, c, p, n + 1 + 10 + 1 + 10, by omega, i7.2, .inl ⟨D2, _, rfl, D2p, hD27, by rw [List.length_map]; exact List.length_pos_iff.mpr dne, by rw [List.length_map]; omega, fun v H8 hv pen8 x8 => ?_⟩⟩
      obtain ⟨d, hd, rfl⟩ := List.mem_map.mp hv
      obtain ⟨z1, hz1, hz2⟩ := sub d hd
      refine ⟨_, rfl, _, rfl, _, rfl, len_small (by show os.toArray.size ≤ _; rw [List.size_toArray]; omega), ?_⟩
      rw [cut_tail]
      refine ⟨_, _, rfl, rfl, by show 1 + (os.drop 1).toArray.size ≤ _; rw [List.size_toArray, List.length_drop, sizeLine_eq]; omega, ?_⟩
      have ej : (⟨#[d]⟩ : Str) ++ ⟨(os.drop 1).toArray⟩ = ⟨(d :: os.drop 1).toArray⟩ := by
        show (⟨#[d] ++ (os.drop 1).toArray⟩ : Str) = _
        simp
      rw [ej]
      refine finish (d :: os.drop 1) H8 _ ⟨Ext1.trans i7.1 x8, pen8⟩ (by omega) (fun e he => ?_) (by rw [List.length_cons, List.length_drop]; omega) (wtC_pos nn hz1 hz2 List.mem_cons_self)
      rcases List.mem_cons.mp he with rfl | he
      · exact mem_heads hz1
      · exact osub e (List.mem_of_mem_drop he)
    · rw [decide_eq_false (fun q => z (V.int.inj q))]
      have := wtC_nonneg (l := os) nn
      exact iteF (finish os H7 _ i7 (by omega) osub ol (by omega))
end
end Kx

set_option Elab.async false
set_option maxRecDepth 100000
set_option autoImplicit false
set_option pp.maxSteps 400
set_option pp.deepTerms false
/-! items of lists of rules; _law_rules -/
namespace Kx
open PySem L2 PySem.Spec PyProof.Rows Rg Er Ru Tn
abbrev sRules : Stmt := top 48
/-- what may stand in a list that a book is asked of -/
inductive Itm where
  | non | text | empty | seven
  | rule (d : RD)
  deriving DecidableEq
def itD : Itm → PyData
  | .non => .none
  | .text => .str "x>o"
  | .empty => .tuple []
  | .seven => .int 7
  | .rule d => .tuple [.str d.1, .str d.2.1, .bool d.2.2.1, .bool d.2.2.2]
def ItAt (H : Hp) (v : V) : Itm → Prop
  | .non => v = .non
  | .text => v = .str "x>o"
  | .empty => ∃ t, v = .ref t ∧ H t = some (.tup [])
  | .seven => v = .int 7
  | .rule d => ∃ t, v = .ref t ∧ RuleAt H t d
def OkR (d : RD) : Prop := lets 1 d.1 = true ∧ lets 0 d.2.1 = true
def OkIt : Itm → Prop
  | .rule d => OkR d
  | _ => True
def ItsAt (H : Hp) (xs : List V) (is : List Itm) : Prop := xs.length = is.length ∧ ∀ (i : Nat) (it : Itm), is[i]? = some it → ∃ v, xs[i]? = some v ∧ ItAt H v it
/-- all but p stands, and p is a list -/
theorem ItAt.ext {c p : Addr} {n : Nat} {H H' : Hp} {v : V} {it : Itm} (pen : PenAt c n H p) (h : ItAt H v it) (e : Ext1 p H H') : ItAt H' v it := by
  have np : ∀ t ys, H t = some (.tup ys) → t ≠ p := by
    rintro t ys h rfl
    obtain ⟨_, _, _, q, _⟩ := pen
    rw [h] at q
    cases q
  cases it with
  | non => exact h
  | text => exact h
  | seven => exact h
  | empty => obtain ⟨t, rfl, h⟩ := h; exact ⟨t, rfl, e _ _ (np _ _ h) h⟩
  | rule d => obtain ⟨t, rfl, h⟩ := h; exact ⟨t, rfl, e _ _ (np _ _ h) h⟩
theorem ItAt.same {H H' : Hp} {v : V} {it : Itm} (h : ItAt H v it) (e : Same H H') : ItAt H' v it := by
  cases it with
  | non => exact h
  | text => exact h
  | seven => exact h
  | empty => obtain ⟨t, rfl, h⟩ := h; exact ⟨t, rfl, e _ _ h⟩
  | rule d => obtain ⟨t, rfl, h⟩ := h; exact ⟨t, rfl, e _ _ h⟩
/-- a list is put anew: no item of it is one -/
theorem ItAt.put {H : Hp} {v : V} {it : Itm} {l : Addr} {xs ys : List V} (h : ItAt H v it) (hl : H l = some (.lst xs)) : ItAt (upd H l (.lst ys)) v it := by
  have np : ∀ t ys, H t = some (.tup ys) → t ≠ l := by
    rintro t ys h rfl
    rw [h] at hl
    cases hl
  cases it with
  | non => exact h
  | text => exact h
  | seven => exact h
  | empty => obtain ⟨t, rfl, h⟩ := h; exact ⟨t, rfl, by rw [upd_ne (np _ _ h)]; exact h⟩
  | rule d => obtain ⟨t, rfl, h⟩ := h; exact ⟨t, rfl, by show upd _ _ _ _ = _; rw [upd_ne (np _ _ h)]; exact h⟩
theorem ItsAt.mono {H H' : Hp} {xs : List V} {is : List Itm} (h : ItsAt H xs is) (e : ∀ v it, ItAt H v it → ItAt H' v it) : ItsAt H' xs is := ⟨h.1, fun i it q => let ⟨v, a, b⟩ := h.2 i it q; ⟨v, a, e _ _ b⟩⟩
theorem ItsAt.snoc {H : Hp} {xs : List V} {is : List Itm} {v : V} {it : Itm} (h : ItsAt H xs is) (q : ItAt H v it) : ItsAt H (xs ++ [v]) (is ++ [it]) := by
  refine ⟨by simp [h.1], fun i e he => ?_⟩
  have hl := h.1
  by_cases lt : i < is.length
  · rw [List.getElem?_append_left lt] at he
    rw [List.getElem?_append_left (by omega)]
    exact h.2 i e he
  · rw [List.getElem?_append_right (by omega)] at he
    obtain ⟨i0, ei⟩ := List.getElem?_eq_some_iff.mp he
    have i0' : i - is.length = 0 := by simp at i0; omega
    rw [List.getElem?_append_right (by omega), show i - xs.length = 0 by omega]
    rw [i0'] at he
    cases he
    exact ⟨v, rfl, q⟩
theorem eqv_it (a b : Itm) : PyData.eqv (itD a) (itD b) = decide (a = b) := by
  cases a with
  | rule d =>
    cases b with
    | rule e =>
      obtain ⟨d1, d2, d3, d4⟩ := d
      obtain ⟨e1, e2, e3, e4⟩ := e
      rw [Bool.eq_iff_iff]
      simp [itD, PyData.eqv, PyData.eqvAll, and_assoc]
    | _ => simp [itD, PyData.eqv, PyData.eqvAll]
  | non => cases b <;> simp [itD, PyData.eqv, PyData.eqvAll]
  | text => cases b <;> simp [itD, PyData.eqv, PyData.eqvAll]
  | empty => cases b <;> simp [itD, PyData.eqv, PyData.eqvAll]
  | seven => cases b <;> simp [itD, PyData.eqv, PyData.eqvAll]
theorem any_it (is : List Itm) (it : Itm) : ((is.map itD).any fun z => PyData.eqv z (itD it)) = decide (it ∈ is) := by
  rw [Bool.eq_iff_iff, List.any_eq_true, decide_eq_true_iff]
  constructor
  · rintro ⟨z, hz, e⟩
    obtain ⟨a, ha, rfl⟩ := List.mem_map.mp hz
    rw [eqv_it] at e
    rw [← of_decide_eq_true e]
    exact ha
  · intro h
    exact ⟨itD it, List.mem_map.mpr ⟨it, h, rfl⟩, by rw [eqv_it]; exact decide_eq_true rfl⟩
theorem lets_abc {lo : Nat} {z : Str} (h : lets lo z = true) : ∀ c ∈ z.cps.toList, c ∈ abc.cps.toList := by
  unfold lets at h
  rw [Bool.and_eq_true] at h
  intro c hc
  exact of_decide_eq_true (List.all_eq_true.mp h.2 c hc)
theorem strOk_abc {z : Str} (h : ∀ c ∈ z.cps.toList, c ∈ abc.cps.toList) : PyData.strOk z = true := by
  unfold PyData.strOk
  rw [← Array.all_toList, List.all_eq_true]
  intro c hc
  exact decide_eq_true (abc_lt (h c hc))
theorem lay_it {it : Itm} (h : OkIt it) : (itD it).canLay0 = true ∧ (itD it).depth ≤ 1 := by
  cases it with
  | rule d =>
    have h1 := strOk_abc (lets_abc h.1)
    have h2 := strOk_abc (lets_abc h.2)
    constructor
    · simp [itD, PyData.canLay0, PyData.canLayAll0, h1, h2]
    · simp [itD, PyData.depth, PyData.depthAll]
  | non => exact ⟨rfl, by decide⟩
  | text => exact ⟨by decide +kernel, by decide +kernel⟩
  | empty => exact ⟨by simp [itD, PyData.canLay0, PyData.canLayAll0], by simp [itD, PyData.depth, PyData.depthAll]⟩
  | seven => exact ⟨by simp [itD, PyData.canLay0], by simp [itD, PyData.depth]⟩
theorem lay_its : ∀ {is : List Itm}, (∀ it ∈ is, OkIt it) → PyData.canLayAll0 (is.map itD) = true ∧ PyData.depthAll (is.map itD) ≤ 1
  | [], _ => ⟨rfl, Nat.zero_le _⟩
  | it :: r, h => by
    obtain ⟨a, b⟩ := lay_its (is := r) fun x hx => h x (List.mem_cons_of_mem _ hx)
    obtain ⟨c, d⟩ := lay_it (h it List.mem_cons_self)
    refine ⟨by simp only [List.map_cons, PyData.canLayAll0, c, a, Bool.and_self], ?_⟩
    simp only [List.map_cons, PyData.depthAll]
    omega
theorem shaped_it {it : Itm} (h : OkIt it) : SeqAt.shaped (itD it) = true := by
  obtain ⟨a, b⟩ := lay_it h
  show ((itD it).canLay0 && decide ((itD it).depth ≤ 64)) = true
  rw [a, decide_eq_true (by omega)]
  rfl
theorem shaped_its {is : List Itm} (h : ∀ it ∈ is, OkIt it) : SeqAt.shaped (.list (is.map itD)) = true := by
  obtain ⟨a, b⟩ := lay_its h
  show (PyData.canLayAll0 (is.map itD) && decide (PyData.depthAll (is.map itD) + 1 ≤ 64)) = true
  rw [a, decide_eq_true (by omega)]
  rfl
theorem ItAt.dp {K : PySem.W.Frag} {H : Hp} {v : V} {it : Itm} (h : ItAt H v it) : Dp K H v (itD it) := by
  cases it with
  | non => cases h; exact .non
  | text => cases h; exact .str _
  | seven => cases h; exact .int _
  | empty => obtain ⟨t, rfl, h⟩ := h; exact .tup (SqT.of h) .nil
  | rule d => obtain ⟨t, rfl, h⟩ := h; exact .tup (SqT.of h) (.cons (.str _) (.cons (.str _) (.cons (.bl _) (.cons (.bl _) .nil))))
theorem dp_its {K : PySem.W.Frag} {H : Hp} : ∀ {xs : List V} {is : List Itm}, ItsAt H xs is → DpAll K H xs (is.map itD)
  | [], [], _ => .nil
  | [], _ :: _, h => by have := h.1; simp at this
  | _ :: _, [], h => by have := h.1; simp at this
  | x :: r, e :: t, h => by
    obtain ⟨v, hv, p⟩ := h.2 0 e rfl
    cases hv
    exact .cons p.dp (dp_its ⟨by have := h.1; simpa using this, fun i f q => h.2 (i + 1) f q⟩)
theorem GoodR.ok {es : List (Nat × Int)} {d : RD} (abcs : ∀ e ∈ es, e.1 ∈ abc.cps.toList) (h : GoodR es d) : OkR d := by
  obtain ⟨h1, h2, h3, h4, h5, _⟩ := h
  have q : ∀ c, c ∈ es.map (·.1) → isL c = true := fun c hc => by
    obtain ⟨e, he, rfl⟩ := List.mem_map.mp hc
    exact decide_eq_true (abcs e he)
  constructor
  · unfold lets
    rw [decide_eq_true h3, decide_eq_true h4, List.all_eq_true.mpr fun c hc => q c (h1 c hc)]
    rfl
  · unfold lets
    rw [decide_eq_true (Nat.zero_le _), decide_eq_true h5, List.all_eq_true.mpr fun c hc => q c (h2 c hc)]
    rfl
theorem PairsOf.abc {H : Hp} {L : Addr} {es : List (Nat × Int)} (h : PairsOf H L es) : ∀ e ∈ es, e.1 ∈ Kx.abc.cps.toList := by
  obtain ⟨xs, _, pd, _⟩ := h
  exact pd.abc
/-- at F a list of these items -/
def ItsOf (H : Hp) (F : Addr) (is : List Itm) : Prop := ∃ xs, H F = some (.lst xs) ∧ ItsAt H xs is
theorem ItsOf.same {H H' : Hp} {F : Addr} {is : List Itm} (h : ItsOf H F is) (e : Same H H') : ItsOf H' F is := by
  obtain ⟨xs, h1, h2⟩ := h
  exact ⟨xs, e _ _ h1, h2.mono fun _ _ q => q.same e⟩
theorem ItsOf.ext {c p F : Addr} {n : Nat} {H H' : Hp} {is : List Itm} (pen : PenAt c n H p) (Fp : F ≠ p) (h : ItsOf H F is) (e : Ext1 p H H') : ItsOf H' F is := by
  obtain ⟨xs, h1, h2⟩ := h
  exact ⟨xs, e _ _ Fp h1, h2.mono fun _ _ q => q.ext pen e⟩
def spRules : Sp := fun vs H Q _ => ∃ (c p L : Addr) (n cap : Nat) (es : List (Nat × Int)), vs = [.ref p, .ref L, .int (cap : Int)] ∧ cap ≤ 8 ∧ n ≤ 700000 ∧ PenAt c n H p ∧ L ≠ p ∧ PairsOf H L es ∧ (∃ e ∈ es, 0 < e.2) ∧
  ∀ (F : Addr) H' (ds : List RD), F ≠ p → ItsOf H' F (ds.map .rule) → (∀ d ∈ ds, GoodR es d) → ds.Nodup → ds.length ≤ cap → Ink c p (n + 300) H H' → Q (.ref F) H'
theorem room65 {k : Nat} {A : Around} (r : Room (k + 1) A) : A.units + 65 < cLine := by have := r.un; omega
section
variable {P : Program} {w : World} {K : PySem.W.Frag} {mg : Str → Option Value} {base : Heap}
abbrev nRules : List Str := ["_law_pen_here", "_law_pairs_here", "_law_cap", "_law_found", "_law_k", "_law_rule_here"]
theorem scRules : FnScope nRules ["_law_pen_here", "_law_pairs_here", "_law_cap"] (defScope sRules) := ⟨rfl, rfl, rfl, by decide +kernel, rfl, by decide +kernel, by decide +kernel⟩
theorem ok_rules {f f1 f2 : Addr} {fd fd1 fd2 : FuncData} (F : L2.Fun K "_law_rules" "_law_rules" sRules f fd) (T : Txt mg)
    (G1 : FnOk P w K mg base CX0 1 f1 fd1 ["_law_pen_here", "_law_many"] spDraw) (m1 : mg "_law_draw" = some (.ref f1)) (k1 : PySem.W.keepIn K (.ref f1) = true) (b1 : L2.Binds K fd1 ["_law_pen_here", "_law_many"] [])
    (G2 : FnOk P w K mg base CX0 4 f2 fd2 ["_law_pen_here", "_law_pairs_here"] spRule) (m2 : mg "_law_rule" = some (.ref f2)) (k2 : PySem.W.keepIn K (.ref f2) = true) (b2 : L2.Binds K fd2 ["_law_pen_here", "_law_pairs_here"] []) :
    FnOk P w K mg base CX0 5 f fd ["_law_pen_here", "_law_pairs_here", "_law_cap"] spRules := by
  refine F.ok scRules (fun vs H Q E h => ?_) (fun cdv A outer s H vs Q E hr h => ?_)
  · obtain ⟨c, p, L, n, cap, es, rfl, _⟩ := h
    rfl
  · obtain ⟨c, p, L, n, cap, es, rfl, cb, nb, pen, Lp, po, pos, k⟩ := h
    have nd := scRules.nd
    have hr1 := hr.mono (show 1 ≤ 4 by decide)
    have hu65 := room65 hr
    refine ⟨_, pss_cons (ps_set (i := 3) nd rfl (.inl rfl) (pe_lst pa_nil))
      (pss_cons (ps_for PassesOwn.never rfl (pi_range1 (by rfl) T.range (pa_cons (pe_call G1 hr1 (by rfl) m1 k1 b1 .nil pass0 (pa_cons (pv 0) (pa_cons (pe_op op_add (pv 2) pe_int) pa_nil))) pa_nil)) (pg_name (i := 4) nd rfl (Or.inl rfl)) (pss_cons (ps_set (i := 5) nd rfl (.inl rfl) (pe_call G2 hr (by rfl) m2 k2 b2 .nil pass0 (pa_cons (pv 0) (pa_cons (pv 1) pa_nil))))
      (pss_one (ps_if (pt_cmpR (op_notInD hu65) (pv 5) (pv 3) rfl) (pss_one (ps_expr (pe_bm PySem.F.plainAttrs_list PySem.F.slot_list_append PySem.F.type_list_append mt_append (pv 3) (pa_cons (pv 5) pa_nil)))) pss_nil))))
      (pss_one (ps_ret (pv 3)))), ?_⟩
    refine ⟨Nat.zero_le _, fun F hF => ?_⟩
    have Fp := pen.ne1 hF
    have dF : PenAt c n (upd H F (.lst [])) p := pen.new hF
    have eF : upd H F (.lst []) F = some (.lst []) := upd_same
    have sF : Same H (upd H F (.lst [])) := Same.new hF
    generalize upd H F (.lst []) = H1 at dF eF sF ⊢
    refine ⟨_, rfl, _, rfl, _, _, rfl, rfl, ?_⟩
    refine ⟨c, p, (cap : Int) + 1, n, rfl, by omega, by omega, by omega, dF, fun r H2 r0 r1 pen2 x2 => ?_⟩
    refine ⟨r.toNat, by rw [show ((r.toNat : Nat) : Int) = r by omega], by omega, by omega, ?_⟩
    have ink0 : Ink c p (n + 1) H H2 := ⟨Ext1.trans (Same.ext1 p sF) x2, pen2⟩
    have eF2 := x2 _ _ Fp eF
    refine for_it walk_range (fun i σ' G => ∃ y4 y5, σ' = [some (.ref p), some (.ref L), some (.int (cap : Int)), some (.ref F), y4, y5] ∧ Ink c p (n + 1 + 30 * i) H G ∧ ∃ ds : List RD, ItsOf G F (ds.map .rule) ∧ (∀ d ∈ ds, GoodR es d) ∧ ds.Nodup ∧ ds.length ≤ i)
      ⟨_, _, rfl, ink0, [], ⟨[], eF2, rfl, fun i it h => nomatch h⟩, (fun d h => nomatch h), List.nodup_nil, Nat.le_refl _⟩ (fun _ _ _ _ _ => trivial) ?_ ?_
    · rintro i x σ' G G' hi ⟨y4, y5, rfl, ink, ds, its, good, ndd, dl⟩ ⟨rfl, rfl⟩
      refine ⟨_, rfl, _, rfl, c, p, L, n + 1 + 30 * i, es, rfl, by omega, ink.2, Lp, po.ext pen Lp ink.1, pos, fun d G2 t gd rt i2 => ?_⟩
      have its2 := its.ext ink.2 Fp i2.1
      have abcs := po.abc
      obtain ⟨xs, h1, h2⟩ := its2
      have ok : ∀ it ∈ ds.map Itm.rule, OkIt it := fun it h => by
        obtain ⟨d, hd, rfl⟩ := List.mem_map.mp h
        exact (good d hd).ok abcs
      refine ⟨_, rfl, _, rfl, itD (.rule d), (ds.map Itm.rule).map itD, ItAt.dp (it := .rule d) ⟨t, rfl, rt⟩, .lst (SqL.of h1) (dp_its h2), shaped_it (it := .rule d) (gd.ok abcs), shaped_its ok, _, rfl, ?_⟩
      rw [any_it]
      have inkn : Ink c p (n + 1 + 30 * (i + 1)) H G2 := (Ink.trans ink i2).mono (by omega)
      by_cases m : Itm.rule d ∈ ds.map Itm.rule
      · rw [decide_eq_true m]
        exact iteF ⟨_, _, rfl, inkn, ds, ⟨xs, h1, h2⟩, good, ndd, by omega⟩
      · rw [decide_eq_false m]
        have xl := h2.1
        refine iteT ⟨_, rfl, .inl ⟨rfl, _, SqL.of h1⟩, ?_⟩
        refine ⟨_, rfl, F, _, _, rfl, rfl, h1, by rw [sizeLine_eq, xl, List.length_map]; have : i < r.toNat := hi; omega, ?_⟩
        refine ⟨_, _, rfl, Ink.putNew inkn pen hF, ds ++ [d], ⟨xs ++ [.ref t], upd_same, ?_⟩, fun e he => ?_, ?_, by simp; omega⟩
        · rw [List.map_append]
          exact (h2.mono fun _ _ q => q.put h1).snoc (ItAt.put (it := .rule d) ⟨t, rfl, rt⟩ h1)
        · rcases List.mem_append.mp he with he | he
          · exact good e he
          · rw [List.mem_singleton.mp he]; exact gd
        · rw [List.nodup_append]
          refine ⟨ndd, by simp, fun a ha b hb z => ?_⟩
          rw [List.mem_singleton.mp hb] at z
          exact m (List.mem_map.mpr ⟨a, ha, by rw [z]⟩)
    · rintro σ' G ⟨y4, y5, rfl, ink, ds, its, good, ndd, dl⟩
      exact ⟨_, rfl, k F G ds Fp its good ndd (by omega) (ink.mono (by omega))⟩
end
end Kx

set_option Elab.async false
set_option maxRecDepth 100000
set_option autoImplicit false
set_option pp.maxSteps 400
set_option pp.deepTerms false
/-! _law_made -/
namespace Kx
open PySem L2 PySem.Spec PyProof.Rows Rg Er Ru Tn
abbrev sMade : Stmt := top 49
theorem OkR.le {d : RD} (h : OkR d) : d.1.length ≤ 4 ∧ d.2.1.length ≤ 4 ∧ 1 ≤ d.1.length := by
  obtain ⟨h1, h2⟩ := h
  unfold lets at h1 h2
  simp only [Bool.and_eq_true, decide_eq_true_eq] at h1 h2
  exact ⟨h1.1.2, h2.1.2, h1.1.1⟩
def spMade (C : Addr) : Sp := fun vs H Q _ => ∃ (v : V) (d : RD), vs = [v] ∧ ItAt H v (.rule d) ∧ OkR d ∧ ∀ H' a, Same H H' → RlD C H' a d → Q (.ref a) H'
section
variable {P : Program} {w : World} {K : PySem.W.Frag} {mg : Str → Option Value} {base : Heap}
theorem scMade : FnScope ["_law_rule_here"] ["_law_rule_here"] (defScope sMade) := ⟨rfl, rfl, rfl, by decide +kernel, rfl, by decide +kernel, by decide +kernel⟩
theorem ok_made {C CR f fi : Addr} {fd fdi : FuncData} (F : L2.Fun K "_law_made" "_law_made" sMade f fd) (T : Txt mg) (M : RT K mg C)
    (mk_ : Mk K C fi) (GI : FnOk P w K mg base (L2.CX P w) 3 fi fdi nInit (spRInit K C CR)) (kb : KBn K fdi nInit 3 ["left", "right"] gKw gKwV) :
    FnOk P w K mg base CX0 5 f fd ["_law_rule_here"] (spMade C) := by
  refine F.ok scMade (fun vs H Q E h => ?_) (fun cdv A outer s H vs Q E hr h => ?_)
  · obtain ⟨v, d, rfl, _⟩ := h
    rfl
  · obtain ⟨v, d, rfl, at_, ok, k⟩ := h
    refine ⟨_, pss_one (ps_ret (pe_makeK mk_ GI hr (by rfl) M.mgC kb passesF (pa_cons (bIxT (pv 0) pe_int) (pa_cons (bIxT (pv 0) pe_int) pa_nil)) (pk_cons (bIxT (pv 0) pe_int) (pk_cons (bIxT (pv 0) pe_int) pk_nil)))), ?_⟩
    obtain ⟨t, rfl, ht⟩ := at_
    obtain ⟨l4, n4, _⟩ := OkR.le ok
    have tt := SqT.of (K := K) ht
    refine ⟨_, rfl, t, _, 0, _, rfl, rfl, tt, rfl, _, rfl, t, _, 1, _, rfl, rfl, tt, rfl, _, rfl, t, _, 2, _, rfl, rfl, tt, rfl, _, rfl, t, _, 3, _, rfl, rfl, tt, rfl, rfl, rfl, fun q dq hq hdq ne => ?_⟩
    refine ⟨q, dq, .str d.1, .str d.2.1, .bl d.2.2.1, .bl d.2.2.2, true, true, true, true, rfl, upd_same, .inl ⟨_, rfl, by omega, ok.1.symm⟩, .inl ⟨_, rfl, by omega, ok.2.symm⟩, ⟨_, .base (.bl _), kit_ty (by decide +kernel)⟩, ⟨_, .base (.bl _), kit_ty (by decide +kernel)⟩, ?_⟩
    exact fun H' e1 h' => ⟨rfl, k H' _ (same_ext1 hq (made_same hq hdq) e1) ⟨⟨dq, h'⟩, l4, n4⟩⟩
end
end Kx

set_option Elab.async false
set_option maxRecDepth 100000
set_option autoImplicit false
/-! Rules: -o, o * i, i * o by own methods (what is raised is wished at the caller's slots); o(..); if in a generator; text[::-1]. -/
namespace Ru
open PySem L2 PySem.Spec PyProof.Rows PySem.Calls Er GenW Rg
section
variable {prog : Program} {w : World} {A : Around} {E : Value → Shared → Prop} {s : Shared} {K : PySem.W.Frag} {x C L f g : Addr} {h₀ : Heap} {m : Str → Option Value} {ox : Obj} {od : Option Obj}
end
section
variable {X : Cx} {test : Expr} {body orelse : List Stmt} {pos : Pos} {tc : TT} {t u : TGn}
end
section
variable {X : Cx} {CX : CXT} {k : Nat} {C f : Addr} {fd : FuncData} {ps : List Str} {sp : Sp} {E : L2.St → XK} {pins : List (Addr × Obj)} {σ : L2.St} {H : Hp} {s : Shared} {a b fe e : Expr} {es : List Expr} {pos : Pos} {ta tb tf : TE} {t : TA}
/-- o(e, ..) -/
def tCallOS (C : Addr) (sp : Sp) (E : L2.St → XK) (tf : TE) (t : TA) : TE := fun σ H Q => tf σ H fun y H1 => ∃ a, y = V.ref a ∧ t σ H1 fun vs H2 => (∃ dx fs, H2 a = some (.ins C dx fs)) ∧ sp (V.ref a :: vs) H2 Q (E σ)
theorem pe_callOS (hf : PE X fe tf) (c : StX.CallO X.K C f) (F : FnOk X.prog X.w X.K X.mg X.base CX k f fd ps sp) (hr : Room k X.A) (bd : Binds X.K fd ps []) (hx : ∀ σ, PassesAt CX X σ (E σ)) (ha : PA X (e :: es) t)
    (ht : eval (.Call fe (e :: es) [] pos) X.env = (do callWith pos (← eval fe X.env) [] (backTo pos (starEach (e :: es) X.env)) (backToKw pos (keywordEach [] X.env))) := by rfl)
    (he : starEach (e :: es) X.env = (false, eval e X.env) :: starEach es X.env := by rfl) (hpl : (backTo pos (starEach es X.env)).any (·.1) = false := by rfl) : PE X (.Call fe (e :: es) [] pos) (tCallOS C sp E tf t) := by
  refine ⟨fun pins s σ H Q I h => ?_⟩
  refine Call_ (thn (hf.run pins s σ H _ I h) fun u s1 ⟨y, H1, I1, ry, a, ey, q⟩ => ?_) ht
  subst ey
  obtain rfl : u = Value.ref a := ry
  refine StX.callO_with (thn (ha.run pos pins s1 σ H1 _ I1 q) fun us s2 ⟨vs, H2, I2, r, ⟨dx, fs, hi⟩, q2⟩ => ?_) he hpl
  obtain ⟨ox, od, J, hd⟩ := StX.insC_at I2 (.inr ⟨dx, fs, hi⟩)
  refine ⟨⟨C, ox, od, J, hd⟩, ?_⟩
  have len : (Value.ref a :: us).length = ps.length := (show Vals (V.ref a :: vs) (Value.ref a :: us) from .cons rfl r).length.symm.trans (F.len _ _ _ _ q2)
  have bt : BindsTo s2 fd ⟨Value.ref a :: us, []⟩ (ps.zip (Value.ref a :: us)) := by
    have z := bd s2 (Value.ref a :: us) I2.kIn (by rw [List.append_nil]; exact len)
    rw [List.append_nil] at z
    exact z
  refine wpAny_call (PySem.W.kco_code I2.kIn J hd c.at_ c.fn c.fi (codeAny_mono (F.run X.A X.stack s2 H2 ⟨Value.ref a :: us, []⟩ (Value.ref a :: us) (V.ref a :: vs) Q (E σ) hr I2.env0 bt (.cons rfl r) q2) fun res s' got => ?_))
  rcases res with er | fl
  · exact hx σ pins H2 s2 er s' I2 got
  · cases fl <;> first | exact I2.after got | exact False.elim got
/-! ### text[::-1] -/
end
end Ru
set_option Elab.async false
set_option maxRecDepth 100000
set_option autoImplicit false
/-! where a stretch fits in a text -/
namespace Kx
open PySem L2 PySem.Spec PyProof.Rows Ru
abbrev AtS (o z : Str) (i : Nat) : Prop := StrLaws.At z o z.length i
def atB (o z : Str) (i : Nat) : Bool := decide (i + o.length ≤ z.length) && Builtin.Str.subAt z o i
theorem atB_iff (o z : Str) (i : Nat) : atB o z i = true ↔ AtS o z i := by
  unfold atB
  rw [Bool.and_eq_true, decide_eq_true_eq]
  exact Iff.rfl
theorem atB_no {o z : Str} {i : Nat} (h : ¬ AtS o z i) : atB o z i = false := by
  cases q : atB o z i with
  | false => rfl
  | true => exact absurd ((atB_iff o z i).mp q) h
theorem find3_spec (z o : Str) (p : Nat) : (Txt.find3 z o (p : Int) = -1 ∧ ∀ i, p ≤ i → ¬ AtS o z i) ∨ ∃ i : Nat, Txt.find3 z o (p : Int) = (i : Int) ∧ p ≤ i ∧ AtS o z i ∧ ∀ k, p ≤ k → k < i → ¬ AtS o z k := by
  have e : fromIndex z.length (p : Int) = p := by unfold fromIndex; rw [if_neg (by omega)]; omega
  unfold Txt.find3
  rw [e, StrLaws.occ_eq]
  rcases StrLaws.occ_first z o z.length 1 (Nat.le_refl 1) (List.range' p (z.length + 1 - p)) p (fun i hi => by rw [List.mem_range'] at hi; omega) with ⟨h0, hn⟩ | ⟨pre, a, post, es, h0, ha, hn⟩
  · refine .inl ⟨by rw [h0], fun i pi hi => hn i ?_ hi⟩
    have := hi.1
    rw [List.mem_range'_1]
    omega
  · have hl : ∃ r, (forIn (List.range' p (z.length + 1 - p)) ((#[] : Array Nat), p) (StrLaws.occBody z o z.length 1)).run.fst.toList = a :: r := by
      generalize (forIn (List.range' p (z.length + 1 - p)) ((#[] : Array Nat), p) (StrLaws.occBody z o z.length 1)).run.fst = arr at h0
      obtain ⟨l⟩ := arr
      cases l with
      | nil => simp at h0
      | cons b r => simp at h0; exact ⟨r, by rw [h0]⟩
    obtain ⟨r, hr⟩ := hl
    have hlen := congrArg List.length es
    rw [List.length_range', List.length_append, List.length_cons] at hlen
    have hA : a = p + pre.length := by
      have h1 : (List.range' p (z.length + 1 - p))[pre.length]? = some a := by rw [es]; simp
      rw [List.getElem?_range' (by omega)] at h1
      simp at h1
      omega
    refine .inr ⟨a, by rw [hr], by omega, ha, fun k pk ka => hn k ?_⟩
    have h2 : (List.range' p (z.length + 1 - p))[k - p]? = some k := by rw [List.getElem?_range' (by omega)]; simp; omega
    rw [es, List.getElem?_append_left (by omega)] at h2
    exact List.mem_of_getElem? h2
theorem at_iff (o z : Str) (i : Nat) : AtS o z i ↔ i + o.length ≤ z.length ∧ ∀ k, k < o.length → z.cps.toList[i + k]? = o.cps.toList[k]? := by
  have hz : z.cps.toList.length = z.length := by simp [Str.length]
  have ho : o.cps.toList.length = o.length := by simp [Str.length]
  show (i + o.length ≤ z.length ∧ Builtin.Str.subAt z o i = true) ↔ _
  rw [StrLaws.subAt_eq, beq_iff_eq]
  refine and_congr_right fun le => ?_
  constructor
  · intro e k hk
    rw [← e, List.getElem?_take_of_lt hk, List.getElem?_drop]
  · intro h
    refine List.ext_getElem? fun k => ?_
    by_cases hk : k < o.length
    · rw [List.getElem?_take_of_lt hk, List.getElem?_drop]; exact h k hk
    · rw [List.getElem?_eq_none (by rw [List.length_take]; omega), List.getElem?_eq_none (by omega)]
theorem sIx_nn (n i : Nat) (d : Nat) : HT.sIx n d (some (i : Int)) = min i n := by
  unfold HT.sIx
  simp
  omega
theorem cut_eq (o z : Str) (i : Nat) (h1 : 1 ≤ o.length) : decide (V.str (cutS z (some (i : Int)) (some ((i : Int) + (o.length : Int)))) = V.str o) = atB o z i := by
  have hz : z.cps.toList.length = z.length := by simp [Str.length]
  have ho : o.cps.toList.length = o.length := by simp [Str.length]
  have e : ((i : Int) + (o.length : Int)) = ((i + o.length : Nat) : Int) := by omega
  refine Bool.eq_iff_iff.mpr ?_
  rw [decide_eq_true_iff, atB_iff]
  refine ⟨fun q => ?_, fun q => ?_⟩
  · have q2 := congrArg (fun s : Str => s.cps.toList) (V.str.inj q)
    simp only [cutS, e, sIx_nn] at q2
    rw [List.toList_toArray] at q2
    have ql := congrArg List.length q2
    rw [List.length_take, List.length_drop] at ql
    have le : i + o.length ≤ z.length := by omega
    rw [show min i z.length = i from by omega, show min (i + o.length) z.length - i = o.length from by omega] at q2
    exact ⟨le, by rw [StrLaws.subAt_eq, q2, beq_self_eq_true]⟩
  · obtain ⟨le, q2⟩ := q
    rw [StrLaws.subAt_eq, beq_iff_eq] at q2
    congr 1
    apply Str.ext'
    apply Array.toList_inj.mp
    show ((z.cps.toList.drop (HT.sIx z.length 0 (some (i : Int)))).take (HT.sIx z.length z.length (some ((i : Int) + (o.length : Int))) - HT.sIx z.length 0 (some (i : Int)))).toArray.toList = _
    rw [e, sIx_nn, sIx_nn, List.toList_toArray, show min i z.length = i from by omega, show min (i + o.length) z.length - i = o.length from by omega]
    exact q2
/-- the rule fits at i -/
def fitB (o : Str) (l r : Bool) (z : Str) (i : Int) : Bool := decide (0 ≤ i) && atB o z i.toNat && (!l || decide (i = 0)) && (!r || decide (i + (o.length : Int) = (z.length : Int)))
theorem filt_ext {f : Nat → Bool} {p q : Nat} (le : p ≤ q) (h : ∀ k, p ≤ k → k < q → f k = false) : (List.range q).filter f = (List.range p).filter f := by
  obtain ⟨d, rfl⟩ := Nat.exists_eq_add_of_le le
  clear le
  induction d with
  | zero => rfl
  | succ d ih =>
    rw [← Nat.add_assoc, List.range_succ, List.filter_append, List.filter_cons_of_neg (by rw [h (p + d) (by omega) (by omega)]; simp), List.filter_nil, List.append_nil]
    exact ih fun k a b => h k a (by omega)
theorem filt_succ {f : Nat → Bool} {p : Nat} : (List.range (p + 1)).filter f = (List.range p).filter f ++ (if f p = true then [p] else []) := by
  rw [List.range_succ, List.filter_append]
  congr 1
  by_cases h : f p = true
  · rw [List.filter_cons_of_pos h, if_pos h]; rfl
  · rw [List.filter_cons_of_neg h, if_neg h]; rfl
def fitsN (o : Str) (l r : Bool) (z : Str) : List Nat := (List.range (z.length + 1)).filter fun j => fitB o l r z (j : Int)
theorem fit_no {o z : Str} {l r : Bool} {i : Nat} (h : ¬ AtS o z i) : fitB o l r z (i : Int) = false := by
  unfold fitB
  rw [show ((i : Int)).toNat = i from by omega, atB_no h]
  simp
theorem fit_bounds {o z : Str} {l r : Bool} {i : Int} (h : fitB o l r z i = true) : 0 ≤ i ∧ i.toNat + o.length ≤ z.length := by
  unfold fitB at h
  simp only [Bool.and_eq_true, decide_eq_true_eq] at h
  exact ⟨h.1.1.1, ((atB_iff _ _ _).mp h.1.1.2).1⟩
end Kx

set_option Elab.async false
set_option maxRecDepth 100000
set_option autoImplicit false
/-! for .. in a generator's body -/
namespace Gf
open PySem L2 PySem.Spec PyProof.Rows GenW
section
variable {M : Model} {A : Around} {R : GenEnd} {Y : Protocol} {n : Nat} {s₀ s : Shared} {c : Code} {fs : List Frame} {env : Env} {K : Flow → Sem PySem.Fin} {J : Value → Sem PySem.Fin} {gd : Bool → Bool} {lv : List Value → List Value}
end
section
variable {prog : Program} {w : World} {A : Around} {R : GenEnd} {Y : Protocol} {n : Nat} {s₀ : Shared} {fs : List Frame} {s : Shared} {env : Env}
end
end Gf
set_option Elab.async false
set_option maxRecDepth 100000
set_option autoImplicit false
namespace Gf
open PySem L2 PySem.Spec PyProof.Rows GenW
section
variable {X : Cx}
end
end Gf
set_option Elab.async false
set_option maxRecDepth 100000
set_option autoImplicit false
/-! Rule.fits, __call__ -/
namespace Kx
open PySem L2 PySem.Spec PyProof.Rows Rg Er Ru
abbrev sFits : Stmt := inClass (top 30) 5
abbrev sCall : Stmt := inClass (top 30) 9
theorem dInt (x y : Int) : decide (V.int x = V.int y) = decide (x = y) := by
  by_cases q : x = y
  · rw [q, decide_eq_true rfl, decide_eq_true rfl]
  · rw [decide_eq_false q]
    exact decide_eq_false fun z => q (V.int.inj z)
def spFits (C : Addr) : Sp := fun vs H Q _ => ∃ a o n l r z i, vs = [.ref a, .str z, .int i] ∧ Rl C H a o n l r ∧ 1 ≤ o.length ∧ o.length ≤ 4 ∧ z.length ≤ 1000 ∧ Q (.bl (fitB o l r z i)) H
section
variable {P : Program} {w : World} {K : PySem.W.Frag} {mg : Str → Option Value} {base : Heap}
theorem scFits : FnScope ["self", "row", "place", "end"] ["self", "row", "place"] (defScope sFits) := ⟨rfl, rfl, rfl, by decide +kernel, rfl, by decide +kernel, by decide +kernel⟩
theorem ok_fits {C f : Addr} {fd : FuncData} (F : L2.Fun K "fits" "Rule.fits" sFits f fd) (T : Txt mg) (M : RT K mg C) : FnOk P w K mg base CX0 1 f fd ["self", "row", "place"] (spFits C) := by
  refine F.ok scFits (fun vs H Q E h => ?_) (fun cdv A outer s H vs Q E hr h => ?_)
  · obtain ⟨a, o, n, l, r, z, i, rfl, _⟩ := h
    rfl
  · obtain ⟨a, o, n, l, r, z, i, rfl, ⟨dx, ha⟩, o1, o4, z1, k⟩ := h
    have nd := scFits.nd
    obtain ⟨e1, e2, e3, e4⟩ := rf_lookups (.str o) (.str n) (.bl l) (.bl r)
    refine ⟨_, pss_cons (ps_set (i := 3) nd rfl (.inl rfl) (pe_op op_add (pv 2) (bLen (by rfl) T.len (pe_fld (pv 0) rfl))))
      (pss_cons (ps_if (PW.pt (pw_or (pt_cmpR op_lt (pv 2) pe_int (nomark _)) (pw_or1 (pt_cmpR op_ne (pe_slice sl_str (pv 1) (po_some (pv 2)) (po_some (pv 3))) (pe_fld (pv 0) rfl) (nomark _))))) (pss_one (ps_ret pe_bl)) pss_nil)
      (pss_one (ps_ret (pe_and (pe_or (pe_not (pe_fld (pv 0) rfl)) (pe_one (pe_cmpR op_eq (pv 2) pe_int (nomark _)))) (pe_one (pe_or (pe_not (pe_fld (pv 0) rfl)) (pe_one (pe_cmpR op_eq (pv 3) (bLen (by rfl) T.len (pv 1)) (nomark _))))))))), ?_⟩
    refine ⟨_, rfl, _, rfl, a, C, dx, _, _, rfl, ha, M.cl, M.n1, e1, _, o.length, rfl, ⟨len_small (by omega), rfl⟩, i, _, rfl, rfl, ?_⟩
    by_cases h0 : i < 0
    · have k' : Q (.bl false) H := by
        unfold fitB at k
        rw [decide_eq_false (by omega)] at k
        simpa using k
      refine ⟨_, rfl, i, 0, rfl, rfl, _, rfl, ?_⟩
      rw [decide_eq_true h0]
      exact iteT (iteT k')
    · obtain ⟨j, rfl⟩ : ∃ j : Nat, i = (j : Int) := ⟨i.toNat, by omega⟩
      refine ⟨_, rfl, (j : Int), 0, rfl, rfl, _, rfl, ?_⟩
      rw [decide_eq_false h0]
      refine iteF ⟨_, rfl, _, rfl, _, rfl, _, rfl, _, rfl, z, rfl, len_small (by omega), _, rfl, a, C, dx, _, _, rfl, ha, M.cl, M.n1, e1, rfl, _, rfl, ?_⟩
      rw [cut_eq o z j o1]
      unfold fitB at k
      rw [decide_eq_true (show (0 : Int) ≤ (j : Int) by omega), Bool.true_and, show ((j : Int)).toNat = j from by omega] at k
      cases hat : atB o z j with
      | false =>
        rw [hat] at k
        exact iteT (show Q (.bl false) H by simpa using k)
      | true =>
        rw [hat, Bool.true_and] at k
        refine iteF ?_
        cases l with
        | false =>
          cases r with
          | false =>
            refine ⟨_, rfl, a, C, dx, _, _, rfl, ha, M.cl, M.n3, e3, false, rfl, true, rfl, iteT ⟨true, rfl, iteT ?_⟩⟩
            refine ⟨_, rfl, a, C, dx, _, _, rfl, ha, M.cl, M.n4, e4, false, rfl, true, rfl, iteT ?_⟩
            simpa using k
          | true =>
            refine ⟨_, rfl, a, C, dx, _, _, rfl, ha, M.cl, M.n3, e3, false, rfl, true, rfl, iteT ⟨true, rfl, iteT ?_⟩⟩
            refine ⟨_, rfl, a, C, dx, _, _, rfl, ha, M.cl, M.n4, e4, true, rfl, false, rfl, iteF ⟨_, rfl, _, rfl, _, z.length, rfl, ⟨len_small (by omega), rfl⟩, rfl, ?_⟩⟩
            rw [dInt]
            simpa using k
        | true =>
          cases r with
          | false =>
            refine ⟨_, rfl, a, C, dx, _, _, rfl, ha, M.cl, M.n3, e3, true, rfl, false, rfl, iteF ⟨_, rfl, rfl, _, rfl, ?_⟩⟩
            rw [dInt]
            cases q0 : decide ((j : Int) = 0) with
            | false =>
              rw [q0] at k
              exact iteF (by simpa using k)
            | true =>
            rw [q0] at k
            refine iteT ?_
            refine ⟨_, rfl, a, C, dx, _, _, rfl, ha, M.cl, M.n4, e4, false, rfl, true, rfl, iteT ?_⟩
            simpa using k
          | true =>
            refine ⟨_, rfl, a, C, dx, _, _, rfl, ha, M.cl, M.n3, e3, true, rfl, false, rfl, iteF ⟨_, rfl, rfl, _, rfl, ?_⟩⟩
            rw [dInt]
            cases q0 : decide ((j : Int) = 0) with
            | false =>
              rw [q0] at k
              exact iteF (by simpa using k)
            | true =>
            rw [q0] at k
            refine iteT ?_
            refine ⟨_, rfl, a, C, dx, _, _, rfl, ha, M.cl, M.n4, e4, true, rfl, false, rfl, iteF ⟨_, rfl, _, rfl, _, z.length, rfl, ⟨len_small (by omega), rfl⟩, rfl, ?_⟩⟩
            rw [dInt]
            simpa using k
end
end Kx

set_option Elab.async false
set_option maxRecDepth 100000
set_option autoImplicit false
/-! Rule.__call__, places, -rule, rule * n, n * rule -/
namespace Kx
open PySem L2 PySem.Spec PyProof.Rows Rg Er Ru GenW
theorem rf_no {m : Str} {o n l r : V} (h1 : (m == "old") = false) (h2 : (m == "new") = false) (h3 : (m == "left") = false) (h4 : (m == "right") = false) : (rf o n l r).lookup m = none := by
  unfold rf rf3 rf2 rf1
  simp only [lookup_putF]
  rw [if_neg (by simpa using h4), if_neg (by simpa using h3), if_neg (by simpa using h2), if_neg (by simpa using h1)]
  rfl
/-- row[:i] + new + row[i + len(old):] -/
def ledS (o n z : Str) (i : Int) : Str := cutS z none (some i) ++ n ++ cutS z (some (i + (o.length : Int))) none
theorem app_len' (x y : Str) : (x ++ y).length = x.length + y.length := by
  obtain ⟨⟨a⟩⟩ := x
  obtain ⟨⟨b⟩⟩ := y
  show (⟨a⟩ ++ ⟨b⟩ : Array Nat).size = a.length + b.length
  simp
def spCall (C CM : Addr) : Sp := fun vs H Q E => ∃ a o n l r z i, vs = [.ref a, .str z, .int i] ∧ Rl C H a o n l r ∧ 1 ≤ o.length ∧ o.length ≤ 4 ∧ n.length ≤ 4 ∧ z.length ≤ 1000 ∧
  (fitB o l r z i = true → Q (.str (ledS o n z i)) H) ∧ (fitB o l r z i = false → raised CM "part" (.str "place") E H)
section
variable {P : Program} {w : World} {K : PySem.W.Frag} {mg : Str → Option Value} {base : Heap}
abbrev nFits : List Str := ["self", "row", "place"]
theorem scCall : FnScope nFits nFits (defScope sCall) := ⟨rfl, rfl, rfl, by decide +kernel, rfl, by decide +kernel, by decide +kernel⟩
theorem ok_rCall {C CM f g : Addr} {fd gd : FuncData} (F : L2.Fun K "__call__" "Rule.__call__" sCall f fd) (T : Txt mg) (M : RT K mg C) (R : ErrB P w K mg base "BadMove" "part" CM)
    (mf : Meth K C "fits" g) (G : FnOk P w K mg base CX0 1 g gd nFits (spFits C)) (b : L2.Binds K gd nFits []) : FnOk P w K mg base (L2.CX P w) 3 f fd nFits (spCall C CM) := by
  obtain ⟨fi, fdi, psi, r1, r2, r3, r4⟩ := R.init
  refine F.okX scCall (fun vs H Q E h => ?_) (fun cdv A outer s H vs Q E hr h => ?_)
  · obtain ⟨a, o, n, l, r, z, i, rfl, _⟩ := h
    rfl
  · obtain ⟨a, o, n, l, r, z, i, rfl, ⟨dx, ha⟩, o1, o4, n4, z1, yes, no⟩ := h
    have tk := takes_of (X := cxOf (L2.CX P w) P w K mg base nFits "Rule.__call__" (defScope sCall) f cdv A outer s H E) rfl rfl rfl rfl
    have hr1 := hr.mono (show 1 ≤ 2 by decide)
    obtain ⟨e1, e2, e3, e4⟩ := rf_lookups (.str o) (.str n) (.bl l) (.bl r)
    refine ⟨_, pss_cons (ps_if (pt_not (pt_val (pe_meth (pv 0) M.cl mf G hr1 b .nil pass0 (pa_cons (pv 1) (pa_cons (pv 2) pa_nil))))) (pss_one (ps_raise1 rfl tk R.O r1 r2 r3 hr r4 (by rfl) R.mgC pe_str)) pss_nil)
      (pss_one (ps_ret (pe_op op_add_str (pe_op op_add_str (pe_slice sl_str (pv 1) po_none (po_some (pv 2))) (pe_fld (pv 0) rfl)) (pe_slice sl_str (pv 1) (po_some (pe_op op_add (pv 2) (bLen (by rfl) T.len (pe_fld (pv 0) rfl)))) po_none)))), ?_⟩
    refine ⟨_, rfl, a, dx, _, rfl, ha, rf_no rfl rfl rfl rfl, _, rfl, _, rfl, a, o, n, l, r, z, i, rfl, ⟨dx, ha⟩, o1, o4, z1, _, rfl, ?_⟩
    cases e : fitB o l r z i with
    | false => exact iteT (no e)
    | true =>
      refine iteF ⟨_, rfl, _, rfl, _, rfl, z, rfl, len_small (by omega), _, rfl, a, C, dx, _, _, rfl, ha, M.cl, M.n2, e2, cutS z none (some i), n, rfl, rfl, ?_, ?_⟩
      · have := cutS_length z none (some i)
        rw [sizeLine_eq]; omega
      refine ⟨_, rfl, _, rfl, _, rfl, a, C, dx, _, _, rfl, ha, M.cl, M.n1, e1, _, o.length, rfl, ⟨len_small (by omega), rfl⟩, i, _, rfl, rfl, _, rfl, z, rfl, len_small (by omega), _, _, rfl, rfl, ?_, yes e⟩
      have h1 := cutS_length z none (some i)
      have h2 := cutS_length z (some (i + (o.length : Int))) none
      rw [app_len', sizeLine_eq]; omega
abbrev sAllP : Stmt := inClass (top 30) 7
abbrev sFirstP : Stmt := inClass (top 30) 8
theorem filt_none {f : Nat → Bool} {n : Nat} (h : ∀ k, f k = false) : (List.range n).filter f = [] := List.filter_eq_nil_iff.mpr fun k _ => by rw [h k]; exact Bool.false_ne_true
theorem filt_one {f : Nat → Bool} {n j : Nat} (hj : j < n) (h : ∀ k, k ≠ j → f k = false) (e : f j = true) : (List.range n).filter f = [j] := by
  rw [filt_ext (p := j + 1) (by omega) fun k a _ => h k (by omega), filt_succ, if_pos e, filt_ext (p := 0) (by omega) fun k _ b => h k (by omega)]
  rfl
def fN (o : Str) (l r : Bool) (z : Str) (j : Nat) : Bool := fitB o l r z (j : Int)
theorem fN_eq (o z : Str) (l r : Bool) (j : Nat) : fN o l r z j = (atB o z j && (!l || decide (j = 0)) && (!r || decide (j + o.length = z.length))) := by
  unfold fN fitB
  rw [decide_eq_true (show (0 : Int) ≤ (j : Int) by omega), Bool.true_and, show ((j : Int)).toNat = j from by omega]
  rw [show decide ((j : Int) = 0) = decide (j = 0) from decide_eq_decide.mpr (by omega), show decide ((j : Int) + (o.length : Int) = (z.length : Int)) = decide (j + o.length = z.length) from decide_eq_decide.mpr (by omega)]
theorem fits_left {o z : Str} {r : Bool} : fitsN o true r z = if (atB o z 0 && (!r || decide (o.length = z.length))) = true then [0] else [] := by
  have other : ∀ k, k ≠ 0 → fN o true r z k = false := fun k hk => by rw [fN_eq, decide_eq_false hk]; simp
  have zero : fN o true r z 0 = (atB o z 0 && (!r || decide (o.length = z.length))) := by rw [fN_eq, Nat.zero_add]; simp
  by_cases h : (atB o z 0 && (!r || decide (o.length = z.length))) = true
  · rw [if_pos h]
    exact filt_one (Nat.succ_pos _) other (zero.trans h)
  · rw [if_neg h]
    refine filt_none fun k => ?_
    by_cases hk : k = 0
    · subst hk
      exact zero.trans (by simpa using h)
    · exact other k hk
theorem fits_right {o z : Str} : fitsN o false true z = if (decide (o.length ≤ z.length) && atB o z (z.length - o.length)) = true then [z.length - o.length] else [] := by
  have other : ∀ k, k + o.length ≠ z.length → fN o false true z k = false := fun k hk => by rw [fN_eq, decide_eq_false hk]; simp
  by_cases h : (decide (o.length ≤ z.length) && atB o z (z.length - o.length)) = true
  · rw [if_pos h]
    rw [Bool.and_eq_true, decide_eq_true_eq] at h
    refine filt_one (by omega) (fun k hk => other k (by omega)) ?_
    show fN o false true z _ = true
    rw [fN_eq, h.2, decide_eq_true (show z.length - o.length + o.length = z.length by omega)]; rfl
  · rw [if_neg h]
    refine filt_none fun k => ?_
    by_cases hk : k + o.length = z.length
    · have ek : k = z.length - o.length := by omega
      subst ek
      show fN o false true z _ = false
      rw [fN_eq]
      have h' : atB o z (z.length - o.length) = false := by
        simp only [Bool.and_eq_true, decide_eq_true_eq, not_and, Bool.not_eq_true] at h
        exact h (by omega)
      rw [h']; rfl
    · exact other k hk
theorem starts_at (o z : Str) : Txt.startswith z o = atB o z 0 := rfl
theorem ends_at (o z : Str) : Txt.endswith z o = (decide (o.length ≤ z.length) && atB o z (z.length - o.length)) := by
  unfold Txt.endswith atB
  by_cases h : o.length ≤ z.length
  · rw [decide_eq_true (show 0 + o.length ≤ z.length by omega), decide_eq_true h, decide_eq_true (show z.length - o.length + o.length ≤ z.length by omega)]; rfl
  · rw [decide_eq_false (show ¬ 0 + o.length ≤ z.length by omega), decide_eq_false h]; rfl
theorem same_at (o z : Str) : decide (z = o) = (atB o z 0 && decide (o.length = z.length)) := by
  refine Bool.eq_iff_iff.mpr ?_
  rw [decide_eq_true_iff, Bool.and_eq_true, decide_eq_true_iff, atB_iff, at_iff]
  constructor
  · rintro rfl
    exact ⟨⟨by omega, fun k _ => by rw [Nat.zero_add]⟩, rfl⟩
  · rintro ⟨⟨_, h⟩, e⟩
    apply Str.ext'
    apply Array.toList_inj.mp
    have hz : z.cps.toList.length = z.length := by simp [Str.length]
    have ho : o.cps.toList.length = o.length := by simp [Str.length]
    refine List.ext_getElem? fun k => ?_
    by_cases hk : k < o.length
    · have := h k hk
      rw [Nat.zero_add] at this
      exact this
    · rw [List.getElem?_eq_none (by omega), List.getElem?_eq_none (by omega)]
def spFirstP (C : Addr) : Sp := fun vs H Q _ => ∃ a o n l r z, vs = [.ref a, .str z] ∧ Rl C H a o n l r ∧ 1 ≤ o.length ∧ o.length ≤ 4 ∧ z.length ≤ 1000 ∧ (l || r) = true ∧ (fitsN o l r z = [] → Q (.int (-1)) H) ∧ ∀ j : Nat, fitsN o l r z = [j] → Q (.int j) H
theorem scFirstP : FnScope ["self", "row", "there"] ["self", "row"] (defScope sFirstP) := ⟨rfl, rfl, rfl, by decide +kernel, rfl, by decide +kernel, by decide +kernel⟩
theorem ok_firstP {C f : Addr} {fd : FuncData} (F : L2.Fun K "first_place" "Rule.first_place" sFirstP f fd) (T : Txt mg) (M : RT K mg C) : FnOk P w K mg base CX0 1 f fd ["self", "row"] (spFirstP C) := by
  refine F.ok scFirstP (fun vs H Q E h => ?_) (fun cdv A outer s H vs Q E hr h => ?_)
  · obtain ⟨a, o, n, l, r, z, rfl, _⟩ := h
    rfl
  · obtain ⟨a, o, n, l, r, z, rfl, ⟨dx, ha⟩, o1, o4, z1, lr, k0, k1⟩ := h
    have nd := scFirstP.nd
    obtain ⟨e1, e2, e3, e4⟩ := rf_lookups (.str o) (.str n) (.bl l) (.bl r)
    refine ⟨_, pss_cons (ps_if (pt_val (pe_fld (pv 0) rfl)) (pss_cons (ps_set (i := 2) nd rfl (.inl rfl) (pe_ifExp (pt_val (pe_fld (pv 0) rfl)) (pe_cmpR op_eq (pv 1) (pe_fld (pv 0) rfl) (nomark _))
        (pe_bm PySem.F.plainAttrs_str PySem.F.slot_str_startswith PySem.F.type_str_startswith mt_startswith (pv 1) (pa_cons (pe_fld (pv 0) rfl) pa_nil))))
        (pss_one (ps_ret (pe_ifExp (pt_val (pv 2)) pe_int (pe_un un_neg pe_int))))) pss_nil)
      (pss_cons (ps_if (pt_val (pe_fld (pv 0) rfl)) (pss_one (ps_ret (pe_ifExp (pt_val (pe_bm PySem.F.plainAttrs_str PySem.F.slot_str_endswith PySem.F.type_str_endswith mt_endswith (pv 1) (pa_cons (pe_fld (pv 0) rfl) pa_nil)))
        (pe_op op_sub (bLen (by rfl) T.len (pv 1)) (bLen (by rfl) T.len (pe_fld (pv 0) rfl))) (pe_un un_neg pe_int)))) pss_nil)
      (pss_one (ps_ret (pe_bm PySem.F.plainAttrs_str PySem.F.slot_str_find PySem.F.type_str_find mt_find (pv 1) (pa_cons (pe_fld (pv 0) rfl) pa_nil))))), ?_⟩
    refine ⟨_, rfl, a, C, dx, _, _, rfl, ha, M.cl, M.n3, e3, l, rfl, ?_⟩
    cases l with
    | true =>
      have fin : ∀ b : Bool, b = (atB o z 0 && (!r || decide (o.length = z.length))) → (tIf (tB (tVar 2)) (tC (.int 0)) (tUn (fun x H Q => ∃ i : Int, x = .int i ∧ Q (.int (-i)) H) (tC (.int 1)))) [some (.ref a), some (.str z), some (.bl b)] H Q := fun b eb => by
        rw [fits_left, ← eb] at k0 k1
        refine ⟨_, rfl, b, rfl, ?_⟩
        cases b with
        | true => exact iteT (k1 0 rfl)
        | false => exact iteF ⟨_, rfl, k0 rfl⟩
      refine iteT ⟨_, rfl, a, C, dx, _, _, rfl, ha, M.cl, M.n4, e4, r, rfl, ?_⟩
      cases r with
      | true =>
        refine iteT ⟨_, rfl, _, rfl, a, C, dx, _, _, rfl, ha, M.cl, M.n1, e1, rfl, ?_⟩
        exact fin _ (by rw [dStr, same_at]; simp)
      | false =>
        refine iteF ⟨_, rfl, rfl, _, rfl, a, C, dx, _, _, rfl, ha, M.cl, M.n1, e1, z, o, rfl, rfl, ?_⟩
        exact fin _ (by rw [starts_at]; simp)
    | false =>
      obtain rfl : r = true := by simpa using lr
      refine iteF ⟨_, rfl, a, C, dx, _, _, rfl, ha, M.cl, M.n4, e4, true, rfl, iteT ?_⟩
      refine ⟨_, rfl, rfl, _, rfl, a, C, dx, _, _, rfl, ha, M.cl, M.n1, e1, z, o, rfl, rfl, _, rfl, ?_⟩
      rw [ends_at]
      rw [fits_right] at k0 k1
      by_cases h : (decide (o.length ≤ z.length) && atB o z (z.length - o.length)) = true
      · rw [if_pos h] at k1
        have le : o.length ≤ z.length := by
          rw [Bool.and_eq_true, decide_eq_true_eq] at h
          exact h.1
        have k1' := k1 _ rfl
        rw [Int.ofNat_sub le] at k1'
        rw [h]
        exact iteT ⟨_, rfl, _, z.length, rfl, ⟨len_small (by omega), rfl⟩, _, rfl, a, C, dx, _, _, rfl, ha, M.cl, M.n1, e1, _, o.length, rfl, ⟨len_small (by omega), rfl⟩, _, _, rfl, rfl, k1'⟩
      · rw [if_neg h] at k0
        rw [Bool.not_eq_true] at h
        rw [h]
        exact iteF ⟨_, rfl, k0 rfl⟩
theorem fitsN_past {o z : Str} {l r : Bool} {p : Nat} (le : p ≤ z.length + 1) (h : ∀ i, p ≤ i → ¬ AtS o z i) : fitsN o l r z = (List.range p).filter (fN o l r z) := filt_ext le fun i a _ => fit_no (h i a)
theorem fitsN_few (o z : Str) (l r : Bool) : (fitsN o l r z).length ≤ z.length + 1 := by
  have := List.length_filter_le (fN o l r z) (List.range (z.length + 1))
  rw [List.length_range] at this
  exact this
def spAllP (C : Addr) : Sp := fun vs H Q _ => ∃ a o n l r z, vs = [.ref a, .str z] ∧ Rl C H a o n l r ∧ 1 ≤ o.length ∧ o.length ≤ 4 ∧ z.length ≤ 1000 ∧ ∀ q H', Same H H' → H q = none → H' q = some (.lst ((fitsN o l r z).map fun (j : Nat) => V.int (j : Int))) → Q (.ref q) H'
theorem scAllP : FnScope ["self", "row", "place", "found"] ["self", "row"] (defScope sAllP) := ⟨rfl, rfl, rfl, by decide +kernel, rfl, by decide +kernel, by decide +kernel⟩
def wAllP (a q : Addr) (z o : Str) (H : Hp) : Nat → L2.St → Hp → Prop := fun m σ' H' => ∃ (p : Int) (xs : List V), σ' = [some (.ref a), some (.str z), some (.int p), some (.ref q)] ∧ H' = upd H q (.lst xs) ∧
  ((p = -1 ∧ xs = (fitsN o false false z).map fun (j : Nat) => V.int (j : Int)) ∨ ∃ j : Nat, p = (j : Int) ∧ AtS o z j ∧ xs = ((List.range j).filter (fN o false false z)).map (fun (j : Nat) => V.int (j : Int)) ∧ m = z.length + 2 - j)
theorem ok_allP {C f g : Addr} {fd gd : FuncData} (F : L2.Fun K "all_places" "Rule.all_places" sAllP f fd) (M : RT K mg C) (mf : Meth K C "first_place" g) (G : FnOk P w K mg base CX0 1 g gd ["self", "row"] (spFirstP C)) (b : L2.Binds K gd ["self", "row"] []) :
    FnOk P w K mg base CX0 2 f fd ["self", "row"] (spAllP C) := by
  refine F.ok scAllP (fun vs H Q E h => ?_) (fun cdv A outer s H vs Q E hr h => ?_)
  · obtain ⟨a, o, n, l, r, z, rfl, _⟩ := h
    rfl
  · obtain ⟨a, o, n, l, r, z, rfl, ⟨dx, ha⟩, o1, o4, z1, k⟩ := h
    have nd := scAllP.nd
    obtain ⟨e1, e2, e3, e4⟩ := rf_lookups (.str o) (.str n) (.bl l) (.bl r)
    refine ⟨_, pss_cons (ps_if (PW.pt (pw_or (pt_val (pe_fld (pv 0) rfl)) (pw_or1 (pt_val (pe_fld (pv 0) rfl))))) (pss_cons (ps_set (i := 2) nd rfl (.inl rfl) (pe_meth (pv 0) M.cl mf G hr b .nil pass0 (pa_cons (pv 1) pa_nil)))
        (pss_one (ps_ret (pe_ifExp (pt_cmpR op_ge (pv 2) pe_int (nomark _)) (pe_lst (pa_cons (pv 2) pa_nil)) (pe_lst pa_nil))))) pss_nil)
      (pss_cons (ps_set (i := 3) nd rfl (.inl rfl) (pe_lst pa_nil))
      (pss_cons (ps_set (i := 2) nd rfl (.inl rfl) (pe_bm PySem.F.plainAttrs_str PySem.F.slot_str_find PySem.F.type_str_find mt_find (pv 1) (pa_cons (pe_fld (pv 0) rfl) pa_nil)))
      (pss_cons (ps_while PassesOwn.never (pt_cmpR op_ge (pv 2) pe_int (nomark _))
        (pss_cons (ps_expr (pe_bm PySem.F.plainAttrs_list PySem.F.slot_list_append PySem.F.type_list_append mt_append (pv 3) (pa_cons (pv 2) pa_nil)))
        (pss_one (ps_set (i := 2) nd rfl (.inl rfl) (pe_bm PySem.F.plainAttrs_str PySem.F.slot_str_find PySem.F.type_str_find mt_find3 (pv 1) (pa_cons (pe_fld (pv 0) rfl) (pa_cons (pe_op op_add (pv 2) pe_int) pa_nil)))))))
      (pss_one (ps_ret (pv 3)))))), ?_⟩
    refine ⟨_, rfl, a, C, dx, _, _, rfl, ha, M.cl, M.n3, e3, l, rfl, ?_⟩
    by_cases lr : (l || r) = true
    · have two : fitsN o l r z = [] ∨ ∃ j, fitsN o l r z = [j] := by
        cases l with
        | true =>
          rw [fits_left]
          split
          · exact .inr ⟨_, rfl⟩
          · exact .inl rfl
        | false =>
          obtain rfl : r = true := by simpa using lr
          rw [fits_right]
          split
          · exact .inr ⟨_, rfl⟩
          · exact .inl rfl
      rcases (show l = true ∨ (l = false ∧ r = true) from by cases l <;> simp_all) with rfl | ⟨rfl, rfl⟩
      · refine iteT (iteT ?_)
        refine ⟨_, rfl, a, dx, _, rfl, ha, rf_no rfl rfl rfl rfl, _, rfl, a, o, n, true, r, z, rfl, ⟨dx, ha⟩, o1, o4, z1, lr, fun e => ?_, fun j e => ?_⟩
        · refine ⟨_, rfl, -1, 0, rfl, rfl, _, rfl, ?_⟩
          exact iteF ⟨Nat.zero_le _, fun q hq => k q _ (Same.new hq) hq (by rw [upd_same, e]; rfl)⟩
        · refine ⟨_, rfl, (j : Int), 0, rfl, rfl, _, rfl, ?_⟩
          rw [decide_eq_true (show (0 : Int) ≤ (j : Int) by omega)]
          exact iteT ⟨_, rfl, by show 1 ≤ sizeLine; decide, fun q hq => k q _ (Same.new hq) hq (by rw [upd_same, e]; rfl)⟩
      · refine iteF ⟨_, rfl, a, C, dx, _, _, rfl, ha, M.cl, M.n4, e4, true, rfl, iteT ?_⟩
        refine ⟨_, rfl, a, dx, _, rfl, ha, rf_no rfl rfl rfl rfl, _, rfl, a, o, n, false, true, z, rfl, ⟨dx, ha⟩, o1, o4, z1, lr, fun e => ?_, fun j e => ?_⟩
        · refine ⟨_, rfl, -1, 0, rfl, rfl, _, rfl, ?_⟩
          exact iteF ⟨Nat.zero_le _, fun q hq => k q _ (Same.new hq) hq (by rw [upd_same, e]; rfl)⟩
        · refine ⟨_, rfl, (j : Int), 0, rfl, rfl, _, rfl, ?_⟩
          rw [decide_eq_true (show (0 : Int) ≤ (j : Int) by omega)]
          exact iteT ⟨_, rfl, by show 1 ≤ sizeLine; decide, fun q hq => k q _ (Same.new hq) hq (by rw [upd_same, e]; rfl)⟩
    · obtain ⟨rfl, rfl⟩ : l = false ∧ r = false := by
        cases l <;> cases r <;> simp_all
      refine iteF ⟨_, rfl, a, C, dx, _, _, rfl, ha, M.cl, M.n4, e4, false, rfl, iteF ⟨Nat.zero_le _, fun q hq => ?_⟩⟩
      have qa : a ≠ q := ne_of_none ha hq
      have ha' : ∀ xs, upd H q (.lst xs) a = some (.ins C dx (rf (.str o) (.str n) (.bl false) (.bl false))) := fun xs => by rw [upd_ne qa]; exact ha
      refine ⟨_, rfl, rfl, _, rfl, a, C, dx, _, _, rfl, ha' _, M.cl, M.n1, e1, z, o, rfl, rfl, ?_⟩
      refine ⟨wAllP a q z o H, ?_, ?_⟩
      · rw [find_is_find3]
        rcases find3_spec z o 0 with ⟨e, hn⟩ | ⟨j, e, _, hj, hn⟩
        · refine ⟨0, -1, [], ?_, rfl, .inl ⟨rfl, ?_⟩⟩
          · rw [show (0 : Int) = ((0 : Nat) : Int) from rfl, e]; rfl
          · rw [fitsN_past (p := 0) (Nat.zero_le _) fun i _ => hn i (Nat.zero_le _)]; rfl
        · refine ⟨_, (j : Int), [], ?_, rfl, .inr ⟨j, rfl, hj, ?_, rfl⟩⟩
          · rw [show (0 : Int) = ((0 : Nat) : Int) from rfl, e]; rfl
          · rw [filt_ext (p := 0) (q := j) (Nat.zero_le _) fun i _ hi => show fN o false false z i = false from fit_no (hn i (Nat.zero_le _) hi)]; rfl
      · rintro m σ' H' ⟨p, xs, rfl, rfl, hp⟩
        refine ⟨_, rfl, p, 0, rfl, rfl, _, rfl, ?_⟩
        rcases hp with ⟨rfl, rfl⟩ | ⟨j, rfl, hj, rfl, rfl⟩
        · exact iteF ⟨_, rfl, k q _ (Same.new hq) hq upd_same⟩
        · rw [decide_eq_true (show (0 : Int) ≤ (j : Int) by omega)]
          have jz := hj.1
          have len1 : (((List.range j).filter (fN o false false z)).map fun (j : Nat) => V.int (j : Int)).length ≤ j := by
            rw [List.length_map]
            have := List.length_filter_le (fN o false false z) (List.range j)
            rw [List.length_range] at this
            exact this
          refine iteT ⟨fun σ' H2 => ∃ m', m' < z.length + 2 - j ∧ wAllP a q z o H m' σ' H2, fun _ _ h => h, ?_⟩
          refine ⟨_, rfl, .inl ⟨rfl, _, SqL.of upd_same⟩, _, rfl, q, _, _, rfl, rfl, upd_same, by rw [sizeLine_eq]; omega, ?_⟩
          rw [upd_upd]
          refine ⟨_, rfl, rfl, _, rfl, a, C, dx, _, _, rfl, ha' _, M.cl, M.n1, e1, _, rfl, _, _, rfl, rfl, z, o, _, rfl, rfl, ?_⟩
          have hfj : fN o false false z j = true := by rw [fN_eq, (atB_iff o z j).mpr hj]; rfl
          have nxt : ((List.range j).filter (fN o false false z)).map (fun (j : Nat) => V.int (j : Int)) ++ [V.int (j : Int)] = ((List.range (j + 1)).filter (fN o false false z)).map (fun (j : Nat) => V.int (j : Int)) := by
            rw [filt_succ, if_pos hfj, List.map_append]; rfl
          rw [nxt]
          rcases find3_spec z o (j + 1) with ⟨e, hn⟩ | ⟨i, e, hi, hat, hn⟩
          · rw [show (((j + 1 : Nat)) : Int) = (j : Int) + 1 from by omega] at e
            exact ⟨0, by omega, -1, _, by rw [e]; rfl, rfl, .inl ⟨rfl, by rw [fitsN_past (p := j + 1) (by omega) fun i hi => hn i hi]⟩⟩
          · rw [show (((j + 1 : Nat)) : Int) = (j : Int) + 1 from by omega] at e
            have qz := hat.1
            exact ⟨z.length + 2 - i, by omega, (i : Int), _, by rw [e]; rfl, rfl, .inr ⟨i, rfl, hat, by rw [filt_ext (p := j + 1) (q := i) hi fun u a b => show fN o false false z u = false from fit_no (hn u a b)], rfl⟩⟩
end
end Kx

set_option Elab.async false
set_option maxRecDepth 100000
set_option autoImplicit false
set_option pp.maxSteps 400
set_option pp.deepTerms false
/-! row_of_move -/
namespace Kx
open PySem L2 PySem.Spec PyProof.Rows Rg Er Ru Tn
abbrev sRowOf : Stmt := top 26
theorem at_int {xs : List V} {i : Nat} {v : V} (h : xs[i]? = some v) : atI xs (i : Int) = some v := atI_int (by omega) (by rw [show ((i : Int)).toNat = i by omega]; exact h)
def MoveAt (H : Hp) (t : Addr) (p i : Nat) : Prop := H t = some (.tup [.int (p : Int), .int (i : Int)])
def spRowOf (CR : Addr) : Sp := fun vs H Q _ => ∃ (r t : Addr) (ys : List V) (rs : List RD) (z : Str) (p i : Nat) (d : RD), vs = [.ref r, .str z, .ref t] ∧ H r = some (.tup ys) ∧ RulesAt CR H ys rs ∧ MoveAt H t p i ∧ rs[i]? = some d ∧ z.length ≤ 1000 ∧ Q (.str (ledS d.1 d.2.1 z (p : Int))) H
section
variable {P : Program} {w : World} {K : PySem.W.Frag} {mg : Str → Option Value} {base : Heap}
abbrev nRowOf : List Str := ["rules", "row", "move", "place", "index", "rule"]
theorem scRowOf : FnScope nRowOf ["rules", "row", "move"] (defScope sRowOf) := ⟨rfl, rfl, rfl, by decide +kernel, rfl, by decide +kernel, by decide +kernel⟩
theorem ok_rowOf {CR f : Addr} {fd : FuncData} (F : L2.Fun K "row_of_move" "row_of_move" sRowOf f fd) (T : Txt mg) (M : RT K mg CR) : FnOk P w K mg base CX0 1 f fd ["rules", "row", "move"] (spRowOf CR) := by
  refine F.ok scRowOf (fun vs H Q E h => ?_) (fun cdv A outer s H vs Q E hr h => ?_)
  · obtain ⟨r, t, ys, rs, z, p, i, d, rfl, _⟩ := h
    rfl
  · obtain ⟨r, t, ys, rs, z, p, i, d, rfl, hr_, ra, mv, hd, zl, k⟩ := h
    have nd := scRowOf.nd
    refine ⟨_, pss_cons (ps_asg (pv 2) (pg_tup rfl (pgs_cons (pg_name (i := 3) nd rfl (Or.inl rfl)) (pgs_cons (pg_name (i := 4) nd rfl (Or.inl rfl)) pgs_nil))))
      (pss_cons (ps_set (i := 5) nd rfl (.inl rfl) (bIxT (pv 0) (pv 4)))
      (pss_one (ps_ret (pe_op op_add_str (pe_op op_add_str (pe_slice sl_str (pv 1) po_none (po_some (pv 3))) (pe_fld (pv 5) rfl)) (pe_slice sl_str (pv 1) (po_some (pe_op op_add (pv 3) (bLen (by rfl) T.len (pe_fld (pv 5) rfl)))) po_none))))), ?_⟩
    obtain ⟨a, ea, ⟨dx, ha⟩, d4, n4⟩ := ra.2 i d hd
    obtain ⟨e1, e2, _, _⟩ := rf_lookups (.str d.1) (.str d.2.1) (.bl d.2.2.1) (.bl d.2.2.2)
    refine ⟨_, rfl, t, _, rfl, SqT.of mv, rfl, _, _, rfl, _, _, rfl, rfl, ?_⟩
    refine ⟨_, rfl, _, rfl, r, ys, (i : Int), .ref a, rfl, rfl, SqT.of hr_, at_int ea, ?_⟩
    have h1 := cutS_length z none (some (p : Int))
    have h2 := cutS_length z (some ((p : Int) + (d.1.length : Int))) none
    refine ⟨_, rfl, _, rfl, _, rfl, z, rfl, len_small zl, _, rfl, a, CR, dx, _, _, rfl, ha, M.cl, M.n2, e2, _, _, rfl, rfl, by rw [sizeLine_eq]; omega, ?_⟩
    refine ⟨_, rfl, _, rfl, _, rfl, a, CR, dx, _, _, rfl, ha, M.cl, M.n1, e1, _, d.1.length, rfl, ⟨len_small (by omega), rfl⟩, (p : Int), _, rfl, rfl, _, rfl, z, rfl, len_small zl, _, _, rfl, rfl, ?_, k⟩
    rw [app_len', sizeLine_eq]; omega
end
end Kx
set_option Elab.async false
set_option maxRecDepth 100000
set_option autoImplicit false
set_option pp.maxSteps 400
set_option pp.deepTerms false
/-! first_place of any rule; has_move -/
namespace Kx
open PySem L2 PySem.Spec PyProof.Rows Rg Er Ru GenW
def spFirst2 (C : Addr) : Sp := fun vs H Q _ => ∃ a o n l r z, vs = [.ref a, .str z] ∧ Rl C H a o n l r ∧ 1 ≤ o.length ∧ o.length ≤ 4 ∧ z.length ≤ 1000 ∧ ∀ i : Int, decide (0 ≤ i) = !(fitsN o l r z).isEmpty → Q (.int i) H
section
variable {P : Program} {w : World} {K : PySem.W.Frag} {mg : Str → Option Value} {base : Heap}
theorem ok_first2 {C f : Addr} {fd : FuncData} (F : L2.Fun K "first_place" "Rule.first_place" sFirstP f fd) (T : Txt mg) (M : RT K mg C) : FnOk P w K mg base CX0 1 f fd ["self", "row"] (spFirst2 C) := by
  refine F.ok scFirstP (fun vs H Q E h => ?_) (fun cdv A outer s H vs Q E hr h => ?_)
  · obtain ⟨a, o, n, l, r, z, rfl, _⟩ := h
    rfl
  · obtain ⟨a, o, n, l, r, z, rfl, ⟨dx, ha⟩, o1, o4, z1, k⟩ := h
    have k0 : fitsN o l r z = [] → Q (.int (-1)) H := fun h => k _ (by rw [h]; rfl)
    have k1 : ∀ j : Nat, fitsN o l r z = [j] → Q (.int j) H := fun j h => k _ (by rw [h, decide_eq_true (show (0 : Int) ≤ (j : Int) by omega)]; rfl)
    have nd := scFirstP.nd
    obtain ⟨e1, e2, e3, e4⟩ := rf_lookups (.str o) (.str n) (.bl l) (.bl r)
    refine ⟨_, pss_cons (ps_if (pt_val (pe_fld (pv 0) rfl)) (pss_cons (ps_set (i := 2) nd rfl (.inl rfl) (pe_ifExp (pt_val (pe_fld (pv 0) rfl)) (pe_cmpR op_eq (pv 1) (pe_fld (pv 0) rfl) (nomark _))
        (pe_bm PySem.F.plainAttrs_str PySem.F.slot_str_startswith PySem.F.type_str_startswith mt_startswith (pv 1) (pa_cons (pe_fld (pv 0) rfl) pa_nil))))
        (pss_one (ps_ret (pe_ifExp (pt_val (pv 2)) pe_int (pe_un un_neg pe_int))))) pss_nil)
      (pss_cons (ps_if (pt_val (pe_fld (pv 0) rfl)) (pss_one (ps_ret (pe_ifExp (pt_val (pe_bm PySem.F.plainAttrs_str PySem.F.slot_str_endswith PySem.F.type_str_endswith mt_endswith (pv 1) (pa_cons (pe_fld (pv 0) rfl) pa_nil)))
        (pe_op op_sub (bLen (by rfl) T.len (pv 1)) (bLen (by rfl) T.len (pe_fld (pv 0) rfl))) (pe_un un_neg pe_int)))) pss_nil)
      (pss_one (ps_ret (pe_bm PySem.F.plainAttrs_str PySem.F.slot_str_find PySem.F.type_str_find mt_find (pv 1) (pa_cons (pe_fld (pv 0) rfl) pa_nil))))), ?_⟩
    refine ⟨_, rfl, a, C, dx, _, _, rfl, ha, M.cl, M.n3, e3, l, rfl, ?_⟩
    cases l with
    | true =>
      have fin : ∀ b : Bool, b = (atB o z 0 && (!r || decide (o.length = z.length))) → (tIf (tB (tVar 2)) (tC (.int 0)) (tUn (fun x H Q => ∃ i : Int, x = .int i ∧ Q (.int (-i)) H) (tC (.int 1)))) [some (.ref a), some (.str z), some (.bl b)] H Q := fun b eb => by
        rw [fits_left, ← eb] at k0 k1
        refine ⟨_, rfl, b, rfl, ?_⟩
        cases b with
        | true => exact iteT (k1 0 rfl)
        | false => exact iteF ⟨_, rfl, k0 rfl⟩
      refine iteT ⟨_, rfl, a, C, dx, _, _, rfl, ha, M.cl, M.n4, e4, r, rfl, ?_⟩
      cases r with
      | true =>
        refine iteT ⟨_, rfl, _, rfl, a, C, dx, _, _, rfl, ha, M.cl, M.n1, e1, rfl, ?_⟩
        exact fin _ (by rw [dStr, same_at]; simp)
      | false =>
        refine iteF ⟨_, rfl, rfl, _, rfl, a, C, dx, _, _, rfl, ha, M.cl, M.n1, e1, z, o, rfl, rfl, ?_⟩
        exact fin _ (by rw [starts_at]; simp)
    | false =>
      cases r with
      | true =>
        refine iteF ⟨_, rfl, a, C, dx, _, _, rfl, ha, M.cl, M.n4, e4, true, rfl, iteT ?_⟩
        refine ⟨_, rfl, rfl, _, rfl, a, C, dx, _, _, rfl, ha, M.cl, M.n1, e1, z, o, rfl, rfl, _, rfl, ?_⟩
        rw [ends_at]
        rw [fits_right] at k0 k1
        by_cases h : (decide (o.length ≤ z.length) && atB o z (z.length - o.length)) = true
        · rw [if_pos h] at k1
          have le : o.length ≤ z.length := by
            rw [Bool.and_eq_true, decide_eq_true_eq] at h
            exact h.1
          have k1' := k1 _ rfl
          rw [Int.ofNat_sub le] at k1'
          rw [h]
          exact iteT ⟨_, rfl, _, z.length, rfl, ⟨len_small (by omega), rfl⟩, _, rfl, a, C, dx, _, _, rfl, ha, M.cl, M.n1, e1, _, o.length, rfl, ⟨len_small (by omega), rfl⟩, _, _, rfl, rfl, k1'⟩
        · rw [if_neg h] at k0
          rw [Bool.not_eq_true] at h
          rw [h]
          exact iteF ⟨_, rfl, k0 rfl⟩
      | false =>
        refine iteF ⟨_, rfl, a, C, dx, _, _, rfl, ha, M.cl, M.n4, e4, false, rfl, iteF ?_⟩
        refine ⟨_, rfl, rfl, _, rfl, a, C, dx, _, _, rfl, ha, M.cl, M.n1, e1, z, o, rfl, rfl, ?_⟩
        rw [find_is_find3]
        rcases find3_spec z o 0 with ⟨e, hn⟩ | ⟨j, e, _, hj, hn⟩
        · rw [show (0 : Int) = ((0 : Nat) : Int) from rfl, e]
          refine k0 ?_
          have := fitsN_past (o := o) (z := z) (l := false) (r := false) (p := 0) (Nat.zero_le _) hn
          rw [this]
          rfl
        · rw [show (0 : Int) = ((0 : Nat) : Int) from rfl, e]
          refine k _ ?_
          rw [decide_eq_true (show (0 : Int) ≤ (j : Int) by omega)]
          have mem : j ∈ fitsN o false false z := by
            unfold fitsN
            rw [List.mem_filter, List.mem_range]
            have jz := hj.1
            refine ⟨by omega, ?_⟩
            show fN o false false z j = true
            rw [fN_eq, (atB_iff o z j).mpr hj]
            rfl
          cases q : fitsN o false false z with
          | nil => rw [q] at mem; cases mem
          | cons x y => rfl
abbrev sHasMove : Stmt := top 24
def hasMv (rs : List RD) (z : Str) : Bool := rs.any fun d => !(fitsN d.1 d.2.2.1 d.2.2.2 z).isEmpty
def spHasMove (CR : Addr) : Sp := fun vs H Q _ => ∃ (r : Addr) (ys : List V) (rs : List RD) (z : Str), vs = [.ref r, .str z] ∧ H r = some (.tup ys) ∧ RulesAt CR H ys rs ∧ (∀ d ∈ rs, 1 ≤ d.1.length) ∧ z.length ≤ 1000 ∧ Q (.bl (hasMv rs z)) H
theorem scHasMove : FnScope ["rules", "row", "rule"] ["rules", "row"] (defScope sHasMove) := ⟨rfl, rfl, rfl, by decide +kernel, rfl, by decide +kernel, by decide +kernel⟩
theorem ok_hasMove {CR f g : Addr} {fd gd : FuncData} (F : L2.Fun K "has_move" "has_move" sHasMove f fd) (M : RT K mg CR) (mf : Meth K CR "first_place" g) (G : FnOk P w K mg base CX0 1 g gd ["self", "row"] (spFirst2 CR)) (b : L2.Binds K gd ["self", "row"] []) :
    FnOk P w K mg base CX0 2 f fd ["rules", "row"] (spHasMove CR) := by
  refine F.ok scHasMove (fun vs H Q E h => ?_) (fun cdv A outer s H vs Q E hr h => ?_)
  · obtain ⟨r, ys, rs, z, rfl, _⟩ := h
    rfl
  · obtain ⟨r, ys, rs, z, rfl, hr_, ra, o1, zl, k⟩ := h
    have nd := scHasMove.nd
    refine ⟨_, pss_cons (ps_for PassesOwn.never rfl (pi_tup (pv 0)) (pg_name (i := 2) nd rfl (Or.inl rfl))
        (pss_one (ps_if (pt_cmpR op_ge (pe_meth (pv 2) M.cl mf G hr b .nil pass0 (pa_cons (pv 1) pa_nil)) pe_int (nomark _)) (pss_one (ps_ret pe_bl)) pss_nil)))
      (pss_one (ps_ret pe_bl)), ?_⟩
    refine ⟨_, rfl, r, rfl, ⟨_, SqT.of hr_⟩, ?_⟩
    refine for_it walk_tup (fun i σ' H' => H' = H ∧ hasMv (rs.take i) z = false ∧ ∃ y2, σ' = [some (.ref r), some (.str z), y2]) ⟨rfl, rfl, _, rfl⟩ (fun i σ' H' _ y => by rw [y.1]; exact SqT.of hr_) ?_ ?_
    · rintro i x σ' H' H'' hi ⟨rfl, none, y2, rfl⟩ ⟨rfl, hx⟩
      have yl := ra.1
      have hi' : i < rs.length := by omega
      obtain ⟨d, hd⟩ : ∃ d, rs[i]? = some d := ⟨_, List.getElem?_eq_getElem hi'⟩
      obtain ⟨a, ea, ⟨dx, ha⟩, d4, n4⟩ := ra.2 i d hd
      obtain rfl : x = .ref a := Option.some.inj (hx.symm.trans ea)
      refine ⟨_, rfl, a, dx, _, rfl, ha, rf_no rfl rfl rfl rfl, _, rfl, a, d.1, d.2.1, d.2.2.1, d.2.2.2, z, rfl, ⟨dx, ha⟩, o1 d (List.mem_of_getElem? hd), d4, zl, fun v hv => ?_⟩
      refine ⟨v, 0, rfl, rfl, _, rfl, ?_⟩
      rw [hv]
      cases e : (fitsN d.1 d.2.2.1 d.2.2.2 z).isEmpty with
      | true =>
        refine iteF ⟨rfl, ?_, _, rfl⟩
        rw [List.take_add_one, hd]
        unfold hasMv at none ⊢
        rw [List.any_append, none]
        show (!(fitsN d.1 d.2.2.1 d.2.2.2 z).isEmpty || false) = false
        rw [e]; rfl
      | false =>
        refine iteT ?_
        have : hasMv rs z = true := List.any_eq_true.mpr ⟨d, List.mem_of_getElem? hd, by rw [e]; rfl⟩
        rw [this] at k
        exact k
    · rintro σ' H' ⟨rfl, none, y2, rfl⟩
      rw [List.take_of_length_le (by have := ra.1; omega)] at none
      rw [none] at k
      exact k
end
end Kx
set_option Elab.async false
set_option maxRecDepth 100000
set_option autoImplicit false
set_option pp.maxSteps 400
set_option pp.deepTerms false
/-! is_integer, has_form_of_move -/
namespace Kx
open PySem L2 PySem.Spec PyProof.Rows Rg Er Ru
abbrev sIsInt : Stmt := top 15
abbrev sHasForm : Stmt := top 27
def spIsIntA (K : PySem.W.Frag) : Sp := fun vs H Q _ => ∃ x o, vs = [x] ∧ IzX K H x o ∧ Q (.bl o.isSome) H
/-- x is a pair of numbers, or is none -/
def MvX (K : PySem.W.Frag) (H : Hp) (x : V) (o : Option (Int × Int)) : Prop := (∃ a u v o1 o2, x = .ref a ∧ H a = some (.tup [u, v]) ∧ IzX K H u o1 ∧ IzX K H v o2 ∧ o = (match o1, o2 with | some i, some j => some (i, j) | _, _ => none)) ∨
  (o = none ∧ ((∃ a xs, x = .ref a ∧ H a = some (.tup xs) ∧ xs.length ≠ 2) ∨ NoOf K "tuple" H x))
def spHasForm (K : PySem.W.Frag) : Sp := fun vs H Q _ => ∃ x o, vs = [x] ∧ MvX K H x o ∧ Q (.bl o.isSome) H
section
variable {P : Program} {w : World} {K : PySem.W.Frag} {mg : Str → Option Value} {base : Heap}
theorem scIsInt : FnScope ["value"] ["value"] (defScope sIsInt) := ⟨rfl, rfl, rfl, by decide +kernel, rfl, by decide +kernel, by decide +kernel⟩
theorem ok_isIntA {f : Addr} {fd : FuncData} (F : L2.Fun K "is_integer" "is_integer" sIsInt f fd) (T : Txt mg) (mB : mg "bool" = none) : FnOk P w K mg base CX0 1 f fd ["value"] (spIsIntA K) := by
  refine F.ok scIsInt (fun vs H Q E h => ?_) (fun cdv A outer s H vs Q E hr h => ?_)
  · obtain ⟨x, o, rfl, _⟩ := h
    rfl
  · obtain ⟨x, o, rfl, how, k⟩ := h
    refine ⟨_, pss_one (ps_ret (pe_and (bIsi (by rfl) T.isi (pv 0) (pe_bltn (v := .ty "int") (by rfl) T.int (by decide +kernel) rfl)) (pe_one (pe_not (bIsi (by rfl) T.isi (pv 0) (pe_bltn (v := .ty "bool") (by rfl) mB (by decide +kernel) rfl)))))), ?_⟩
    rcases how with ⟨i, rfl, rfl⟩ | ⟨rfl, ⟨c, rfl⟩ | ⟨t, ty, no⟩⟩
    · refine ⟨_, rfl, .int i, .ty "int", _, _, true, rfl, .ty "int", .base (.int i), kit_ty (by decide +kernel), true, rfl, iteT ?_⟩
      exact ⟨_, rfl, .int i, .ty "bool", _, _, false, rfl, .ty "bool", .base (.int i), kit_ty (by decide +kernel), false, rfl, k⟩
    · refine ⟨_, rfl, .bl c, .ty "int", _, _, true, rfl, .ty "int", .base (.bl c), kit_ty (by decide +kernel), true, rfl, iteT ?_⟩
      exact ⟨_, rfl, .bl c, .ty "bool", _, _, true, rfl, .ty "bool", .base (.bl c), kit_ty (by decide +kernel), true, rfl, k⟩
    · exact ⟨_, rfl, x, .ty "int", _, _, false, rfl, .ty "int", ty, no, false, rfl, iteF k⟩
theorem scHasForm : FnScope ["value"] ["value"] (defScope sHasForm) := ⟨rfl, rfl, rfl, by decide +kernel, rfl, by decide +kernel, by decide +kernel⟩
theorem ok_hasForm {f f1 : Addr} {fd fd1 : FuncData} (F : L2.Fun K "has_form_of_move" "has_form_of_move" sHasForm f fd) (T : Txt mg)
    (G1 : FnOk P w K mg base CX0 1 f1 fd1 ["value"] (spIsIntA K)) (m1 : mg "is_integer" = some (.ref f1)) (k1 : PySem.W.keepIn K (.ref f1) = true) (b1 : L2.Binds K fd1 ["value"] []) : FnOk P w K mg base CX0 2 f fd ["value"] (spHasForm K) := by
  refine F.ok scHasForm (fun vs H Q E h => ?_) (fun cdv A outer s H vs Q E hr h => ?_)
  · obtain ⟨x, o, rfl, _⟩ := h
    rfl
  · obtain ⟨x, o, rfl, how, k⟩ := h
    refine ⟨_, pss_one (ps_ret (pe_and (bIsi (by rfl) T.isi (pv 0) (pe_bltn (v := .ty "tuple") (by rfl) T.tuple (by decide +kernel) rfl)) (pe_and (pe_cmpR op_eq (bLen (by rfl) T.len (pv 0)) pe_int (nomark _))
      (pe_and (pe_call G1 hr (by rfl) m1 k1 b1 .nil pass0 (pa_cons (bIxT (pv 0) pe_int) pa_nil)) (pe_one (pe_call G1 hr (by rfl) m1 k1 b1 .nil pass0 (pa_cons (bIxT (pv 0) pe_int) pa_nil))))))), ?_⟩
    rcases how with ⟨a, u, v, o1, o2, rfl, ha, hu, hv, rfl⟩ | ⟨rfl, ⟨a, xs, rfl, ha, ne⟩ | ⟨t, ty, no⟩⟩
    · refine ⟨_, rfl, .ref a, .ty "tuple", _, _, true, rfl, .ty "tuple", .base (.tup ha), kit_ty (by decide +kernel), true, rfl, iteT ?_⟩
      refine ⟨_, rfl, _, 2, rfl, .inr ⟨_, SqT.of ha, rfl⟩, rfl, true, rfl, iteT ?_⟩
      refine ⟨_, rfl, a, _, 0, u, rfl, rfl, SqT.of ha, rfl, u, o1, rfl, hu, o1.isSome, rfl, ?_⟩
      cases o1 with
      | none => exact iteF k
      | some i =>
        refine iteT ⟨_, rfl, a, _, 1, v, rfl, rfl, SqT.of ha, rfl, v, o2, rfl, hv, ?_⟩
        cases o2 with
        | none => exact k
        | some j => exact k
    · refine ⟨_, rfl, .ref a, .ty "tuple", _, _, true, rfl, .ty "tuple", .base (.tup ha), kit_ty (by decide +kernel), true, rfl, iteT ?_⟩
      refine ⟨_, rfl, _, xs.length, rfl, .inr ⟨_, SqT.of ha, rfl⟩, rfl, _, rfl, ?_⟩
      rw [decide_eq_false (show ¬ V.int ((xs.length : Nat) : Int) = V.int 2 from fun z => ne (by have := V.int.inj z; omega))]
      exact iteF k
    · exact ⟨_, rfl, x, .ty "tuple", _, _, false, rfl, .ty "tuple", ty, no, false, rfl, iteF k⟩
end
end Kx
set_option Elab.async false
set_option maxRecDepth 100000
set_option autoImplicit false
set_option pp.maxSteps 400
set_option pp.deepTerms false
/-! row_behind_move -/
namespace Kx
open PySem L2 PySem.Spec PyProof.Rows Rg Er Ru
abbrev sRowBM : Stmt := top 28
def spRowBM (K : PySem.W.Frag) (CR CM : Addr) : Sp := fun vs H Q E => ∃ (r : Addr) (x : V) (ys : List V) (rs : List RD) (z : Str) (o : Option (Int × Int)), vs = [.ref r, .str z, x] ∧ H r = some (.tup ys) ∧ RulesAt CR H ys rs ∧ (∀ d ∈ rs, 1 ≤ d.1.length) ∧ rs.length ≤ 1000 ∧ z.length ≤ 1000 ∧ MvX K H x o ∧
  match o with
  | none => raised CM "part" (.str "form") E H
  | some (p, i) => (¬ (0 ≤ i ∧ i < rs.length) → raised CM "part" (.str "rule") E H) ∧ ∀ d, 0 ≤ i → rs[i.toNat]? = some d → (fitB d.1 d.2.2.1 d.2.2.2 z p = true → Q (.str (ledS d.1 d.2.1 z p)) H) ∧ (fitB d.1 d.2.2.1 d.2.2.2 z p = false → raised CM "part" (.str "place") E H)
section
variable {P : Program} {w : World} {K : PySem.W.Frag} {mg : Str → Option Value} {base : Heap}
abbrev nRowBM : List Str := ["rules", "row", "move", "place", "index", "rule"]
theorem scRowBM : FnScope nRowBM ["rules", "row", "move"] (defScope sRowBM) := ⟨rfl, rfl, rfl, by decide +kernel, rfl, by decide +kernel, by decide +kernel⟩
theorem ok_rowBM {CR CM f f1 f2 g : Addr} {fd fd1 fd2 gd : FuncData} (F : L2.Fun K "row_behind_move" "row_behind_move" sRowBM f fd) (T : Txt mg) (M : RT K mg CR) (R : ErrB P w K mg base "BadMove" "part" CM)
    (G1 : FnOk P w K mg base CX0 2 f1 fd1 ["value"] (spHasForm K)) (m1 : mg "has_form_of_move" = some (.ref f1)) (k1 : PySem.W.keepIn K (.ref f1) = true) (b1 : L2.Binds K fd1 ["value"] [])
    (G2 : FnOk P w K mg base CX0 2 f2 fd2 ["value", "low", "high"] (spFromToA K)) (m2 : mg "is_from_to" = some (.ref f2)) (k2 : PySem.W.keepIn K (.ref f2) = true) (b2 : L2.Binds K fd2 ["value", "low", "high"] [])
    (co : StX.CallO K CR g) (Fc : FnOk P w K mg base (L2.CX P w) 3 g gd nFits (spCall CR CM)) (bc : L2.Binds K gd nFits []) :
    FnOk P w K mg base (L2.CX P w) 5 f fd ["rules", "row", "move"] (spRowBM K CR CM) := by
  obtain ⟨fi, fdi, psi, r1, r2, r3, r4⟩ := R.init
  refine F.okX scRowBM (fun vs H Q E h => ?_) (fun cdv A outer s H vs Q E hr h => ?_)
  · obtain ⟨r, x, ys, rs, z, o, rfl, _⟩ := h
    rfl
  · obtain ⟨r, x, ys, rs, z, o, rfl, hr_, ra, o1, rl, zl, mv, k⟩ := h
    have nd := scRowBM.nd
    have tk := takes_of (X := cxOf (L2.CX P w) P w K mg base nRowBM "row_behind_move" (defScope sRowBM) f cdv A outer s H E) rfl rfl rfl rfl
    have hr2 := hr.mono (show 2 ≤ 4 by decide)
    have hr3 := hr.mono (show 3 ≤ 4 by decide)
    refine ⟨_, pss_cons (ps_if (pt_not (pt_val (pe_call G1 hr2 (by rfl) m1 k1 b1 .nil pass0 (pa_cons (pv 2) pa_nil)))) (pss_one (ps_raise1 rfl tk R.O r1 r2 r3 hr2 r4 (by rfl) R.mgC pe_str)) pss_nil)
      (pss_cons (ps_asg (pv 2) (pg_tup rfl (pgs_cons (pg_name (i := 3) nd rfl (Or.inl rfl)) (pgs_cons (pg_name (i := 4) nd rfl (Or.inl rfl)) pgs_nil))))
      (pss_cons (ps_if (pt_not (pt_val (pe_call G2 hr2 (by rfl) m2 k2 b2 .nil pass0 (pa_cons (pv 4) (pa_cons pe_int (pa_cons (pe_op op_sub (bLen (by rfl) T.len (pv 0)) pe_int) pa_nil)))))) (pss_one (ps_raise1 rfl tk R.O r1 r2 r3 hr2 r4 (by rfl) R.mgC pe_str)) pss_nil)
      (pss_cons (ps_set (i := 5) nd rfl (.inl rfl) (bIxT (pv 0) (pv 4)))
      (pss_one (ps_ret (pe_callOS (E := fun _ => E) (pv 5) co Fc hr3 bc (fun σ => passAt tk σ) (pa_cons (pv 1) (pa_cons (pv 3) pa_nil)))))))), ?_⟩
    have yl := ra.1
    refine ⟨_, rfl, x, o, rfl, mv, o.isSome, rfl, ?_⟩
    cases o with
    | none => exact iteT k
    | some pi =>
      obtain ⟨p, i⟩ := pi
      refine iteF ?_
      obtain ⟨t, ht⟩ : ∃ t, x = .ref t ∧ H t = some (.tup [.int p, .int i]) := by
        rcases mv with ⟨a, u, v, o1, o2, rfl, ha, hu, hv, e⟩ | ⟨z, _⟩
        · cases o1 with
          | none => cases e
          | some p' =>
            cases o2 with
            | none => cases e
            | some i' =>
              cases e
              rcases hu with ⟨_, rfl, e1⟩ | ⟨e1, _⟩
              · rcases hv with ⟨_, rfl, e2⟩ | ⟨e2, _⟩
                · cases e1; cases e2; exact ⟨a, rfl, ha⟩
                · cases e2
              · cases e1
        · cases z
      obtain ⟨rfl, ht⟩ := ht
      refine ⟨_, rfl, t, _, rfl, SqT.of ht, rfl, _, _, rfl, _, _, rfl, rfl, ?_⟩
      refine ⟨_, rfl, _, rfl, _, ys.length, rfl, .inr ⟨_, SqT.of hr_, rfl⟩, _, _, rfl, rfl, .int i, some i, 0, _, rfl, .inl ⟨i, rfl, rfl⟩, _, rfl, ?_⟩
      by_cases ok : 0 ≤ i ∧ i < rs.length
      · have e : inB 0 ((ys.length : Int) - 1) (some i) = true := by
          show (decide (0 ≤ i) && decide (i ≤ (ys.length : Int) - 1)) = true
          rw [decide_eq_true ok.1, decide_eq_true (by omega)]
          rfl
        rw [e]
        obtain ⟨d, hd⟩ : ∃ d, rs[i.toNat]? = some d := ⟨_, List.getElem?_eq_getElem (by omega)⟩
        obtain ⟨a, ea, ⟨dx, ha⟩, d4, n4⟩ := ra.2 _ d hd
        obtain ⟨yes, no⟩ := k.2 d ok.1 hd
        refine iteF ⟨_, rfl, _, rfl, r, ys, i, .ref a, rfl, rfl, SqT.of hr_, atI_int ok.1 ea, ?_⟩
        exact ⟨_, rfl, a, rfl, _, rfl, _, rfl, ⟨dx, _, ha⟩, a, d.1, d.2.1, d.2.2.1, d.2.2.2, z, p, rfl, ⟨dx, ha⟩, o1 d (List.mem_of_getElem? hd), d4, n4, zl, yes, no⟩
      · have e : inB 0 ((ys.length : Int) - 1) (some i) = false := by
          show (decide (0 ≤ i) && decide (i ≤ (ys.length : Int) - 1)) = false
          by_cases z0 : 0 ≤ i
          · rw [decide_eq_false (show ¬ i ≤ (ys.length : Int) - 1 by omega)]; simp
          · rw [decide_eq_false z0]; rfl
        rw [e]
        exact iteT (k.1 ok)
end
end Kx
set_option Elab.async false
set_option maxRecDepth 100000
set_option autoImplicit false
set_option pp.maxSteps 400
set_option pp.deepTerms false
/-! Book.finished, Book.led of a row; what is no row -/
namespace Kx
open PySem L2 PySem.Spec PyProof.Rows Rg Er Ru Tn
abbrev sBCall : Stmt := inClass (top 38) 9
abbrev sBFin : Stmt := inClass (top 38) 10
abbrev sBLedTo : Stmt := inClass (top 38) 11
abbrev sBLed : Stmt := inClass (top 38) 12
/-- a row over the signs of a book -/
def RowOf (es : List (Nat × Int)) (z : Str) : Prop := Word (letters es) z ∧ z.length ≤ 1000
def spBFin (C CW CR : Addr) : Sp := fun vs H Q _ => ∃ b es rs z, vs = [.ref b, .str z] ∧ Bk C CW CR H b es rs ∧ (∀ d ∈ rs, 1 ≤ d.1.length) ∧ RowOf es z ∧ Q (.bl (!hasMv rs z)) H
/-- what is no row: BadRow -/
def spBBad (K : PySem.W.Frag) (C CW CR CO : Addr) : Sp := fun vs H _ E => ∃ b es rs x i, vs = [.ref b, x] ∧ Bk C CW CR H b es rs ∧ Bad K H (letters es) x i ∧ raised CO "at" (.int i) E H
def spBBad2 (K : PySem.W.Frag) (C CW CR CO : Addr) : Sp := fun vs H _ E => ∃ b es rs x m i, vs = [.ref b, x, m] ∧ Bk C CW CR H b es rs ∧ Bad K H (letters es) x i ∧ raised CO "at" (.int i) E H
section
variable {P : Program} {w : World} {K : PySem.W.Frag} {mg : Str → Option Value} {base : Heap}
theorem scBFin : FnScope ["self", "row"] ["self", "row"] (defScope sBFin) := ⟨rfl, rfl, rfl, by decide +kernel, rfl, by decide +kernel, by decide +kernel⟩
theorem scBCall : FnScope ["self", "row"] ["self", "row"] (defScope sBCall) := ⟨rfl, rfl, rfl, by decide +kernel, rfl, by decide +kernel, by decide +kernel⟩
theorem scBLedTo : FnScope ["self", "row"] ["self", "row"] (defScope sBLedTo) := ⟨rfl, rfl, rfl, by decide +kernel, rfl, by decide +kernel, by decide +kernel⟩
theorem scBLed : FnScope ["self", "row", "move"] ["self", "row", "move"] (defScope sBLed) := ⟨rfl, rfl, rfl, by decide +kernel, rfl, by decide +kernel, by decide +kernel⟩
theorem ok_bFin {C CW CR f f1 f2 ps_ gs : Addr} {fd fd1 fd2 fds : FuncData} (F : L2.Fun K "finished" "Book.finished" sBFin f fd) (M : BT K C) (MW : WT K CW)
    (G1 : FnOk P w K mg base CX0 2 f1 fd1 ["signs", "value"] spWrong) (m1 : mg "check_row" = some (.ref f1)) (k1 : PySem.W.keepIn K (.ref f1) = true) (b1 : L2.Binds K fd1 ["signs", "value"] [])
    (G2 : FnOk P w K mg base CX0 2 f2 fd2 ["rules", "row"] (spHasMove CR)) (m2 : mg "has_move" = some (.ref f2)) (k2 : PySem.W.keepIn K (.ref f2) = true) (b2 : L2.Binds K fd2 ["rules", "row"] [])
    (po : PropOf K CW "signs" ps_ gs) (GS : FnOk P w K mg base CX0 1 gs fds ["self"] (getSp CW "_signs")) (bS : L2.Binds K fds ["self"] []) : FnOk P w K mg base CX0 3 f fd ["self", "row"] (spBFin C CW CR) := by
  refine F.ok scBFin (fun vs H Q E h => ?_) (fun cdv A outer s H vs Q E hr h => ?_)
  · obtain ⟨b, es, rs, z, rfl, _⟩ := h
    rfl
  · obtain ⟨b, es, rs, z, rfl, ⟨dx, q, r, xs, ys, hb, ⟨dw, pw, hq, _⟩, hr_, ra⟩, o1, ⟨wd, zl⟩, k⟩ := h
    have hr2 := hr.mono (show 1 + 1 ≤ 2 by decide)
    refine ⟨_, pss_cons (ps_expr (pe_call G1 hr (by rfl) m1 k1 b1 .nil pass0 (pa_cons (pe_prop (pe_fld (pv 0) rfl) MW.cl po GS hr2 bS .nil pass0 rfl) (pa_cons (pv 1) pa_nil))))
      (pss_one (ps_ret (pe_not (pe_call G2 hr (by rfl) m2 k2 b2 .nil pass0 (pa_cons (pe_fld (pv 0) rfl) (pa_cons (pv 1) pa_nil)))))), ?_⟩
    refine ⟨_, rfl, b, C, dx, _, _, rfl, hb, M.cl, M.n1, bf_weights _ _, q, dw, _, rfl, hq, q, dw, _, _, rfl, hq, wf_signs _ _, _, rfl, letters es, z, rfl, wd, zl, ?_⟩
    exact ⟨_, rfl, b, C, dx, _, _, rfl, hb, M.cl, M.n2, bf_rules _ _, _, rfl, r, ys, rs, z, rfl, hr_, ra, o1, zl, _, rfl, k⟩
theorem ok_bFinB {C CW CR CO f f1 ps_ gs : Addr} {fd fd1 fds : FuncData} (F : L2.Fun K "finished" "Book.finished" sBFin f fd) (M : BT K C) (MW : WT K CW)
    (G1 : FnOk P w K mg base (L2.CX P w) 3 f1 fd1 ["signs", "value"] (spCheckB K CO)) (m1 : mg "check_row" = some (.ref f1)) (k1 : PySem.W.keepIn K (.ref f1) = true) (b1 : L2.Binds K fd1 ["signs", "value"] [])
    (po : PropOf K CW "signs" ps_ gs) (GS : FnOk P w K mg base CX0 1 gs fds ["self"] (getSp CW "_signs")) (bS : L2.Binds K fds ["self"] []) : FnOk P w K mg base (L2.CX P w) 4 f fd ["self", "row"] (spBBad K C CW CR CO) := by
  refine F.okX scBFin (fun vs H Q E h => ?_) (fun cdv A outer s H vs Q E hr h => ?_)
  · obtain ⟨b, es, rs, x, i, rfl, _⟩ := h
    rfl
  · obtain ⟨b, es, rs, x, i, rfl, ⟨dx, q, r, xs, ys, hb, ⟨dw, pw, hq, _⟩, hr_, ra⟩, bad, k⟩ := h
    have hr2 := hr.mono (show 1 + 1 ≤ 3 by decide)
    have tk := takes_of (X := cxOf (L2.CX P w) P w K mg base ["self", "row"] "Book.finished" (defScope sBFin) f cdv A outer s H E) rfl rfl rfl rfl
    refine ⟨_, pss_cons (ps_expr (pe_call G1 hr (by rfl) m1 k1 b1 .nil (passes_call tk fun _ _ _ _ h => h) (pa_cons (pe_prop (pe_fld (pv 0) rfl) MW.cl po GS hr2 bS .nil pass0 rfl) (pa_cons (pv 1) pa_nil)))) (pss_one ps_never), ?_⟩
    exact ⟨_, rfl, b, C, dx, _, _, rfl, hb, M.cl, M.n1, bf_weights _ _, q, dw, _, rfl, hq, q, dw, _, _, rfl, hq, wf_signs _ _, _, rfl, letters es, x, i, rfl, bad, k⟩
theorem ok_bCallB {C CW CR CO f f1 ps_ gs : Addr} {fd fd1 fds : FuncData} (F : L2.Fun K "__call__" "Book.__call__" sBCall f fd) (M : BT K C) (MW : WT K CW)
    (G1 : FnOk P w K mg base (L2.CX P w) 3 f1 fd1 ["signs", "value"] (spCheckB K CO)) (m1 : mg "check_row" = some (.ref f1)) (k1 : PySem.W.keepIn K (.ref f1) = true) (b1 : L2.Binds K fd1 ["signs", "value"] [])
    (po : PropOf K CW "signs" ps_ gs) (GS : FnOk P w K mg base CX0 1 gs fds ["self"] (getSp CW "_signs")) (bS : L2.Binds K fds ["self"] []) : FnOk P w K mg base (L2.CX P w) 4 f fd ["self", "row"] (spBBad K C CW CR CO) := by
  refine F.okX scBCall (fun vs H Q E h => ?_) (fun cdv A outer s H vs Q E hr h => ?_)
  · obtain ⟨b, es, rs, x, i, rfl, _⟩ := h
    rfl
  · obtain ⟨b, es, rs, x, i, rfl, ⟨dx, q, r, xs, ys, hb, ⟨dw, pw, hq, _⟩, hr_, ra⟩, bad, k⟩ := h
    have hr2 := hr.mono (show 1 + 1 ≤ 3 by decide)
    have tk := takes_of (X := cxOf (L2.CX P w) P w K mg base ["self", "row"] "Book.__call__" (defScope sBCall) f cdv A outer s H E) rfl rfl rfl rfl
    refine ⟨_, pss_cons (ps_expr (pe_call G1 hr (by rfl) m1 k1 b1 .nil (passes_call tk fun _ _ _ _ h => h) (pa_cons (pe_prop (pe_fld (pv 0) rfl) MW.cl po GS hr2 bS .nil pass0 rfl) (pa_cons (pv 1) pa_nil)))) (pss_one ps_never), ?_⟩
    exact ⟨_, rfl, b, C, dx, _, _, rfl, hb, M.cl, M.n1, bf_weights _ _, q, dw, _, rfl, hq, q, dw, _, _, rfl, hq, wf_signs _ _, _, rfl, letters es, x, i, rfl, bad, k⟩
theorem ok_bLedToB {C CW CR CO f f1 ps_ gs : Addr} {fd fd1 fds : FuncData} (F : L2.Fun K "led_to" "Book.led_to" sBLedTo f fd) (M : BT K C) (MW : WT K CW)
    (G1 : FnOk P w K mg base (L2.CX P w) 3 f1 fd1 ["signs", "value"] (spCheckB K CO)) (m1 : mg "check_row" = some (.ref f1)) (k1 : PySem.W.keepIn K (.ref f1) = true) (b1 : L2.Binds K fd1 ["signs", "value"] [])
    (po : PropOf K CW "signs" ps_ gs) (GS : FnOk P w K mg base CX0 1 gs fds ["self"] (getSp CW "_signs")) (bS : L2.Binds K fds ["self"] []) : FnOk P w K mg base (L2.CX P w) 4 f fd ["self", "row"] (spBBad K C CW CR CO) := by
  refine F.okX scBLedTo (fun vs H Q E h => ?_) (fun cdv A outer s H vs Q E hr h => ?_)
  · obtain ⟨b, es, rs, x, i, rfl, _⟩ := h
    rfl
  · obtain ⟨b, es, rs, x, i, rfl, ⟨dx, q, r, xs, ys, hb, ⟨dw, pw, hq, _⟩, hr_, ra⟩, bad, k⟩ := h
    have hr2 := hr.mono (show 1 + 1 ≤ 3 by decide)
    have tk := takes_of (X := cxOf (L2.CX P w) P w K mg base ["self", "row"] "Book.led_to" (defScope sBLedTo) f cdv A outer s H E) rfl rfl rfl rfl
    refine ⟨_, pss_cons (ps_expr (pe_call G1 hr (by rfl) m1 k1 b1 .nil (passes_call tk fun _ _ _ _ h => h) (pa_cons (pe_prop (pe_fld (pv 0) rfl) MW.cl po GS hr2 bS .nil pass0 rfl) (pa_cons (pv 1) pa_nil)))) (pss_one ps_never), ?_⟩
    exact ⟨_, rfl, b, C, dx, _, _, rfl, hb, M.cl, M.n1, bf_weights _ _, q, dw, _, rfl, hq, q, dw, _, _, rfl, hq, wf_signs _ _, _, rfl, letters es, x, i, rfl, bad, k⟩
theorem ok_bLedB {C CW CR CO f f1 ps_ gs : Addr} {fd fd1 fds : FuncData} (F : L2.Fun K "led" "Book.led" sBLed f fd) (M : BT K C) (MW : WT K CW)
    (G1 : FnOk P w K mg base (L2.CX P w) 3 f1 fd1 ["signs", "value"] (spCheckB K CO)) (m1 : mg "check_row" = some (.ref f1)) (k1 : PySem.W.keepIn K (.ref f1) = true) (b1 : L2.Binds K fd1 ["signs", "value"] [])
    (po : PropOf K CW "signs" ps_ gs) (GS : FnOk P w K mg base CX0 1 gs fds ["self"] (getSp CW "_signs")) (bS : L2.Binds K fds ["self"] []) : FnOk P w K mg base (L2.CX P w) 4 f fd ["self", "row", "move"] (spBBad2 K C CW CR CO) := by
  refine F.okX scBLed (fun vs H Q E h => ?_) (fun cdv A outer s H vs Q E hr h => ?_)
  · obtain ⟨b, es, rs, x, m, i, rfl, _⟩ := h
    rfl
  · obtain ⟨b, es, rs, x, m, i, rfl, ⟨dx, q, r, xs, ys, hb, ⟨dw, pw, hq, _⟩, hr_, ra⟩, bad, k⟩ := h
    have hr2 := hr.mono (show 1 + 1 ≤ 3 by decide)
    have tk := takes_of (X := cxOf (L2.CX P w) P w K mg base ["self", "row", "move"] "Book.led" (defScope sBLed) f cdv A outer s H E) rfl rfl rfl rfl
    refine ⟨_, pss_cons (ps_expr (pe_call G1 hr (by rfl) m1 k1 b1 .nil (passes_call tk fun _ _ _ _ h => h) (pa_cons (pe_prop (pe_fld (pv 0) rfl) MW.cl po GS hr2 bS .nil pass0 rfl) (pa_cons (pv 1) pa_nil)))) (pss_one ps_never), ?_⟩
    exact ⟨_, rfl, b, C, dx, _, _, rfl, hb, M.cl, M.n1, bf_weights _ _, q, dw, _, rfl, hq, q, dw, _, _, rfl, hq, wf_signs _ _, _, rfl, letters es, x, i, rfl, bad, k⟩
end
end Kx
set_option Elab.async false
set_option maxRecDepth 100000
set_option autoImplicit false
set_option pp.maxSteps 400
set_option pp.deepTerms false
/-! Book.led of a row -/
namespace Kx
open PySem L2 PySem.Spec PyProof.Rows Rg Er Ru Tn
/-- what a book answers to a row and a move of any kind -/
def spBLed (K : PySem.W.Frag) (C CW CR CM : Addr) : Sp := fun vs H Q E => ∃ b es rs z x o, vs = [.ref b, .str z, x] ∧ Bk C CW CR H b es rs ∧ (∀ d ∈ rs, 1 ≤ d.1.length) ∧ rs.length ≤ 1000 ∧ RowOf es z ∧ MvX K H x o ∧
  match o with
  | none => raised CM "part" (.str "form") E H
  | some (p, i) => (¬ (0 ≤ i ∧ i < rs.length) → raised CM "part" (.str "rule") E H) ∧ ∀ d, 0 ≤ i → rs[i.toNat]? = some d → (fitB d.1 d.2.2.1 d.2.2.2 z p = true → Q (.str (ledS d.1 d.2.1 z p)) H) ∧ (fitB d.1 d.2.2.1 d.2.2.2 z p = false → raised CM "part" (.str "place") E H)
section
variable {P : Program} {w : World} {K : PySem.W.Frag} {mg : Str → Option Value} {base : Heap}
theorem ok_bLed {C CW CR CM f f1 f2 ps_ gs : Addr} {fd fd1 fd2 fds : FuncData} (F : L2.Fun K "led" "Book.led" sBLed f fd) (M : BT K C) (MW : WT K CW)
    (G1 : FnOk P w K mg base CX0 2 f1 fd1 ["signs", "value"] spWrong) (m1 : mg "check_row" = some (.ref f1)) (k1 : PySem.W.keepIn K (.ref f1) = true) (b1 : L2.Binds K fd1 ["signs", "value"] [])
    (G2 : FnOk P w K mg base (L2.CX P w) 5 f2 fd2 ["rules", "row", "move"] (spRowBM K CR CM)) (m2 : mg "row_behind_move" = some (.ref f2)) (k2 : PySem.W.keepIn K (.ref f2) = true) (b2 : L2.Binds K fd2 ["rules", "row", "move"] [])
    (po : PropOf K CW "signs" ps_ gs) (GS : FnOk P w K mg base CX0 1 gs fds ["self"] (getSp CW "_signs")) (bS : L2.Binds K fds ["self"] []) : FnOk P w K mg base (L2.CX P w) 6 f fd ["self", "row", "move"] (spBLed K C CW CR CM) := by
  refine F.okX scBLed (fun vs H Q E h => ?_) (fun cdv A outer s H vs Q E hr h => ?_)
  · obtain ⟨b, es, rs, z, x, o, rfl, _⟩ := h
    rfl
  · obtain ⟨b, es, rs, z, x, o, rfl, ⟨dx, q, r, xs, ys, hb, ⟨dw, pw, hq, _⟩, hr_, ra⟩, o1, rl, ⟨wd, zl⟩, mv, k⟩ := h
    have hr2 := hr.mono (show 1 + 1 ≤ 5 by decide)
    have tk := takes_of (X := cxOf (L2.CX P w) P w K mg base ["self", "row", "move"] "Book.led" (defScope sBLed) f cdv A outer s H E) rfl rfl rfl rfl
    refine ⟨_, pss_cons (ps_expr (pe_call G1 hr2 (by rfl) m1 k1 b1 .nil pass0 (pa_cons (pe_prop (pe_fld (pv 0) rfl) MW.cl po GS hr2 bS .nil pass0 rfl) (pa_cons (pv 1) pa_nil))))
      (pss_one (ps_ret (pe_call G2 hr (by rfl) m2 k2 b2 .nil (passes_call tk fun _ _ _ _ h => h) (pa_cons (pe_fld (pv 0) rfl) (pa_cons (pv 1) (pa_cons (pv 2) pa_nil)))))), ?_⟩
    refine ⟨_, rfl, b, C, dx, _, _, rfl, hb, M.cl, M.n1, bf_weights _ _, q, dw, _, rfl, hq, q, dw, _, _, rfl, hq, wf_signs _ _, _, rfl, letters es, z, rfl, wd, zl, ?_⟩
    exact ⟨_, rfl, b, C, dx, _, _, rfl, hb, M.cl, M.n2, bf_rules _ _, _, rfl, _, rfl, r, x, ys, rs, z, o, rfl, hr_, ra, o1, rl, zl, mv, k⟩
end
end Kx
set_option Elab.async false
set_option maxRecDepth 100000
set_option autoImplicit false
set_option pp.maxSteps 400
set_option pp.deepTerms false
/-! moves_from -/
namespace Kx
open PySem L2 PySem.Spec PyProof.Rows Rg Er Ru Tn
/-- the pairs (p, i), p below n, i below m, of which f holds, ascending -/
def mvAt (m : Nat) (f : Nat → Nat → Bool) (p : Nat) : List (Nat × Nat) := ((List.range m).filter (f p)).map fun i => (p, i)
def mvs (m n : Nat) (f : Nat → Nat → Bool) : List (Nat × Nat) := (List.range n).flatMap (mvAt m f)
def cdAt (m n : Nat) (f : Nat → Nat → Bool) (i : Nat) : List Int := ((List.range n).filter fun p => f p i).map fun p => ((p * m + i : Nat) : Int)
def cds (m n : Nat) (f : Nat → Nat → Bool) : List Int := (List.range m).flatMap (cdAt m n f)
theorem mem_mvs {m n : Nat} {f : Nat → Nat → Bool} {x : Nat × Nat} : x ∈ mvs m n f ↔ x.1 < n ∧ x.2 < m ∧ f x.1 x.2 = true := by
  unfold mvs mvAt
  rw [List.mem_flatMap]
  constructor
  · rintro ⟨p, hp, h⟩
    obtain ⟨i, hi, rfl⟩ := List.mem_map.mp h
    rw [List.mem_filter, List.mem_range] at hi
    exact ⟨List.mem_range.mp hp, hi.1, hi.2⟩
  · rintro ⟨a, b, c⟩
    exact ⟨x.1, List.mem_range.mpr a, List.mem_map.mpr ⟨x.2, List.mem_filter.mpr ⟨List.mem_range.mpr b, c⟩, rfl⟩⟩
theorem code_lt {m p i q j : Nat} (hi : i < m) (_hj : j < m) (h : p < q) : p * m + i < q * m + j := by
  have : (p + 1) * m ≤ q * m := Nat.mul_le_mul_right m h
  rw [Nat.add_mul] at this
  omega
theorem code_inj {m p i q j : Nat} (hi : i < m) (hj : j < m) (h : p * m + i = q * m + j) : p = q ∧ i = j := by
  rcases Nat.lt_trichotomy p q with l | l | l
  · have := code_lt hi hj l; omega
  · subst l; exact ⟨rfl, by omega⟩
  · have := code_lt hj hi l; omega
theorem mvs_sorted {m n : Nat} {f : Nat → Nat → Bool} : ((mvs m n f).map fun x => ((x.1 * m + x.2 : Nat) : Int)).Pairwise (· < ·) := by
  rw [List.pairwise_map]
  unfold mvs
  rw [List.pairwise_flatMap]
  refine ⟨fun p hp => ?_, ?_⟩
  · unfold mvAt
    rw [List.pairwise_map]
    refine (List.pairwise_lt_range.filter _).imp fun {a b} h => ?_
    dsimp only
    omega
  · refine List.pairwise_lt_range.imp fun {p q} h x hx y hy => ?_
    unfold mvAt at hx hy
    obtain ⟨i, hi, rfl⟩ := List.mem_map.mp hx
    obtain ⟨j, hj, rfl⟩ := List.mem_map.mp hy
    have := code_lt (List.mem_range.mp (List.mem_filter.mp hi).1) (List.mem_range.mp (List.mem_filter.mp hj).1) h
    dsimp only
    omega
theorem cds_nodup {m n : Nat} {f : Nat → Nat → Bool} : (cds m n f).Nodup := by
  unfold cds cdAt List.Nodup
  rw [List.pairwise_flatMap]
  refine ⟨fun i hi => ?_, ?_⟩
  · rw [List.pairwise_map]
    have h := List.mem_range.mp hi
    refine (List.pairwise_lt_range.filter _).imp fun {a b} hab e => ?_
    have := code_lt h h hab
    omega
  · refine List.pairwise_lt_range.imp_of_mem fun {i j} mi mj h x hx y hy e => ?_
    obtain ⟨p, hp, rfl⟩ := List.mem_map.mp hx
    obtain ⟨q, hq, rfl⟩ := List.mem_map.mp hy
    have := code_inj (List.mem_range.mp mi) (List.mem_range.mp mj) (by omega : p * m + i = q * m + j)
    omega
theorem mem_cds {m n : Nat} {f : Nat → Nat → Bool} {x : Int} : x ∈ cds m n f ↔ x ∈ (mvs m n f).map fun x => ((x.1 * m + x.2 : Nat) : Int) := by
  unfold cds cdAt
  rw [List.mem_flatMap, List.mem_map]
  constructor
  · rintro ⟨i, hi, h⟩
    obtain ⟨p, hp, rfl⟩ := List.mem_map.mp h
    rw [List.mem_filter] at hp
    exact ⟨(p, i), mem_mvs.mpr ⟨List.mem_range.mp hp.1, List.mem_range.mp hi, hp.2⟩, rfl⟩
  · rintro ⟨y, hy, rfl⟩
    obtain ⟨a, b, c⟩ := mem_mvs.mp hy
    exact ⟨y.2, List.mem_range.mpr b, List.mem_map.mpr ⟨y.1, List.mem_filter.mpr ⟨List.mem_range.mpr a, c⟩, rfl⟩⟩
theorem sorted_cds {m n : Nat} {f : Nat → Nat → Bool} {ns : List Int} (h : ns.Perm (cds m n f)) (s : ns.Pairwise (· ≤ ·)) : ns = (mvs m n f).map fun x => ((x.1 * m + x.2 : Nat) : Int) := by
  have nd : ((mvs m n f).map fun x => ((x.1 * m + x.2 : Nat) : Int)).Nodup := mvs_sorted.imp fun {a b} h e => by omega
  have p2 := (List.perm_ext_iff_of_nodup cds_nodup nd).mpr fun x => mem_cds
  refine (h.trans p2).eq_of_pairwise (le := fun a b => a ≤ b) (fun a b _ _ h1 h2 => ?_) s (mvs_sorted.imp fun {a b} h => ?_)
  · have h1 : a ≤ b := h1
    have h2 : b ≤ a := h2
    omega
  · have h : a < b := h
    show a ≤ b
    omega
theorem mvs_one {n : Nat} {f : Nat → Nat → Bool} : mvs 1 n f = ((List.range n).filter fun p => f p 0).map fun p => (p, 0) := by
  unfold mvs
  induction n with
  | zero => rfl
  | succ n ih =>
    rw [List.range_succ, List.flatMap_append, ih, List.filter_append, List.map_append]
    congr 1
    simp only [List.flatMap_cons, List.flatMap_nil, List.append_nil, mvAt, List.range_one]
    cases e : f n 0 with
    | true => simp [e]
    | false => simp [e]
theorem mvs_len {m n : Nat} {f : Nat → Nat → Bool} : (mvs m n f).length ≤ n * m := by
  unfold mvs
  induction n with
  | zero => simp
  | succ n ih =>
    rw [List.range_succ, List.flatMap_append, List.length_append, Nat.succ_mul]
    have : ([n].flatMap (mvAt m f)).length ≤ m := by
      simp only [List.flatMap_cons, List.flatMap_nil, List.append_nil, mvAt, List.length_map]
      have := List.length_filter_le (f n) (List.range m)
      rw [List.length_range] at this
      exact this
    omega
/-- whether rule i fits at place p -/
def fitI (rs : List RD) (z : Str) (p i : Nat) : Bool := match rs[i]? with
  | some d => fN d.1 d.2.2.1 d.2.2.2 z p
  | none => false
/-- the moves from a row, ascending -/
def movesN (rs : List RD) (z : Str) : List (Nat × Nat) := mvs rs.length (z.length + 1) (fitI rs z)
theorem cdAt_rule {rs : List RD} {z : Str} {i : Nat} {d : RD} (h : rs[i]? = some d) : cdAt rs.length (z.length + 1) (fitI rs z) i = (fitsN d.1 d.2.2.1 d.2.2.2 z).map fun p => ((p * rs.length + i : Nat) : Int) := by
  unfold cdAt fitsN
  have : (fun p => fitI rs z p i) = fN d.1 d.2.2.1 d.2.2.2 z := by
    funext p
    unfold fitI
    rw [h]
  rw [this]
  rfl
theorem moves_one {d : RD} {z : Str} : movesN [d] z = (fitsN d.1 d.2.2.1 d.2.2.2 z).map fun p => (p, 0) := mvs_one
def TwsAt (H : Hp) (xs : List V) (ms : List (Nat × Nat)) : Prop := xs.length = ms.length ∧ ∀ (i : Nat) (x : Nat × Nat), ms[i]? = some x → ∃ t, xs[i]? = some (.ref t) ∧ MoveAt H t x.1 x.2
def MvsAt (H : Hp) (q : Addr) (ms : List (Nat × Nat)) : Prop := ∃ xs, H q = some (.lst xs) ∧ TwsAt H xs ms
theorem TwsAt.mono {H H' : Hp} {xs : List V} {ms : List (Nat × Nat)} (h : TwsAt H xs ms) (e : ∀ t p i, MoveAt H t p i → MoveAt H' t p i) : TwsAt H' xs ms := ⟨h.1, fun i x q => let ⟨t, a, b⟩ := h.2 i x q; ⟨t, a, e _ _ _ b⟩⟩
theorem MoveAt.put {H : Hp} {t l : Addr} {p i : Nat} {xs ys : List V} (h : MoveAt H t p i) (hl : H l = some (.lst xs)) : MoveAt (upd H l (.lst ys)) t p i := by
  unfold MoveAt at h ⊢
  rw [upd_ne]
  · exact h
  · rintro rfl; rw [h] at hl; cases hl
theorem TwsAt.same {H H' : Hp} {xs : List V} {ms : List (Nat × Nat)} (h : TwsAt H xs ms) (s : Same H H') : TwsAt H' xs ms := h.mono fun _ _ _ q => s _ _ q
theorem TwsAt.put {H : Hp} {l : Addr} {zs xs ys : List V} {ms : List (Nat × Nat)} (h : TwsAt H zs ms) (hl : H l = some (.lst xs)) : TwsAt (upd H l (.lst ys)) zs ms := h.mono fun _ _ _ q => q.put hl
theorem TwsAt.snoc {H : Hp} {xs : List V} {ms : List (Nat × Nat)} {t : Addr} {x : Nat × Nat} (h : TwsAt H xs ms) (q : MoveAt H t x.1 x.2) : TwsAt H (xs ++ [.ref t]) (ms ++ [x]) := by
  refine ⟨by simp [h.1], fun i e he => ?_⟩
  have hl := h.1
  by_cases lt : i < ms.length
  · rw [List.getElem?_append_left lt] at he
    rw [List.getElem?_append_left (by omega)]
    exact h.2 i e he
  · rw [List.getElem?_append_right (by omega)] at he
    obtain ⟨i0, ei⟩ := List.getElem?_eq_some_iff.mp he
    have i0' : i - ms.length = 0 := by simp at i0; omega
    rw [List.getElem?_append_right (by omega), show i - xs.length = 0 by omega]
    rw [i0'] at he
    cases he
    exact ⟨t, rfl, q⟩
theorem MvsAt.same {H H' : Hp} {q : Addr} {ms : List (Nat × Nat)} (h : MvsAt H q ms) (s : Same H H') : MvsAt H' q ms := let ⟨xs, a, b⟩ := h; ⟨xs, s _ _ a, b.same s⟩
theorem Same.gone {H H' : Hp} {q : Addr} (s : Same H H') (n : H' q = none) : H q = none := by
  cases e : H q with
  | none => rfl
  | some o => rw [s _ _ e] at n; cases n
/-- a loop of a comprehension, whatever stands in it -/
theorem lc_any {J : It} {n : Nat} {G : Hp → Prop} {Y : Nat → Hp → V → Hp → Prop} (w : Walk J n G Y) {B : (Hp → Prop) → V → Hp → Prop} {H0 : Hp} {Qd : Hp → Prop} (Pv : Nat → Hp → Prop) (h0 : Pv 0 H0) (hG : ∀ i H, i ≤ n → Pv i H → G H)
    (hs : ∀ i x H H', i < n → Pv i H → Y i H x H' → B (Pv (i + 1)) x H') (hd : ∀ H, Pv n H → Qd H) :
    ∃ W : Nat → Nat → Hp → Prop, (∃ m, W 0 m H0) ∧ ∀ i m H, W i m H → (J.stop i H ∧ Qd H) ∨ (J.go i H ∧ ∃ Nx : Hp → Prop, (∀ H', Nx H' → ∃ m', m' < m ∧ W (i + 1) m' H') ∧ ∀ x H', J.yld i H x H' → B Nx x H') := by
  refine ⟨fun i m H => m = n - i ∧ i ≤ n ∧ Pv i H, ⟨n, by simp, Nat.zero_le _, h0⟩, ?_⟩
  rintro i m H ⟨rfl, hi, p⟩
  have q := hG i H hi p
  by_cases hlt : i < n
  · exact .inr ⟨w.goes i H hlt q, Pv (i + 1), fun H' p' => ⟨n - (i + 1), by omega, rfl, hlt, p'⟩, fun x H' y => hs i x H H' hlt p (w.yields i H x H' hlt q y)⟩
  · have e : i = n := by omega
    subst e
    exact .inl ⟨w.stops H q, hd H p⟩
theorem tw_step {H1 H' : Hp} {D t : Addr} {acc : List V} {ms : List (Nat × Nat)} {i : Nat} {x : Nat × Nat} (hD : H1 D = none) (s : Same H1 H') (tw : TwsAt H' acc (ms.take i)) (hDl : H' D = some (.lst acc)) (ht : H' t = none) (hx : ms[i]? = some x) :
    upd H' t (.tup [.int (x.1 : Int), .int (x.2 : Int)]) D = some (.lst acc) ∧ Same H1 (upd (upd H' t (.tup [.int (x.1 : Int), .int (x.2 : Int)])) D (.lst (acc ++ [.ref t]))) ∧ TwsAt (upd (upd H' t (.tup [.int (x.1 : Int), .int (x.2 : Int)])) D (.lst (acc ++ [.ref t]))) (acc ++ [.ref t]) (ms.take (i + 1)) := by
  have s2 : Same H' (upd H' t (.tup [.int (x.1 : Int), .int (x.2 : Int)])) := Same.new ht
  have hD4 := s2 _ _ hDl
  refine ⟨hD4, Same.putNew hD (Same.trans s s2), ?_⟩
  rw [List.take_add_one, hx]
  exact ((tw.same s2).put hD4).snoc (MoveAt.put upd_same hD4)
theorem flat_few {α : Type} (f : Nat → List α) (b : Nat) (n : Nat) (h : ∀ j, (f j).length ≤ b) : ((List.range n).flatMap f).length ≤ n * b := by
  induction n with
  | zero => simp
  | succ n ih =>
    rw [List.range_succ, List.flatMap_append, List.length_append, List.flatMap_cons, List.flatMap_nil, List.append_nil, Nat.succ_mul]
    have := h n
    omega
theorem moves_few {rs : List RD} {z : Str} (m8 : rs.length ≤ 8) (zl : z.length ≤ 1000) : (movesN rs z).length ≤ 8008 := by
  have h : (movesN rs z).length ≤ (z.length + 1) * rs.length := mvs_len
  have := Nat.mul_le_mul (show z.length + 1 ≤ 1001 by omega) m8
  omega
abbrev sMF : Stmt := top 23
abbrev nMF : List Str := ["rules", "row", "many", "place", "numbers", "index", "rule", "number"]
def spMF (CR : Addr) : Sp := fun vs H Q _ => ∃ (r : Addr) (ys : List V) (rs : List RD) (z : Str), vs = [.ref r, .str z] ∧ H r = some (.tup ys) ∧ RulesAt CR H ys rs ∧ (∀ d ∈ rs, 1 ≤ d.1.length) ∧ rs.length ≤ 8 ∧ z.length ≤ 1000 ∧ ∀ q H', Same H H' → H q = none → MvsAt H' q (movesN rs z) → Q (.ref q) H'
section
variable {P : Program} {w : World} {K : PySem.W.Frag} {mg : Str → Option Value} {base : Heap}
theorem scMF : FnScope nMF ["rules", "row"] (defScope sMF) := ⟨rfl, rfl, rfl, by decide +kernel, rfl, by decide +kernel, by decide +kernel⟩
theorem ok_movesFrom {CR f g : Addr} {fd gd : FuncData} (F : L2.Fun K "moves_from" "moves_from" sMF f fd) (T : Txt mg) (mE : mg "enumerate" = none) (mS : mg "sorted" = none) (M : RT K mg CR)
    (mf : Meth K CR "all_places" g) (G : FnOk P w K mg base CX0 2 g gd ["self", "row"] (spAllP CR)) (b : L2.Binds K gd ["self", "row"] []) :
    FnOk P w K mg base CX0 3 f fd ["rules", "row"] (spMF CR) := by
  refine F.ok scMF (fun vs H Q E h => ?_) (fun cdv A outer s H vs Q E hr h => ?_)
  · obtain ⟨r, ys, rs, z, rfl, _⟩ := h
    rfl
  · obtain ⟨r, ys, rs, z, rfl, hr_, ra, o1, m8, zl, k⟩ := h
    have nd := scMF.nd
    refine ⟨_, (pss_cons (ps_set (i := 2) nd rfl (.inr rfl) (bLen (by rfl) T.len (pv 0)))
      (pss_cons (ps_if (pt_cmpR op_eq (pv 2) pe_int (nomark _)) (pss_one (ps_ret (pe_lc (own := [("place", 3)]) (g := gName 3) (tt := tYes) (te := tTup (tCons (tVar 3) (tCons (tC (.int 0)) tNil))) rfl nd (pi_list (pe_meth (bIxT (pv 0) pe_int) M.cl mf G hr b .nil pass0 (pa_cons (pv 1) pa_nil))) (blkOk_by (own := [("place", 3)]) (N := nMF) (sc := defScope sMF) (by decide +kernel)) (fun _ _ _ _ _ => (pg_name (i := 3) nd rfl (Or.inl rfl))) (fun _ _ _ _ _ => pts_nil) (fun _ _ _ _ _ => (pe_tup (pa_cons (pv 3) (pa_cons pe_int pa_nil))))))) pss_nil)
      (pss_cons (ps_set (i := 4) nd rfl (.inl rfl) (pe_callB cr_sortedI (by rfl) mS (by decide +kernel) (pa_cons (pe_lc2 (own := [("index", 5), ("rule", 6), ("place", 3)]) (vs1 := [3]) (g := gTup K 2 (gCons (gName 5) (gCons (gName 6) gNil))) (g1 := gName 3) (tt := tYes) (tt1 := tYes) (wi1 := iList K (tMeth CR "all_places" (spAllP CR) [] E0 (tVar 6) (tCons (tVar 1) tNil))) rfl nd (pi_enumT (by rfl) mE (pa_cons (pv 0) pa_nil)) (blkOk_by (own := [("index", 5), ("rule", 6), ("place", 3)]) (N := nMF) (sc := defScope sMF) (by decide +kernel)) (by decide) (fun _ _ _ _ _ => (pg_tup rfl (pgs_cons (pg_name (i := 5) nd rfl (Or.inl rfl)) (pgs_cons (pg_name (i := 6) nd rfl (Or.inl rfl)) pgs_nil)))) (fun _ _ _ _ _ => pts_nil) (fun _ _ _ _ _ => (pi_list (pe_meth (pv 6) M.cl mf G hr b .nil pass0 (pa_cons (pv 1) pa_nil)))) (fun _ _ _ _ _ => (pg_name (i := 3) nd rfl (Or.inl rfl))) (fun _ _ _ _ _ => pts_nil) (fun _ _ _ _ _ => (bInt (by rfl) T.int (pe_op op_add (pe_op op_mul (pv 3) (pv 2)) (pv 5))))) pa_nil)))
      (pss_one (ps_ret (pe_lc (own := [("number", 7)]) (g := gName 7) (tt := tYes) rfl nd (pi_list (pv 4)) (blkOk_by (own := [("number", 7)]) (N := nMF) (sc := defScope sMF) (by decide +kernel)) (fun _ _ _ _ _ => (pg_name (i := 7) nd rfl (Or.inl rfl))) (fun _ _ _ _ _ => pts_nil) (fun _ _ _ _ _ => (pe_tup (pa_cons (pe_op op_fdiv (pv 7) (pv 2)) (pa_cons (pe_op op_mod (pv 7) (pv 2)) pa_nil)))))))))), ?_⟩
    have yl := ra.1
    refine ⟨_, rfl, _, ys.length, rfl, .inr ⟨_, SqT.of hr_, rfl⟩, _, rfl, rfl, _, rfl, ?_⟩
    by_cases one : rs.length = 1
    · rw [decide_eq_true (show V.int ((ys.length : Nat) : Int) = V.int 1 by rw [yl, one]; rfl)]
      obtain ⟨d, rfl⟩ := List.length_eq_one_iff.mp one
      obtain ⟨a, ea, ⟨dx, ha⟩, d4, n4⟩ := ra.2 0 d rfl
      refine iteT ⟨_, rfl, r, ys, 0, .ref a, rfl, rfl, SqT.of hr_, at_int (i := 0) ea, a, dx, _, rfl, ha, rf_no rfl rfl rfl rfl, _, rfl, a, d.1, d.2.1, d.2.2.1, d.2.2.2, z, rfl, ⟨dx, ha⟩, o1 d List.mem_cons_self, d4, zl, fun q H1 s1 nq hq => ?_⟩
      have few := fitsN_few d.1 z d.2.2.1 d.2.2.2
      refine ⟨q, rfl, ⟨_, SqL.of hq⟩, fun D hD => ?_⟩
      refine lcGen walk_list (fun i H' acc => Same H1 H' ∧ TwsAt H' acc ((movesN [d] z).take i)) (by rw [sizeLine_eq, List.length_map]; omega) ⟨Same.new hD, rfl, fun i it h => nomatch h⟩ (fun i H' acc _ q2 => SqL.of (q2.1 _ _ hq)) (fun _ _ _ _ y => y.1) ?_ ?_
      · rintro i x H' acc Q' hi hDl hla ⟨s2, tw⟩ ⟨_, hx⟩ k2
        rw [List.length_map] at hi
        have hm : (movesN [d] z)[i]? = some ((fitsN d.1 d.2.2.1 d.2.2.2 z)[i], 0) := by rw [moves_one, List.getElem?_map, List.getElem?_eq_getElem hi]; rfl
        obtain rfl : x = .int (((fitsN d.1 d.2.2.1 d.2.2.2 z)[i] : Nat) : Int) := by
          rw [List.getElem?_map, List.getElem?_eq_getElem hi] at hx
          exact (Option.some.inj hx).symm
        refine ⟨_, rfl, by show 2 ≤ sizeLine; decide, fun t ht => ?_⟩
        obtain ⟨e1, e2, e3⟩ := tw_step hD s2 tw hDl ht hm
        exact k2 _ _ e1 ⟨e2, e3⟩
      · rintro H2 acc hD2 hla ⟨s2, tw⟩
        rw [List.length_map] at tw
        rw [List.take_of_length_le (by rw [moves_one, List.length_map]; exact Nat.le_refl _)] at tw
        exact k D H2 (Same.trans s1 s2) (Same.gone s1 hD) ⟨acc, hD2, tw⟩
    · rw [decide_eq_false (show ¬ V.int ((ys.length : Nat) : Int) = V.int 1 from fun e => one (by have := V.int.inj e; omega))]
      refine iteF ⟨_, rfl, r, ys, rfl, SqT.of hr_, fun D hD => ?_⟩
      have s0 : Same H (upd H D (.lst [])) := Same.new hD
      have e0 : upd H D (.lst []) D = some (.lst (((List.range 0).flatMap (cdAt rs.length (z.length + 1) (fitI rs z))).map V.int)) := upd_same
      refine lc_any walk_enumT (fun i H' => Same H H' ∧ H' D = some (.lst (((List.range i).flatMap (cdAt rs.length (z.length + 1) (fitI rs z))).map V.int))) ⟨s0, e0⟩ (fun i H' _ q => SqT.of (q.1 _ _ hr_)) ?_ ?_
      · rintro i x H1 H2 hi ⟨s1, hD1⟩ ⟨Tt, vx, vy, rfl, hT, rfl, ex, ey⟩
        obtain rfl : V.int (i : Int) = vx := Option.some.inj ex
        have hi' : i < rs.length := by omega
        obtain ⟨d, hd⟩ : ∃ d, rs[i]? = some d := ⟨_, List.getElem?_eq_getElem hi'⟩
        obtain ⟨a, ea, ⟨dx, ha⟩, d4, n4⟩ := ra.2 i d hd
        obtain rfl : vy = .ref a := Option.some.inj (ey.symm.trans ea)
        have sT : Same H1 (upd H1 Tt (.tup [.int (i : Int), .ref a])) := Same.new hT
        have eT : upd H1 Tt (.tup [.int (i : Int), .ref a]) Tt = some (.tup [.int (i : Int), .ref a]) := upd_same
        generalize upd H1 Tt (.tup [.int (i : Int), .ref a]) = H2 at sT eT ⊢
        have s2 := Same.trans s1 sT
        have hD2 := sT _ _ hD1
        refine ⟨Tt, _, rfl, SqT.of eT, rfl, _, _, rfl, _, _, rfl, rfl, rfl, ?_⟩
        dsimp only [tYes]
        rw [if_pos rfl]
        refine ⟨_, rfl, a, dx, _, rfl, s2 _ _ ha, rf_no rfl rfl rfl rfl, _, rfl, a, d.1, d.2.1, d.2.2.1, d.2.2.2, z, rfl, ⟨dx, s2 _ _ ha⟩, o1 d (List.mem_of_getElem? hd), d4, zl, fun q H3 s3 nq hq => ?_⟩
        have few := fitsN_few d.1 z d.2.2.1 d.2.2.2
        have hD3 := s3 _ _ hD2
        have qD : q ≠ D := by rintro rfl; rw [nq] at hD2; cases hD2
        have cd := cdAt_rule (z := z) hd
        have cl : (cdAt rs.length (z.length + 1) (fitI rs z) i).length = (fitsN d.1 d.2.2.1 d.2.2.2 z).length := by rw [cd, List.length_map]
        have al : ((List.range i).flatMap (cdAt rs.length (z.length + 1) (fitI rs z))).length ≤ i * 1001 := by
          refine flat_few _ _ _ fun j => ?_
          unfold cdAt
          rw [List.length_map]
          have := List.length_filter_le (fun p => fitI rs z p j) (List.range (z.length + 1))
          rw [List.length_range] at this
          omega
        refine ⟨q, rfl, ⟨_, SqL.of hq⟩, ?_⟩
        refine lc_any walk_list (fun j H' => Same H H' ∧ H' q = some (.lst ((fitsN d.1 d.2.2.1 d.2.2.2 z).map fun (j : Nat) => V.int (j : Int))) ∧ H' D = some (.lst (((List.range i).flatMap (cdAt rs.length (z.length + 1) (fitI rs z)) ++ (cdAt rs.length (z.length + 1) (fitI rs z) i).take j).map V.int)))
          ⟨Same.trans s2 s3, hq, by rw [List.take_zero, List.append_nil]; exact hD3⟩ (fun j H' _ q2 => SqL.of q2.2.1) ?_ ?_
        · rintro j x H4 _ hj ⟨s4, hq4, hD4⟩ ⟨rfl, hx⟩
          rw [List.length_map] at hj
          obtain rfl : x = .int (((fitsN d.1 d.2.2.1 d.2.2.2 z)[j] : Nat) : Int) := by
            rw [List.getElem?_map, List.getElem?_eq_getElem hj] at hx
            exact (Option.some.inj hx).symm
          have cj : (cdAt rs.length (z.length + 1) (fitI rs z) i)[j]? = some ((((fitsN d.1 d.2.2.1 d.2.2.2 z)[j] * rs.length + i : Nat)) : Int) := by
            rw [cd, List.getElem?_map, List.getElem?_eq_getElem hj]; rfl
          refine ⟨rfl, ?_⟩
          dsimp only [tYes]
          rw [if_pos rfl]
          have pb : (fitsN d.1 d.2.2.1 d.2.2.2 z)[j] ≤ z.length := by
            have m := List.getElem_mem hj
            unfold fitsN at m
            have := List.mem_range.mp (List.mem_filter.mp m).1
            unfold fitsN
            omega
          refine ⟨_, rfl, _, rfl, _, _, rfl, rfl, .inl ⟨by omega, by omega⟩, _, rfl, _, _, rfl, rfl, .inl ⟨_, rfl, _, hD4, ?_, ?_⟩⟩
          · rw [List.length_map, List.length_append, List.length_take, sizeLine_eq]
            omega
          · refine ⟨Same.putNew hD s4, ?_, ?_⟩
            · rw [upd_ne qD]; exact hq4
            · have en : (((fitsN d.1 d.2.2.1 d.2.2.2 z)[j] : Nat) : Int) * (ys.length : Int) + (i : Int) = (((fitsN d.1 d.2.2.1 d.2.2.2 z)[j] * rs.length + i : Nat) : Int) := by rw [yl, Int.natCast_add, Int.natCast_mul]
              simp only [upd_same, en, List.take_add_one, cj, List.map_append, List.append_assoc, Option.toList_some, List.map_cons, List.map_nil]
        · rintro H4 ⟨s4, _, hD4⟩
          rw [List.length_map, ← cl, List.take_length] at hD4
          refine ⟨s4, ?_⟩
          rw [List.range_succ, List.flatMap_append, List.flatMap_cons, List.flatMap_nil, List.append_nil]
          exact hD4
      · rintro H1 ⟨s1, hD1⟩
        rw [yl] at hD1
        refine ⟨D, _, rfl, SqL.of hD1, fun ns p perm srt hp => ?_⟩
        obtain rfl := sorted_cds perm srt
        have sp : Same H1 (upd H1 p (.lst (((movesN rs z).map fun x => ((x.1 * rs.length + x.2 : Nat) : Int)).map V.int))) := Same.new hp
        have ep : upd H1 p (.lst (((movesN rs z).map fun x => ((x.1 * rs.length + x.2 : Nat) : Int)).map V.int)) p = some (.lst (((movesN rs z).map fun x => ((x.1 * rs.length + x.2 : Nat) : Int)).map V.int)) := upd_same
        show gName 4 (V.ref p) _ (upd H1 p (.lst (((movesN rs z).map fun x => ((x.1 * rs.length + x.2 : Nat) : Int)).map V.int))) _
        generalize upd H1 p (.lst (((movesN rs z).map fun x => ((x.1 * rs.length + x.2 : Nat) : Int)).map V.int)) = H2 at sp ep ⊢
        have s2 := Same.trans s1 sp
        have few := moves_few (rs := rs) m8 zl
        refine ⟨_, rfl, p, rfl, ⟨_, SqL.of ep⟩, fun D2 hD2 => ?_⟩
        refine lcGen walk_list (fun i H' acc => Same H2 H' ∧ TwsAt H' acc ((movesN rs z).take i)) (by rw [sizeLine_eq, List.length_map, List.length_map]; omega) ⟨Same.new hD2, rfl, fun i it h => nomatch h⟩ (fun i H' acc _ q2 => SqL.of (q2.1 _ _ ep)) (fun _ _ _ _ y => y.1) ?_ ?_
        · rintro i x H' acc Q' hi hDl hla ⟨s3, tw⟩ ⟨_, hx⟩ k2
          rw [List.length_map, List.length_map] at hi
          obtain ⟨m, hm⟩ : ∃ m, (movesN rs z)[i]? = some m := ⟨_, List.getElem?_eq_getElem hi⟩
          obtain rfl : x = .int ((m.1 * rs.length + m.2 : Nat) : Int) := by
            rw [List.getElem?_map, List.getElem?_map, hm] at hx
            exact (Option.some.inj hx).symm
          obtain ⟨_, lt, _⟩ := mem_mvs.mp (List.mem_of_getElem? hm)
          have e1 : (((m.1 * rs.length + m.2 : Nat) : Int) / (ys.length : Int)) = (m.1 : Int) := by
            rw [yl, ← Int.natCast_ediv]
            congr 1
            rw [Nat.mul_comm, Nat.mul_add_div (by omega), Nat.div_eq_of_lt lt, Nat.add_zero]
          have e2 : (((m.1 * rs.length + m.2 : Nat) : Int) % (ys.length : Int)) = (m.2 : Int) := by
            rw [yl, ← Int.natCast_emod]
            congr 1
            rw [Nat.mul_comm, Nat.mul_add_mod, Nat.mod_eq_of_lt lt]
          refine ⟨_, rfl, _, rfl, _, _, rfl, rfl, ⟨by omega, by omega⟩, _, rfl, _, rfl, _, _, rfl, rfl, by omega, by show 2 ≤ sizeLine; decide, fun t ht => ?_⟩
          show Q' (V.ref t) (upd H' t (HO.tup [V.int (((m.1 * rs.length + m.2 : Nat) : Int) / (ys.length : Int)), V.int (((m.1 * rs.length + m.2 : Nat) : Int) % (ys.length : Int))]))
          rw [e1, e2]
          obtain ⟨f1, f2, f3⟩ := tw_step hD2 s3 tw hDl ht hm
          exact k2 _ _ f1 ⟨f2, f3⟩
        · rintro H3 acc hD3 hla ⟨s3, tw⟩
          rw [List.length_map, List.length_map, List.take_length] at tw
          exact k D2 H3 (Same.trans s2 s3) (Same.gone s2 hD2) ⟨acc, hD3, tw⟩
end
end Kx
set_option Elab.async false
set_option maxRecDepth 100000
set_option autoImplicit false
set_option pp.maxSteps 400
set_option pp.deepTerms false
/-! rows_behind; Book(row), led_to of a row -/
namespace Kx
open PySem L2 PySem.Spec PyProof.Rows Rg Er Ru Tn
theorem range_map_getD {α : Type} (l : List α) (d : α) (f : α → V) : (List.range l.length).map (fun i => f (l.getD i d)) = l.map f := by
  refine List.ext_getElem (by simp) fun i h1 h2 => ?_
  have hi : i < l.length := by simpa using h2
  simp [List.getD_eq_getElem?_getD, List.getElem?_eq_getElem hi]
theorem getD_at {α : Type} {l : List α} {i : Nat} {d x : α} (h : l[i]? = some x) : l.getD i d = x := by rw [List.getD_eq_getElem?_getD, h]; rfl
/-- the row to which a move leads -/
def ledM (rs : List RD) (z : Str) (x : Nat × Nat) : Str := match rs[x.2]? with
  | some d => ledS d.1 d.2.1 z (x.1 : Int)
  | none => ""
theorem mem_moves {rs : List RD} {z : Str} {x : Nat × Nat} : x ∈ movesN rs z ↔ x.1 < z.length + 1 ∧ x.2 < rs.length ∧ fitI rs z x.1 x.2 = true := mem_mvs
abbrev sRB : Stmt := top 25
abbrev nRB : List Str := ["rules", "row", "move"]
def spRB (CR : Addr) : Sp := fun vs H Q _ => ∃ (r : Addr) (ys : List V) (rs : List RD) (z : Str), vs = [.ref r, .str z] ∧ H r = some (.tup ys) ∧ RulesAt CR H ys rs ∧ (∀ d ∈ rs, 1 ≤ d.1.length) ∧ rs.length ≤ 8 ∧ z.length ≤ 1000 ∧ ∀ q H', Same H H' → H q = none → H' q = some (.lst ((movesN rs z).map fun x => .str (ledM rs z x))) → Q (.ref q) H'
def spBCallR (C CW CR : Addr) : Sp := fun vs H Q _ => ∃ b es rs z, vs = [.ref b, .str z] ∧ Bk C CW CR H b es rs ∧ (∀ d ∈ rs, 1 ≤ d.1.length) ∧ rs.length ≤ 8 ∧ RowOf es z ∧ ∀ q H', Same H H' → H q = none → MvsAt H' q (movesN rs z) → Q (.ref q) H'
def spBLedTo (C CW CR : Addr) : Sp := fun vs H Q _ => ∃ b es rs z, vs = [.ref b, .str z] ∧ Bk C CW CR H b es rs ∧ (∀ d ∈ rs, 1 ≤ d.1.length) ∧ rs.length ≤ 8 ∧ RowOf es z ∧ ∀ q H', Same H H' → H q = none → H' q = some (.lst ((movesN rs z).map fun x => .str (ledM rs z x))) → Q (.ref q) H'
section
variable {P : Program} {w : World} {K : PySem.W.Frag} {mg : Str → Option Value} {base : Heap}
theorem scRB : FnScope nRB ["rules", "row"] (defScope sRB) := ⟨rfl, rfl, rfl, by decide +kernel, rfl, by decide +kernel, by decide +kernel⟩
theorem ok_rowsBehind {CR f f1 f2 : Addr} {fd fd1 fd2 : FuncData} (F : L2.Fun K "rows_behind" "rows_behind" sRB f fd)
    (G1 : FnOk P w K mg base CX0 3 f1 fd1 ["rules", "row"] (spMF CR)) (m1 : mg "moves_from" = some (.ref f1)) (k1 : PySem.W.keepIn K (.ref f1) = true) (b1 : L2.Binds K fd1 ["rules", "row"] [])
    (G2 : FnOk P w K mg base CX0 1 f2 fd2 ["rules", "row", "move"] (spRowOf CR)) (m2 : mg "row_of_move" = some (.ref f2)) (k2 : PySem.W.keepIn K (.ref f2) = true) (b2 : L2.Binds K fd2 ["rules", "row", "move"] []) :
    FnOk P w K mg base CX0 4 f fd ["rules", "row"] (spRB CR) := by
  refine F.ok scRB (fun vs H Q E h => ?_) (fun cdv A outer s H vs Q E hr h => ?_)
  · obtain ⟨r, ys, rs, z, rfl, _⟩ := h
    rfl
  · obtain ⟨r, ys, rs, z, rfl, hr_, ra, o1, m8, zl, k⟩ := h
    have nd := scRB.nd
    have hr1 := hr.mono (show 1 ≤ 3 by decide)
    refine ⟨_, (pss_one (ps_ret (pe_lc (own := [("move", 2)]) (g := gName 2) (tt := tYes) rfl nd (pi_list (pe_call G1 hr (by rfl) m1 k1 b1 .nil pass0 (pa_cons (pv 0) (pa_cons (pv 1) pa_nil)))) (blkOk_by (own := [("move", 2)]) (N := nRB) (sc := defScope sRB) (by decide +kernel)) (fun _ _ _ _ _ => (pg_name (i := 2) nd rfl (Or.inl rfl))) (fun _ _ _ _ _ => pts_nil) (fun _ _ _ _ _ => (pe_call G2 hr1 (by rfl) m2 k2 b2 .nil pass0 (pa_cons (pv 0) (pa_cons (pv 1) (pa_cons (pv 2) pa_nil)))))))), ?_⟩
    refine ⟨_, rfl, _, rfl, r, ys, rs, z, rfl, hr_, ra, o1, m8, zl, fun q H1 s1 nq mv => ?_⟩
    obtain ⟨xs, hq, tw⟩ := mv
    have few := moves_few (rs := rs) m8 zl
    have xl := tw.1
    refine ⟨q, rfl, ⟨_, SqL.of hq⟩, fun D hD => ?_⟩
    refine lcMap walk_list (fun i => .str (ledM rs z ((movesN rs z).getD i (0, 0)))) (by rw [sizeLine_eq]; omega) hD (fun H' s => SqL.of (s _ _ hq)) (fun _ _ _ _ y => y.1) ?_ ?_
    · rintro i x H' Q' hi s2 ⟨_, hx⟩ qq
      have hi' : i < (movesN rs z).length := by omega
      obtain ⟨m, hm⟩ : ∃ m, (movesN rs z)[i]? = some m := ⟨_, List.getElem?_eq_getElem hi'⟩
      obtain ⟨t, et, pt⟩ := (tw.same s2).2 i _ hm
      obtain rfl : x = .ref t := Option.some.inj (hx.symm.trans et)
      obtain ⟨_, lt, _⟩ := mem_moves.mp (List.mem_of_getElem? hm)
      obtain ⟨d, hd⟩ : ∃ d, rs[m.2]? = some d := ⟨_, List.getElem?_eq_getElem lt⟩
      have s12 := Same.trans s1 s2
      refine ⟨_, rfl, _, rfl, _, rfl, r, t, ys, rs, z, m.1, m.2, d, rfl, s12 _ _ hr_, ra.same s12, pt, hd, zl, ?_⟩
      have := qq _ (Same.refl H')
      rw [getD_at hm, show ledM rs z m = ledS d.1 d.2.1 z (m.1 : Int) by unfold ledM; rw [hd]] at this
      exact this
    · intro H2 s2 hD2
      rw [xl, range_map_getD (movesN rs z) (0, 0) fun x => V.str (ledM rs z x)] at hD2
      exact k D H2 (Same.trans s1 s2) (Same.gone s1 hD) hD2
theorem ok_bCallR {C CW CR f f1 f2 ps_ gs : Addr} {fd fd1 fd2 fds : FuncData} (F : L2.Fun K "__call__" "Book.__call__" sBCall f fd) (M : BT K C) (MW : WT K CW)
    (G1 : FnOk P w K mg base CX0 2 f1 fd1 ["signs", "value"] spWrong) (m1 : mg "check_row" = some (.ref f1)) (k1 : PySem.W.keepIn K (.ref f1) = true) (b1 : L2.Binds K fd1 ["signs", "value"] [])
    (G2 : FnOk P w K mg base CX0 3 f2 fd2 ["rules", "row"] (spMF CR)) (m2 : mg "moves_from" = some (.ref f2)) (k2 : PySem.W.keepIn K (.ref f2) = true) (b2 : L2.Binds K fd2 ["rules", "row"] [])
    (po : PropOf K CW "signs" ps_ gs) (GS : FnOk P w K mg base CX0 1 gs fds ["self"] (getSp CW "_signs")) (bS : L2.Binds K fds ["self"] []) : FnOk P w K mg base CX0 4 f fd ["self", "row"] (spBCallR C CW CR) := by
  refine F.ok scBCall (fun vs H Q E h => ?_) (fun cdv A outer s H vs Q E hr h => ?_)
  · obtain ⟨b, es, rs, z, rfl, _⟩ := h
    rfl
  · obtain ⟨b, es, rs, z, rfl, ⟨dx, q, r, xs, ys, hb, ⟨dw, pw, hq, _⟩, hr_, ra⟩, o1, m8, ⟨wd, zl⟩, k⟩ := h
    have hr2 := hr.mono (show 2 ≤ 3 by decide)
    refine ⟨_, pss_cons (ps_expr (pe_call G1 hr2 (by rfl) m1 k1 b1 .nil pass0 (pa_cons (pe_prop (pe_fld (pv 0) rfl) MW.cl po GS hr2 bS .nil pass0 rfl) (pa_cons (pv 1) pa_nil))))
      (pss_one (ps_ret (pe_call G2 hr (by rfl) m2 k2 b2 .nil pass0 (pa_cons (pe_fld (pv 0) rfl) (pa_cons (pv 1) pa_nil))))), ?_⟩
    refine ⟨_, rfl, b, C, dx, _, _, rfl, hb, M.cl, M.n1, bf_weights _ _, q, dw, _, rfl, hq, q, dw, _, _, rfl, hq, wf_signs _ _, _, rfl, letters es, z, rfl, wd, zl, ?_⟩
    exact ⟨_, rfl, b, C, dx, _, _, rfl, hb, M.cl, M.n2, bf_rules _ _, _, rfl, r, ys, rs, z, rfl, hr_, ra, o1, m8, zl, k⟩
theorem ok_bLedTo {C CW CR f f1 f2 ps_ gs : Addr} {fd fd1 fd2 fds : FuncData} (F : L2.Fun K "led_to" "Book.led_to" sBLedTo f fd) (M : BT K C) (MW : WT K CW)
    (G1 : FnOk P w K mg base CX0 2 f1 fd1 ["signs", "value"] spWrong) (m1 : mg "check_row" = some (.ref f1)) (k1 : PySem.W.keepIn K (.ref f1) = true) (b1 : L2.Binds K fd1 ["signs", "value"] [])
    (G2 : FnOk P w K mg base CX0 4 f2 fd2 ["rules", "row"] (spRB CR)) (m2 : mg "rows_behind" = some (.ref f2)) (k2 : PySem.W.keepIn K (.ref f2) = true) (b2 : L2.Binds K fd2 ["rules", "row"] [])
    (po : PropOf K CW "signs" ps_ gs) (GS : FnOk P w K mg base CX0 1 gs fds ["self"] (getSp CW "_signs")) (bS : L2.Binds K fds ["self"] []) : FnOk P w K mg base CX0 5 f fd ["self", "row"] (spBLedTo C CW CR) := by
  refine F.ok scBLedTo (fun vs H Q E h => ?_) (fun cdv A outer s H vs Q E hr h => ?_)
  · obtain ⟨b, es, rs, z, rfl, _⟩ := h
    rfl
  · obtain ⟨b, es, rs, z, rfl, ⟨dx, q, r, xs, ys, hb, ⟨dw, pw, hq, _⟩, hr_, ra⟩, o1, m8, ⟨wd, zl⟩, k⟩ := h
    have hr2 := hr.mono (show 2 ≤ 4 by decide)
    refine ⟨_, pss_cons (ps_expr (pe_call G1 hr2 (by rfl) m1 k1 b1 .nil pass0 (pa_cons (pe_prop (pe_fld (pv 0) rfl) MW.cl po GS hr2 bS .nil pass0 rfl) (pa_cons (pv 1) pa_nil))))
      (pss_one (ps_ret (pe_call G2 hr (by rfl) m2 k2 b2 .nil pass0 (pa_cons (pe_fld (pv 0) rfl) (pa_cons (pv 1) pa_nil))))), ?_⟩
    refine ⟨_, rfl, b, C, dx, _, _, rfl, hb, M.cl, M.n1, bf_weights _ _, q, dw, _, rfl, hq, q, dw, _, _, rfl, hq, wf_signs _ _, _, rfl, letters es, z, rfl, wd, zl, ?_⟩
    exact ⟨_, rfl, b, C, dx, _, _, rfl, hb, M.cl, M.n2, bf_rules _ _, _, rfl, r, ys, rs, z, rfl, hr_, ra, o1, m8, zl, k⟩
end
end Kx
set_option Elab.async false
set_option maxRecDepth 100000
set_option autoImplicit false
/-! try: .. except G as n: y = e except G' as n: y = e' -/
namespace Er
open PySem L2 PySem.Spec PyProof.Rows PySem.Calls
/-- what two such rows wish of an error of the body -/
def wVal2 (K : PySem.W.Frag) (c c2 : Value) (i j m : Nat) (te te2 : Addr → Value → Option Addr → TE) (Wout : WX) (D : Ends) : WX := fun cls d σ H =>
  ∃ b, PySem.W.exmOne K cls c = some b ∧ (b = true → σ.length = m → ∀ a, H a = none → te a cls d (σ.set i (some (.ref a))) H (fun v H' => D.nx (((σ.set i (some (.ref a))).set j (some v)).set i none) H')) ∧
    (b = false → ∃ b2, PySem.W.exmOne K cls c2 = some b2 ∧ (b2 = true → σ.length = m → ∀ a, H a = none → te2 a cls d (σ.set i (some (.ref a))) H (fun v H' => D.nx (((σ.set i (some (.ref a))).set j (some v)).set i none) H')) ∧ (b2 = false → Wout cls d σ H))
section
variable {X : Cx} {x x2 n y : Str} {c c2 : Value} {i j : Nat} {body : List Stmt} {e₀ e₂ : Expr} {te te2 : Addr → Value → Option Addr → TE} {np yp sp np2 yp2 sp2 pos pos' pos2 : Pos} {tb : WX → TS} {Wout : WX}
theorem ps_try_val2 (hs : X.stack = X.env :: X.outer) (hf : X.env.frame = some X.env.locals) (hex : X.ex = []) (hN : X.N.Nodup) (hi : X.N[i]? = some n) (hj : X.N[j]? = some y) (hln : X.env.kindOf n = some .local) (hly : X.env.kindOf y = some .local) (hc : Names X x c) (hc2 : Names X x2 c2) (tk : Takes X Wout)
    (hsw : swapsWith e₀ (some (.Name y yp)) sp.line X.env = pure false) (hsw2 : swapsWith e₂ (some (.Name y yp2)) sp2.line X.env = pure false)
    (he : ∀ (a : Addr) (oe : Obj) (cls : Value) (d : Option Addr) (pn : List (Addr × Obj)), Zc cls d oe → (∃ vs, oe.data = .fields vs) → PE (X.suite a ((a, oe) :: pn)) e₀ (te a cls d))
    (he2 : ∀ (a : Addr) (oe : Obj) (cls : Value) (d : Option Addr) (pn : List (Addr × Obj)), Zc cls d oe → (∃ vs, oe.data = .fields vs) → PE (X.suite a ((a, oe) :: pn)) e₂ (te2 a cls d))
    (hb : ∀ (W : WX) (pn : List (Addr × Obj)) (xe : Value → Shared → Prop), Takes (X.tr pn xe) W → PassesOwn (model X.prog X.w) X.A X.env xe → PSs (X.tr pn xe) body (tb W)) :
    PS X (.Try body [.ExceptHandler (some (.Name x np)) (some n) [.Assign [.Name y yp] e₀ sp] pos', .ExceptHandler (some (.Name x2 np2)) (some n) [.Assign [.Name y yp2] e₂ sp2] pos2] [] [] pos) (fun D σ H => tb (wVal2 X.K c c2 i j X.N.length te te2 Wout D) D σ H) := by
  constructor
  intro pins s σ H D I h
  have fine := I.ok
  have frames : X.A.frames = some (X.env :: X.outer) := fine.frames.trans (congrArg some hs)
  have run := (hb (wVal2 X.K c c2 i j X.N.length te te2 Wout D) (X.pn ++ pins) (fun e s₁ => wpAny (model X.prog X.w) X.A (noteFrame e X.env) (fun _ s₂ => wpAny (model X.prog X.w) X.A (setFlight e none) (fun _ s₃ =>
    wpAny (model X.prog X.w) X.A (handleBy e X.env [.ExceptHandler (some (.Name x np)) (some n) [.Assign [.Name y yp] e₀ sp] pos', .ExceptHandler (some (.Name x2 np2)) (some n) [.Assign [.Name y yp2] e₂ sp2] pos2]) (SP X pins D) X.xe s₃) X.xe s₂) X.xe s₁) ?hit PassesOwn.looking).run [] s σ H D (I.toTry _) h
  case hit =>
    rintro u s' ⟨a, B, sI, pins1, σ1, H1, cls, d, rfl, J0, ground, up0, sky0, na, os, ag, b, test, yes, no⟩
    have J : Inv X pins σ1 H1 sI := J0.ofTry fine
    have sky : Sky B (X.env :: X.outer) a (Zc cls d) X.env.locals s'.heap := hs ▸ sky0
    show wpAny (model X.prog X.w) X.A (noteFrame (.ref a) X.env) _ _ _
    refine Sky.land Zc.steady frames hf sky fun g3 fly3 up3 => ?_
    have J3 : Inv X pins σ1 H1 { s' with heap := g3 } := J.landed ground fly3.1 (up0.trans up3) os ag
    obtain ⟨o3, v3, e3, z3, d3⟩ := fly3.there
    have away : a ∉ frs (X.env :: X.outer) := fun mem => by
      obtain ⟨_, o, e, no_⟩ := fly3.2.2.1.mem mem
      rw [e3] at e; cases e
      exact no_ _ d3
    have awayL : a ≠ X.env.locals := fun z => away (List.mem_filterMap.mpr ⟨X.env, List.mem_cons_self, hf.trans (congrArg some z.symm)⟩)
    have awayF : a ∉ X.fs := fun mem => by
      obtain ⟨e, m1, m2⟩ := List.mem_filterMap.mp mem
      exact away (List.mem_filterMap.mpr ⟨e, List.mem_cons_of_mem _ m1, m2⟩)
    -- the error is younger than the entry
    have young : sI.heap.get? a = none := by
      cases q : sI.heap.get? a with
      | none => rfl
      | some o =>
        have qB := ground a o q (by rw [hs]; exact away)
        rw [fly3.2.1] at qB; cases qB
    have entry : X.s_0.heap.get? a = none := by
      cases q : X.s_0.heap.get? a with
      | none => rfl
      | some o =>
        obtain ⟨o', q'⟩ := J.base.there a o q (by rw [hex]; exact List.not_mem_nil)
        rw [young] at q'; cases q'
    have apart : ∀ p ∈ X.pn ++ pins, p.1 ≠ a := fun p hp z => by
      have q := (J.pin p hp).1
      rw [z, young] at q; cases q
    have S3 := J3.suite e3 d3 na awayL awayF
    refine wpAny_handleBy_cons (codeAny_handlers_test ?_) (by intro q; cases q)
    have LT : PySem.W.Looks (model X.prog X.w) g3 (typeOf (.ref a)) cls := fun _ _ _ _ k q => wpAny_typeOf_ref (k _ _ e3) (by rw [z3.1]; exact q)
    have LM := PySem.W.exm_one (M := model X.prog X.w) J3.kIn LT test
    have named : ∀ {Q : Value → Shared → Prop} {E : Value → Shared → Prop}, Q c { s' with heap := g3 } → wpAny (model X.prog X.w) (X.A.mark (some (.ref a))) (eval (.Name x np) X.env) Q E { s' with heap := g3 } := fun {Q E} q => by
      rcases hc with ⟨hg, hdbg, hm | ⟨hm, hv, hnn⟩⟩
      · exact ld_glob (X := X.suite a ((a, o3) :: (X.pn ++ pins))) S3 hg hm q hdbg
      · exact ld_blt (X := X.suite a ((a, o3) :: (X.pn ++ pins))) S3 hg hm hv q hnn hdbg
    refine named (LM.here ?_)
    cases b with
    | true =>
      refine codeAny_handlers_suite_as (HandSPX.lands_againZ fly3 fun g4 fly4 up4 => ?_)
      have J4 : Inv X pins σ1 H1 { s' with heap := g4 } := J.landed ground fly4.1 ((up0.trans up3).trans up4) os ag
      obtain ⟨o4, v4, e4, z4, d4⟩ := fly4.there
      have S4 := J4.suite e4 d4 na awayL awayF
      refine store_ok (X := X.suite a ((a, o4) :: (X.pn ++ pins))) (v := .ref a) S4 hN hi (.inl hln) rfl (fun s5 S5 => ?_) (.inr hln)
      have one := pss_one (X := X.suite a ((a, o4) :: (X.pn ++ pins))) (ps_set (pos := sp) (pos' := yp) (i := j) hN hj (.inl hly) (he a o4 cls d (X.pn ++ pins) z4 ⟨v4, d4⟩) hsw (.inr hly))
      refine wpAny_mono (one.run [] s5 _ H1 { nx := fun σ' H' => D.nx (σ'.set i none) H', rt := fun _ _ => False } S5 (yes rfl S4.len a na)) (fun fl s6 got => ?_) (fun _ _ z => False.elim z)
      cases fl with
      | next =>
        obtain ⟨_, _, S6, q6⟩ := got
        exact gone_ok (S6.unsuite fine) hN hi hln fun s7 J7 => ⟨_, _, J7, q6⟩
      | ret u => obtain ⟨_, _, _, _, _, z⟩ := got; exact z.elim
      | brk => obtain ⟨_, _, _, z⟩ := got; exact z.elim
      | cont => obtain ⟨_, _, _, z⟩ := got; exact z.elim
    | false =>
      obtain ⟨b2, test2, yes2, no2⟩ := no rfl
      refine wpAny_handleBy_cons (codeAny_handlers_test ?_) (by intro q; cases q)
      have LM2 := PySem.W.exm_one (M := model X.prog X.w) J3.kIn LT test2
      have named2 : ∀ {Q : Value → Shared → Prop} {E : Value → Shared → Prop}, Q c2 { s' with heap := g3 } → wpAny (model X.prog X.w) (X.A.mark (some (.ref a))) (eval (.Name x2 np2) X.env) Q E { s' with heap := g3 } := fun {Q E} q => by
        rcases hc2 with ⟨hg, hdbg, hm | ⟨hm, hv, hnn⟩⟩
        · exact ld_glob (X := X.suite a ((a, o3) :: (X.pn ++ pins))) S3 hg hm q hdbg
        · exact ld_blt (X := X.suite a ((a, o3) :: (X.pn ++ pins))) S3 hg hm hv q hnn hdbg
      refine named2 (LM2.here ?_)
      cases b2 with
      | true =>
        refine codeAny_handlers_suite_as (HandSPX.lands_againZ fly3 fun g4 fly4 up4 => ?_)
        have J4 : Inv X pins σ1 H1 { s' with heap := g4 } := J.landed ground fly4.1 ((up0.trans up3).trans up4) os ag
        obtain ⟨o4, v4, e4, z4, d4⟩ := fly4.there
        have S4 := J4.suite e4 d4 na awayL awayF
        refine store_ok (X := X.suite a ((a, o4) :: (X.pn ++ pins))) (v := .ref a) S4 hN hi (.inl hln) rfl (fun s5 S5 => ?_) (.inr hln)
        have one := pss_one (X := X.suite a ((a, o4) :: (X.pn ++ pins))) (ps_set (pos := sp2) (pos' := yp2) (i := j) hN hj (.inl hly) (he2 a o4 cls d (X.pn ++ pins) z4 ⟨v4, d4⟩) hsw2 (.inr hly))
        refine wpAny_mono (one.run [] s5 _ H1 { nx := fun σ' H' => D.nx (σ'.set i none) H', rt := fun _ _ => False } S5 (yes2 rfl S4.len a na)) (fun fl s6 got => ?_) (fun _ _ z => False.elim z)
        cases fl with
        | next =>
          obtain ⟨_, _, S6, q6⟩ := got
          exact gone_ok (S6.unsuite fine) hN hi hln fun s7 J7 => ⟨_, _, J7, q6⟩
        | ret u => obtain ⟨_, _, _, _, _, z⟩ := got; exact z.elim
        | brk => obtain ⟨_, _, _, z⟩ := got; exact z.elim
        | cont => obtain ⟨_, _, _, z⟩ := got; exact z.elim
      | false =>
        show wpAny (model X.prog X.w) X.A (handleBy (.ref a) X.env []) _ _ _
        refine wpAny_handleBy_nil ?_
        obtain ⟨_, _, _, oe, vs, T, oT, us, q1, q2, q3, q4, q5⟩ := id fly3
        unfold PySem.passOn
        refine wpAny_bind (wpAny_field q1 q3 q4 ?_)
        rw [if_neg (by simp)]
        have out : wpAny (model X.prog X.w) X.A (setFlight (.ref a) X.env.frame) (fun _ s4 => wpAny (model X.prog X.w) X.A (throw (.ref a) : Sem Flow) (SP X pins D) X.xe s4) X.xe { s' with heap := g3 } := by
          rw [hf]
          exact HandSPX.setFlight_upZ fly3 fun g4 held up4 => wpAny_throw (tk _ _ ⟨a, B, sI, pins, σ1, H1, cls, d, rfl, J, ground, (up0.trans up3).trans up4, .inr (.inr (by rw [hs]; exact held)), na, os, ag, no2 rfl⟩)
        first
          | exact wpAny_bind (wpAny_pure (wpAny_bind out))
          | exact wpAny_bind out
  refine wpAny_Try_except (wpAny_mono run (fun f s1 got => ?_) fun e s1 he => he)
  cases f with
  | next => obtain ⟨σ', H', J', q⟩ := got; exact wpAny_execs_nil ⟨σ', H', J'.ofTry fine, q⟩
  | brk => obtain ⟨σ', H', J', q⟩ := got; exact ⟨σ', H', J'.ofTry fine, q⟩
  | cont => obtain ⟨σ', H', J', q⟩ := got; exact ⟨σ', H', J'.ofTry fine, q⟩
  | ret u => obtain ⟨v, σ', H', J', r, q⟩ := got; exact ⟨v, σ', H', J'.ofTry fine, r, q⟩
end
end Er
set_option Elab.async false
set_option maxRecDepth 100000
set_option autoImplicit false
/-! a def whose code object is known; what stays while lambdas are made -/
namespace Kx
open PySem L2 PySem.Spec PyProof.Rows Rg Er Ru LamX
/-- all but the pen and the tables of code stays -/
def Ext2 (p : Addr) (H H' : Hp) : Prop := ∀ b o, b ≠ p → (∀ ps, o ≠ .tbl ps) → H b = some o → H' b = some o
theorem Ext2.refl (p : Addr) (H : Hp) : Ext2 p H H := fun _ _ _ _ q => q
theorem Ext2.of {p : Addr} {H H' : Hp} (e : Ext1 p H H') : Ext2 p H H' := fun b o n _ q => e b o n q
theorem Ext2.trans {p : Addr} {H H1 H2 : Hp} (a : Ext2 p H H1) (b : Ext2 p H1 H2) : Ext2 p H H2 := fun c o n t e => b c o n t (a c o n t e)
theorem Ext2.ofN {p : Addr} {H H' : Hp} (e : ExtN H H') : Ext2 p H H' := fun b o _ t q => e b o q t
/-- as Rg.funG, where the def's code object is known -/
theorem fnG_of {P : Program} {w : World} {K : PySem.W.Frag} {mg : Str → Option Value} {base : Heap} {x qual : Str} {st : Stmt} {f cd : Addr} {oc kV doc pm ct : Value} {od an : Option Addr} {osl : Array (Option Value)} {N ps : List Str} {k : Nat} {sp : Sp}
    (lk : K.lookup f = some ⟨oc, od, .func (PySem.W.fnOf x qual (defArgs st) (defBody st) (defScope st) .none kV doc pm an (.ref cd) ct), osl⟩) (hcd : PySem.W.codeIn K (.ref cd) qual = true) (S : FnScope N ps (defScope st)) (len : ∀ vs H Q E, sp vs H Q E → vs.length = ps.length)
    (body : ∀ (A : Around) (outer : List Env) (s : Shared) (H : Hp) (vs : List V) (Q : VK) (E : XK), A.guards = some [] → Room k (A.deeper (envOfC qual (defScope st) s.heap.objs.size f (.ref cd))) → sp vs H Q E →
      ∃ t, PSs (cxOf CX0 P w K mg base N qual (defScope st) f (.ref cd) A outer s H E).nox (defBody st) t ∧ t { nx := fun _ H' => Q .non H', rt := Q } (L2.start N vs) H) :
    FnG P w K mg base CX0 (k + 1) f (PySem.W.fnOf x qual (defArgs st) (defBody st) (defScope st) .none kV doc pm an (.ref cd) ct) ps sp := by
  refine ⟨len, fun A outer s H args us vs Q E hg hr e0 hb r want => ?_⟩
  have there : ∀ b o, base.get? b = some o → s.heap.get? b = some o := fun b o e => (e0.bs b o e).1
  have KX := e0.mod.kin.keeps there
  have kinds : ∀ y ∈ ps.zip us, (defScope st).names.lookup y.1 = some .local ∨ ((defScope st).names.lookup y.1 = some .cell ∧ ((cellsFrom (s.heap.objs.size + 1) (defScope st).names []).lookup y.1).isSome = true) := by
    rintro ⟨n, v⟩ hy
    rcases S.par n (List.of_mem_zip hy).1 with q | q
    · exact Or.inl q
    · exact Or.inr ⟨q, PySem.W.cellsFrom_some _ _ _ (Or.inl q)⟩
  refine codeAny_call_function hr.depth (KX _ _ lk) rfl S.co S.gen rfl (PySem.W.codeRec_of KX hcd) (hb _ _ _ _ (wpAny_newFunctionEnv_cells S.kind kinds ?_))
  intro env he s1 x
  subst he
  obtain ⟨t, ht, q⟩ := body A outer s H vs Q E hg (hr.deeper _) want
  have I : Inv (cxOf CX0 P w K mg base N qual (defScope st) f (.ref cd) A outer s H E) [] (L2.start N vs) H s1 := inv_start S hr.hd e0 (len _ _ _ _ want) r x
  refine ⟨(e0.mod.nolimit.keeps there).keeps x.toInCall.keep, codeAny_func (wpAny_mono (ht.nox.run [] s1 (L2.start N vs) H _ I q) ?_ fun _ _ z => z)⟩
  intro fl s2 out
  cases fl with
  | ret u => obtain ⟨v, _, H2, J, rv, q2⟩ := out; exact ⟨v, H2, J.os, J.bare, J.base, J.hok, rv, q2⟩
  | next => obtain ⟨_, H2, J, q2⟩ := out; exact ⟨V.non, H2, J.os, J.bare, J.base, J.hok, rfl, q2⟩
  | brk => obtain ⟨_, _, _, q2⟩ := out; exact q2.elim
  | cont => obtain ⟨_, _, _, q2⟩ := out; exact q2.elim
theorem PenAt.extN {c p : Addr} {n : Nat} {H H' : Hp} (h : PenAt c n H p) (e : ExtN H H') : PenAt c n H' p := by
  obtain ⟨ns, a, g, h1, h2, h3⟩ := h
  exact ⟨ns, a, g, e _ _ h1 (fun _ z => nomatch z), e _ _ h2 (fun _ z => nomatch z), h3⟩
/-- the tables stay where all but the pen does -/
theorem tabs_ink {T : List (Addr × Str)} {c p : Addr} {n m : Nat} {H H' : Hp} (h : Tabs T H) (pen : PenAt c n H p) (i : Ink c p m H H') : Tabs T H' := fun t ht => by
  obtain ⟨ps, h1, h2, h3⟩ := h t ht
  obtain ⟨ns, a, g, q1, _⟩ := pen
  have ne : ∀ {b : Addr} {o : HO}, H b = some o → (∀ xs, o ≠ .lst xs) → b ≠ p := fun {b o} e1 k => by
    rintro rfl
    rw [q1] at e1
    exact k _ (Option.some.inj e1).symm
  refine ⟨ps, i.1 _ _ (ne h1 (fun _ z => nomatch z)) h1, h2, fun pos cv e => ?_⟩
  obtain ⟨d, e1, e2⟩ := h3 pos cv e
  exact ⟨d, e1, i.1 _ _ (ne e2 (fun _ z => by unfold CodeO at z; cases z)) e2⟩
theorem tabs_put {T : List (Addr × Str)} {G : Hp} {a : Addr} {xs : List V} {o : HO} (h : Tabs T G) (e : G a = some (.lst xs)) : Tabs T (upd G a o) := fun t ht => by
  obtain ⟨ps, h1, h2, h3⟩ := h t ht
  have ne : ∀ {b : Addr} {u : HO}, G b = some u → (∀ xs, u ≠ .lst xs) → b ≠ a := fun {b u} e1 k => by
    rintro rfl
    rw [e] at e1
    exact k _ (Option.some.inj e1).symm
  refine ⟨ps, by rw [upd_ne (ne h1 (fun _ z => nomatch z))]; exact h1, h2, fun pos cv q => ?_⟩
  obtain ⟨d, e1, e2⟩ := h3 pos cv q
  exact ⟨d, e1, by rw [upd_ne (ne e2 (fun _ z => by unfold CodeO at z; cases z))]; exact e2⟩
/-- the heap grew: the pen at p has moved, tables of code are filled, all else stands -/
structure Gr (T : List (Addr × Str)) (c p : Addr) (n : Nat) (H H' : Hp) : Prop where
  ext : Ext2 p H H'
  pen : PenAt c n H' p
  tabs : Tabs T H'
section
variable {T : List (Addr × Str)} {c p : Addr} {n m : Nat} {H H1 H2 : Hp}
theorem Gr.start (h : PenAt c n H p) (t : Tabs T H) : Gr T c p n H H := ⟨Ext2.refl p H, h, t⟩
theorem Gr.same (g : Gr T c p n H H1) (s : Same H1 H2) : Gr T c p n H H2 := ⟨g.ext.trans (Ext2.of (Same.ext1 p s)), g.pen.ext s, g.tabs.ext s⟩
theorem Gr.ink (g : Gr T c p n H H1) (i : Ink c p m H1 H2) : Gr T c p m H H2 := ⟨g.ext.trans (Ext2.of i.1), i.2, tabs_ink g.tabs g.pen i⟩
theorem Gr.extN (g : Gr T c p n H H1) (e : ExtN H1 H2) (t : Tabs T H2) : Gr T c p n H H2 := ⟨g.ext.trans (Ext2.ofN e), g.pen.extN e, t⟩
theorem Gr.trans (g : Gr T c p n H H1) (k : Gr T c p m H1 H2) : Gr T c p m H H2 := ⟨g.ext.trans k.ext, k.pen, k.tabs⟩
theorem Gr.mono (g : Gr T c p n H H1) (l : n ≤ m) : Gr T c p m H H1 := ⟨g.ext, g.pen.mono l, g.tabs⟩
theorem Gr.at_ (g : Gr T c p n H H1) {b : Addr} {o : HO} (e : H b = some o) (ne : b ≠ p) (nt : ∀ ps, o ≠ .tbl ps := by intro _ z; cases z) : H1 b = some o := g.ext b o ne nt e
/-- a list that is new since H may change -/
theorem Gr.putNew (g : Gr T c p n H H1) {q : Addr} {xs : List V} {o : HO} (new : H q = none) (e : H1 q = some (.lst xs)) (ne : q ≠ p) (nc : q ≠ c) : Gr T c p n H (upd H1 q o) :=
  ⟨fun b u n t z => by rw [upd_ne (ne_of_none z new)]; exact g.ext b u n t z, by
    obtain ⟨ns, a, k, h1, h2, h3⟩ := g.pen
    exact ⟨ns, a, k, by rw [upd_ne ne.symm]; exact h1, by rw [upd_ne nc.symm]; exact h2, h3⟩, tabs_put g.tabs e⟩
theorem PenAt.neO {b : Addr} {o : HO} (h : PenAt c n H p) (e : H b = some o) (k : ∀ xs, o ≠ .lst xs) : b ≠ p := by
  rintro rfl
  obtain ⟨ns, a, g, h1, _⟩ := h
  rw [h1] at e
  exact k _ (Option.some.inj e).symm
theorem PairAt.gr (g : Gr T c p m H H1) (pen : PenAt c n H p) {t : Addr} {d : Nat} {i : Int} (h : PairAt H t d i) : PairAt H1 t d i := ⟨g.at_ h.1 (pen.neO h.1 fun _ z => nomatch z), h.2⟩
theorem PairsD.gr (g : Gr T c p m H H1) (pen : PenAt c n H p) {xs : List V} {es : List (Nat × Int)} (h : PairsD H xs es) : PairsD H1 xs es := h.mono fun _ _ _ q => q.gr g pen
theorem Wts.gr (g : Gr T c p m H H1) (pen : PenAt c n H p) {C a : Addr} {es : List (Nat × Int)} {xs : List V} (h : Wts C H a es xs) : Wts C H1 a es xs := by
  obtain ⟨dx, q, h1, h2, h3⟩ := h
  exact ⟨dx, q, g.at_ h1 (pen.neO h1 fun _ z => nomatch z), g.at_ h2 (pen.neO h2 fun _ z => nomatch z), h3.gr g pen⟩
end
end Kx

set_option Elab.async false
set_option maxRecDepth 100000
set_option autoImplicit false
set_option pp.maxSteps 400
set_option pp.deepTerms false
/-! good books; _law_book, _law_fits, _law_led -/
namespace Kx
open PySem L2 PySem.Spec PyProof.Rows Rg Er Ru Tn LamX ClX
theorem app_chars (x y : Str) : (x ++ y).cps.toList = x.cps.toList ++ y.cps.toList := by rw [Str.cps_append, Array.toList_append]
theorem badFrom_none : ∀ (es : List (Nat × Int)) (i : Nat) (seen : List Nat), (es.map (·.1)).Nodup → (∀ c ∈ es.map (·.1), c ∉ seen) → badFrom i seen (es.map some) = none
  | [], _, _, _, _ => rfl
  | (c, n) :: r, i, seen, nd, no => by
    rw [List.map_cons] at nd no
    rw [List.nodup_cons] at nd
    show (if c ∈ seen then some i else badFrom (i + 1) (seen ++ [c]) (r.map some)) = none
    rw [if_neg (no c List.mem_cons_self)]
    refine badFrom_none r (i + 1) (seen ++ [c]) nd.2 fun d hd hs => ?_
    rcases List.mem_append.mp hs with h | h
    · exact no d (List.mem_cons_of_mem _ hd) h
    · rw [List.mem_singleton.mp h] at hd
      exact nd.1 hd
theorem ents_of {K : PySem.W.Frag} {H : Hp} {xs : List V} {es : List (Nat × Int)} (h : PairsD H xs es) : Ents K H xs (es.map some) := ⟨by rw [h.1]; simp, fun i o ho => by
  rw [List.getElem?_map] at ho
  obtain ⟨e, he, rfl⟩ := Option.map_eq_some_iff.mp ho
  obtain ⟨t, h1, h2⟩ := h.2 i e he
  exact ⟨_, h1, .inl ⟨t, e.1, e.2, rfl, h2, rfl⟩⟩⟩
theorem some_inj {es fs : List (Nat × Int)} (h : es.map some = fs.map some) : fs = es := by
  have := congrArg (List.map fun o => o.getD (0, 0)) h
  simpa [Function.comp_def] using this.symm
theorem of_good {K : PySem.W.Frag} {C CB l : Addr} {H : Hp} {xs : List V} {es : List (Nat × Int)} {Q : VK} {E : XK} (hl : Sq H l xs) (h : PairsD H xs es) (l1 : 1 ≤ es.length) (l4 : es.length ≤ 4) (nd : (es.map (·.1)).Nodup)
    (k : ∀ a H', Same H H' → Wts C H' a es xs → Q (.ref a) H') : spWOfA K C CB [.ref C, .ref l] H Q E := by
  have al := h.1
  refine ⟨l, xs, es.map some, rfl, hl, ents_of h, by omega, fun n => absurd ⟨by omega, by omega⟩ n, fun _ => ?_⟩
  rw [badFrom_none es 0 [] nd fun _ _ h => by cases h]
  exact fun es' H' a e s w => k a H' s (by rw [some_inj e] at w; exact w)
theorem firstBad_none : ∀ (ds : List RD) (es : List (Nat × Int)) (i : Nat) (seen : List RD), (∀ d ∈ ds, inCs es d = true) → ds.Nodup → (∀ d ∈ ds, d ∉ seen) → firstBad es i seen (ds.map some) = none
  | [], _, _, _, _, _, _ => rfl
  | d :: r, es, i, seen, h1, h2, h3 => by
    show (if _ then _ else _) = _
    have nd := List.nodup_cons.mp h2
    rw [if_neg, firstBad_none r es (i + 1) (seen ++ [d]) (fun e he => h1 e (List.mem_cons_of_mem _ he)) nd.2 fun e he hs => ?_]
    · rcases List.mem_append.mp hs with h | h
      · exact h3 e (List.mem_cons_of_mem _ he) h
      · rw [List.mem_singleton.mp h] at he
        exact nd.1 he
    · rintro (z | z)
      · rw [h1 d List.mem_cons_self] at z; cases z
      · exact h3 d List.mem_cons_self z
theorem firstHeavy_none : ∀ (ds : List RD) (es : List (Nat × Int)) (i : Nat), (∀ d ∈ ds, wtR es d.2.1 < wtR es d.1) → firstHeavy es i ds = none
  | [], _, _, _ => rfl
  | d :: r, es, i, h => by
    show (if _ then _ else _) = _
    rw [if_neg (by have := h d List.mem_cons_self; omega)]
    exact firstHeavy_none r es (i + 1) fun e he => h e (List.mem_cons_of_mem _ he)
theorem GoodR.inCs {es : List (Nat × Int)} {d : RD} (h : GoodR es d) : inCs es d = true := by
  unfold Kx.inCs
  rw [List.all_eq_true, app_chars]
  intro c hc
  rcases List.mem_append.mp hc with hc | hc
  · exact decide_eq_true (h.1 c hc)
  · exact decide_eq_true (h.2.1 c hc)
/-- a book of good rules -/
theorem bof_good {K : PySem.W.Frag} {C CW CR CB CH q M : Addr} {H : Hp} {ms ws : List V} {es : List (Nat × Int)} {ds : List RD} {Q : VK} {E : XK} (hM : Sq H M ms) (hr : RulesAt CR H ms ds) (hw : Wts CW H q es ws) (l4 : es.length ≤ 4) (d8 : ds.length ≤ 8)
    (g1 : firstBad es 0 [] (ds.map some) = none) (g2 : firstHeavy es 0 ds = none) (k : ∀ H' b, Same H H' → Bk C CW CR H' b es ds → Q (.ref b) H') : spBOf K C CW CR CB CH [.ref C, .ref q, .ref M] H Q E := by
  have ml := hr.1
  refine ⟨M, .ref q, ms, rfl, hM, by omega, .inr ⟨q, ws, es, ds.map some, rfl, hw, l4, hr.ents, fun z => absurd z (by omega), fun _ => ?_⟩⟩
  rw [g1]
  dsimp only
  intro rs er
  have : rs = ds := by
    have := congrArg (List.filterMap id) er
    rw [List.filterMap_map, List.filterMap_map] at this
    simpa using this.symm
  subst this
  rw [g2]
  exact k
theorem RlD.put {C l a : Addr} {H : Hp} {d : RD} {xs ys : List V} (h : RlD C H a d) (hl : H l = some (.lst xs)) : RlD C (upd H l (.lst ys)) a d := by
  obtain ⟨⟨dx, h1⟩, h2⟩ := h
  refine ⟨⟨dx, ?_⟩, h2⟩
  rw [upd_ne]
  · exact h1
  · rintro rfl; rw [h1] at hl; cases hl
theorem RulesAt.put {C l : Addr} {H : Hp} {zs xs ys : List V} {rs : List RD} (h : RulesAt C H zs rs) (hl : H l = some (.lst xs)) : RulesAt C (upd H l (.lst ys)) zs rs := ⟨h.1, fun i d q => let ⟨a, x, y⟩ := h.2 i d q; ⟨a, x, y.put hl⟩⟩
theorem RulesAt.nil (C : Addr) (H : Hp) : RulesAt C H [] [] := ⟨rfl, fun _ _ h => nomatch h⟩
theorem RulesAt.snoc {C a : Addr} {H : Hp} {xs : List V} {rs : List RD} {d : RD} (h : RulesAt C H xs rs) (q : RlD C H a d) : RulesAt C H (xs ++ [.ref a]) (rs ++ [d]) := by
  refine ⟨by simp [h.1], fun i e he => ?_⟩
  have hl := h.1
  by_cases lt : i < rs.length
  · rw [List.getElem?_append_left lt] at he
    rw [List.getElem?_append_left (by omega)]
    exact h.2 i e he
  · rw [List.getElem?_append_right (by omega)] at he
    obtain ⟨i0, ei⟩ := List.getElem?_eq_some_iff.mp he
    have i0' : i - rs.length = 0 := by simp at i0; omega
    rw [List.getElem?_append_right (by omega), show i - xs.length = 0 by omega]
    rw [i0'] at he
    cases he
    exact ⟨a, rfl, q⟩
def mis (o z : Str) (i k : Nat) : Bool := !decide (z.cps.toList[i + k]? = o.cps.toList[k]?)
theorem mis_none (o z : Str) (i : Nat) (le : i + o.length ≤ z.length) : ((List.range o.length).filter (mis o z i)).isEmpty = atB o z i := by
  refine Bool.eq_iff_iff.mpr ?_
  rw [List.isEmpty_iff, atB_iff, at_iff, List.filter_eq_nil_iff]
  constructor
  · intro h
    refine ⟨le, fun k hk => ?_⟩
    have := h k (List.mem_range.mpr hk)
    simpa [mis] using this
  · intro h k hk
    have := h.2 k (List.mem_range.mp hk)
    simp [mis, this]
theorem ItsAt.same {H H' : Hp} {xs : List V} {is : List Itm} (h : ItsAt H xs is) (s : Same H H') : ItsAt H' xs is := h.mono fun _ _ q => q.same s
abbrev sLBook : Stmt := top 50
abbrev sLFits : Stmt := top 51
abbrev sLLed : Stmt := top 53
def spLBook (C CW CR : Addr) : Sp := fun vs H Q _ => ∃ (L F : Addr) (es : List (Nat × Int)) (ds : List RD), vs = [.ref L, .ref F] ∧ PairsOf H L es ∧ ItsOf H F (ds.map .rule) ∧ (∀ d ∈ ds, GoodR es d) ∧ ds.Nodup ∧ ds.length ≤ 8 ∧ ∀ H' b, Same H H' → Bk C CW CR H' b es ds → Q (.ref b) H'
def spLFits : Sp := fun vs H Q _ => ∃ (t : Addr) (d : RD) (z : Str) (p : Nat), vs = [.ref t, .str z, .int (p : Int)] ∧ RuleAt H t d ∧ 1 ≤ d.1.length ∧ d.1.length ≤ 4 ∧ z.length ≤ 1000 ∧ ∀ H', Same H H' → Q (.bl (fN d.1 d.2.2.1 d.2.2.2 z p)) H'
def spLLed : Sp := fun vs H Q _ => ∃ (F t : Addr) (ds : List RD) (z : Str) (p i : Nat) (d : RD), vs = [.ref F, .str z, .ref t] ∧ ItsOf H F (ds.map .rule) ∧ MoveAt H t p i ∧ ds[i]? = some d ∧ d.1.length ≤ 4 ∧ d.2.1.length ≤ 4 ∧ z.length ≤ 1000 ∧ ∀ H', Same H H' → Q (.str (ledM ds z (p, i))) H'
section
variable {P : Program} {w : World} {K : PySem.W.Frag} {mg : Str → Option Value} {base : Heap}
abbrev nLBook : List Str := ["_law_pairs_here", "_law_rules_here", "_law_rule_here"]
theorem scLBook : FnScope nLBook ["_law_pairs_here", "_law_rules_here"] (defScope sLBook) := ⟨rfl, rfl, rfl, by decide +kernel, rfl, by decide +kernel, by decide +kernel⟩
theorem ok_lBook {C CW CR CB CH CS f pB gBo pW gWo : Addr} {fd : FuncData} {f1 : Addr} {fd1 : FuncData} (F : L2.Fun K "_law_book" "_law_book" sLBook f fd) (gB : mg "Book" = some (.ref C)) (gW : mg "Weights" = some (.ref CW))
    (rdB : CRead K C (.type "type")) (oB : CMet K C (.type "type") "of" pB gBo) (oBF : FnR P w K mg base (L2.CX P w) 6 gBo (spBOf K C CW CR CB CH)) (rdW : CRead K CW (.type "type")) (oW : CMet K CW (.type "type") "of" pW gWo) (oWF : FnR P w K mg base (L2.CX P w) 6 gWo (spWOfA K CW CS))
    (G1 : FnOk P w K mg base CX0 5 f1 fd1 ["_law_rule_here"] (spMade CR)) (m1 : mg "_law_made" = some (.ref f1)) (k1 : PySem.W.keepIn K (.ref f1) = true) (b1 : L2.Binds K fd1 ["_law_rule_here"] []) :
    FnOk P w K mg base CX0 7 f fd ["_law_pairs_here", "_law_rules_here"] (spLBook C CW CR) := by
  refine F.ok scLBook (fun vs H Q E h => ?_) (fun cdv A outer s H vs Q E hr h => ?_)
  · obtain ⟨L, F, es, ds, rfl, _⟩ := h
    rfl
  · obtain ⟨L, F, es, ds, rfl, po, its, good, ndd, d8, k⟩ := h
    have nd := scLBook.nd
    have hr5 := hr.mono (show 5 ≤ 6 by decide)
    have abcs := po.abc
    have fb0 : firstBad es 0 [] (ds.map some) = none := firstBad_none ds es 0 [] (fun d hd => (good d hd).inCs) ndd (fun _ _ h => nomatch h)
    have fh0 : firstHeavy es 0 ds = none := firstHeavy_none ds es 0 fun d hd => (good d hd).2.2.2.2.2
    obtain ⟨ps, hL, pd, l1, l4, nde⟩ := po
    obtain ⟨xs, hF, at_⟩ := its
    have xl := at_.1
    rw [List.length_map] at xl
    refine ⟨_, (pss_one (ps_ret (pe_cmeth (pe_glob (v := .ref C) (by rfl) gB rfl) rdB oB oBF hr passesF (pa_cons (pe_cmeth (pe_glob (v := .ref CW) (by rfl) gW rfl) rdW oW oWF hr passesF (pa_cons (pv 0) pa_nil)) (pa_cons (pe_lc (own := [("_law_rule_here", 2)]) (g := gName 2) (tt := tYes) rfl nd (pi_list (pv 1)) (blkOk_by (own := [("_law_rule_here", 2)]) (N := nLBook) (sc := defScope sLBook) (by decide +kernel)) (fun _ _ _ _ _ => (pg_name (i := 2) nd rfl (Or.inl rfl))) (fun _ _ _ _ _ => pts_nil) (fun _ _ _ _ _ => (pe_call G1 hr5 (by rfl) m1 k1 b1 .nil pass0 (pa_cons (pv 2) pa_nil)))) pa_nil))))), ?_⟩
    refine ⟨rfl, rfl, _, rfl, ?_⟩
    dsimp only [tNil]
    refine of_good (.inl hL) pd l1 l4 nde fun q H2 s2 w2 => ?_
    refine ⟨_, rfl, F, rfl, ⟨_, SqL.of (s2 _ _ hF)⟩, fun Mm hM => ?_⟩
    refine lcGen walk_list (fun i H' acc => Same H2 H' ∧ RulesAt CR H' acc (ds.take i)) (by rw [sizeLine_eq]; omega) ⟨Same.new hM, RulesAt.nil CR _⟩ (fun i H' acc _ q => SqL.of (q.1 _ _ (s2 _ _ hF))) (fun _ _ _ _ y => y.1) ?_ ?_
    · rintro i x H' acc Q' hi hMl hla ⟨s1, ra⟩ ⟨_, hx⟩ q
      have hi' : i < ds.length := by omega
      obtain ⟨d, hd⟩ : ∃ d, ds[i]? = some d := ⟨_, List.getElem?_eq_getElem hi'⟩
      have hit : (ds.map Itm.rule)[i]? = some (.rule d) := by rw [List.getElem?_map, hd]; rfl
      obtain ⟨v, hv, av⟩ := ((at_.same s2).same s1).2 i _ hit
      obtain rfl : x = v := Option.some.inj (hx.symm.trans hv)
      refine ⟨_, rfl, x, d, rfl, av, (good d (List.mem_of_getElem? hd)).ok abcs, fun H4 a s4 rd => ?_⟩
      have hM4 := s4 _ _ hMl
      refine q _ H4 hM4 ⟨Same.putNew hM (Same.trans s1 s4), ?_⟩
      rw [List.take_add_one, hd]
      exact ((ra.same s4).put hM4).snoc (rd.put hM4)
    rintro H3 ms hM3 hml ⟨s3, rM⟩
    rw [List.take_of_length_le (by omega)] at rM
    dsimp only [tNil]
    exact bof_good (.inl hM3) rM (w2.same s3) l4 d8 fb0 fh0 fun H4 b s4 bk => k _ _ (Same.trans s2 (Same.trans s3 s4)) bk
abbrev nLFits : List Str := ["_law_rule_here", "_law_there", "_law_place", "_law_old", "_law_new", "_law_at_left", "_law_at_right", "_law_end", "_law_wrong", "_law_k"]
theorem scLFits : FnScope nLFits ["_law_rule_here", "_law_there", "_law_place"] (defScope sLFits) := ⟨rfl, rfl, rfl, by decide +kernel, rfl, by decide +kernel, by decide +kernel⟩
theorem ok_lFits {f : Addr} {fd : FuncData} (F : L2.Fun K "_law_fits" "_law_fits" sLFits f fd) (T : Txt mg) : FnOk P w K mg base CX0 1 f fd ["_law_rule_here", "_law_there", "_law_place"] spLFits := by
  refine F.ok scLFits (fun vs H Q E h => ?_) (fun cdv A outer s H vs Q E hr h => ?_)
  · obtain ⟨t, d, z, p, rfl, _⟩ := h
    rfl
  · obtain ⟨t, ⟨o, n, l, r⟩, z, j, rfl, ht, o1, o4, z1, k⟩ := h
    have nd := scLFits.nd
    replace ht : H t = some (.tup [.str o, .str n, .bl l, .bl r]) := ht
    dsimp only at o1 o4 k
    refine ⟨_, (pss_cons (ps_asg (pv 0) (pg_tup rfl (pgs_cons (pg_name (i := 3) nd rfl (Or.inr rfl)) (pgs_cons (pg_name (i := 4) nd rfl (Or.inl rfl)) (pgs_cons (pg_name (i := 5) nd rfl (Or.inl rfl)) (pgs_cons (pg_name (i := 6) nd rfl (Or.inl rfl)) pgs_nil))))))
      (pss_cons (ps_set (i := 7) nd rfl (.inl rfl) (pe_op op_add (pv 2) (bLen (by rfl) T.len (pv 3))))
      (pss_cons (ps_if (pt_cmpR op_gt (pv 7) (bLen (by rfl) T.len (pv 1)) (nomark _)) (pss_one (ps_ret pe_bl)) pss_nil)
      (pss_cons (ps_setLc (i := 8) (own := [("_law_k", 9)]) (g := gName 9) (tt := tTest (tOp rNe (tOp rIxS (tVar 1) (tOp (rI0 fun i j => .int (i + j)) (tVar 2) (tVar 9))) (tOp rIxS (tVar 3) (tVar 9)))) (te := tVar 9) rfl nd rfl rfl (sw_true rfl rfl rfl (by decide +kernel)) (pi_range1 (by rfl) T.range (pa_cons (bLen (by rfl) T.len (pv 3)) pa_nil)) (blkOk_by (own := [("_law_k", 9)]) (N := nLFits) (sc := defScope sLFits) (by decide +kernel)) (fun _ _ _ _ _ => (pg_name (i := 9) nd rfl (Or.inl rfl))) (fun _ _ _ _ _ => pts_one (pt_cmpR op_ne (bIxS (pv 1) (pe_op op_add (pv 2) (pv 9))) (bIxS (pv 3) (pv 9)) (nomark _))) (fun _ _ _ _ _ => (pv 9)))
      (pss_cons (ps_if (PW.pt (pw_or (pt_cmpR (op_neD hr.units) (pv 8) (pe_lst pa_nil) (nomark _)) (pw_or1 (PW.pt (pw_and (pt_val (pv 5)) (pw_and1 (pt_cmpR op_gt (pv 2) pe_int (nomark _)))))))) (pss_one (ps_ret pe_bl)) pss_nil)
      (pss_one (ps_ret (pe_or (pe_cmpR op_eq (pv 7) (bLen (by rfl) T.len (pv 1)) (nomark _)) (pe_one (pe_not (pv 6))))))))))), ?_⟩
    refine ⟨_, rfl, t, _, rfl, SqT.of ht, rfl, _, _, rfl, _, _, rfl, _, _, rfl, _, _, rfl, rfl, ?_⟩
    refine ⟨_, rfl, _, rfl, _, o.length, rfl, ⟨len_small (by omega), rfl⟩, _, _, rfl, rfl, ?_⟩
    refine ⟨_, rfl, _, rfl, _, z.length, rfl, ⟨len_small (by omega), rfl⟩, _, _, rfl, rfl, _, rfl, ?_⟩
    by_cases hz : z.length < j + o.length
    · have k' : Q (.bl false) H := by
        have k := k H (Same.refl H)
        unfold fN at k
        rw [fit_no (fun q => by have := q.1; omega)] at k
        exact k
      rw [decide_eq_true (show ((z.length : Int) < (j : Int) + (o.length : Int)) by omega)]
      exact iteT k'
    · rw [decide_eq_false (show ¬ ((z.length : Int) < (j : Int) + (o.length : Int)) by omega)]
      refine iteF ?_
      have le : j + o.length ≤ z.length := by omega
      have zl : z.cps.toList.length = z.length := by simp [Str.length]
      have ol : o.cps.toList.length = o.length := by simp [Str.length]
      refine ⟨_, rfl, _, o.length, rfl, ⟨len_small (by omega), rfl⟩, o.length, rfl, by omega, by omega, fun D hD => ?_⟩
      refine lcSel walk_range (fun i' H' acc => Same H H' ∧ acc = ((List.range i').filter (mis o z j)).map fun (k : Nat) => V.int (0 + (k : Int))) (by rw [sizeLine_eq]; omega) ⟨Same.new hD, rfl⟩ (fun _ _ _ _ _ => trivial) (fun _ _ _ _ y => y.1) ?_ ?_
      · rintro i' x H' acc Q' Qf hi hDl hl ⟨s1, rfl⟩ yy q qf
        obtain ⟨_, ex⟩ := yy
        subst ex
        have hi2 : i' < o.length := by simpa using hi
        obtain ⟨c1, hc1⟩ : ∃ c1, z.cps.toList[j + i']? = some c1 := ⟨_, List.getElem?_eq_getElem (by omega)⟩
        obtain ⟨c2, hc2⟩ : ∃ c2, o.cps.toList[i']? = some c2 := ⟨_, List.getElem?_eq_getElem (by omega)⟩
        refine ⟨_, rfl, _, rfl, _, rfl, _, _, rfl, rfl, z, _, c1, rfl, rfl, len_small (by omega), atI_int (by omega) (by rw [show ((j : Int) + (0 + (i' : Int))).toNat = j + i' from by omega]; exact hc1), ?_⟩
        refine ⟨_, rfl, _, rfl, o, _, c2, rfl, rfl, len_small (by omega), atI_int (by omega) (by rw [show (0 + (i' : Int)).toNat = i' from by omega]; exact hc2), rfl, _, rfl, ?_⟩
        have em : mis o z j i' = !decide (V.str ⟨#[c1]⟩ = V.str ⟨#[c2]⟩) := by
          unfold mis
          rw [hc1, hc2]
          congr 1
          refine decide_eq_decide.mpr ⟨fun q => by cases q; rfl, fun q => ?_⟩
          cases q
          rfl
        rw [← em]
        cases e : mis o z j i' with
        | true =>
          refine iteT ⟨_, rfl, q _ _ hDl ⟨Same.putNew hD s1, ?_⟩⟩
          rw [filt_succ, if_pos e, List.map_append]
          rfl
        | false =>
          refine iteF (qf _ hDl ⟨s1, ?_⟩)
          rw [filt_succ, if_neg (by rw [e]; simp), List.append_nil]
      · rintro H1 acc hDl hl ⟨s1, rfl⟩
        refine ⟨_, rfl, Nat.zero_le _, fun q hq => ?_⟩
        have s2 : Same H1 (upd H1 q (.lst [])) := Same.new hq
        have s3 : Same H (upd H1 q (.lst [])) := Same.trans s1 s2
        have dl := s2 _ _ hDl
        have ef : upd H1 q (.lst []) q = some (.lst []) := upd_same
        generalize upd H1 q (.lst []) = H2 at s3 dl ef ⊢
        have em : ∀ (L : List Nat), (L.map fun (k : Nat) => V.int (0 + (k : Int))) = (L.map fun (k : Nat) => (0 + (k : Int))).map V.int := fun L => by rw [List.map_map]; rfl
        have tn : ((o.length : Int)).toNat = o.length := by omega
        rw [em, tn] at dl
        have ee : PyData.eqv (.list ((((List.range o.length).filter (mis o z j)).map fun (k : Nat) => (0 + (k : Int))).map PyData.int)) (.list []) = atB o z j := by rw [eqv_nil, List.isEmpty_map, mis_none o z j le]
        refine ⟨_, .list [], .lst (SqL.of dl) (dpInts _ _ _), .lst (SqL.of ef) .nil, shapedInts _, rfl, _, rfl, ?_⟩
        rw [ee]
        have kk := k H2 s3
        rw [fN_eq] at kk
        cases hat : atB o z j with
        | false =>
          rw [hat] at kk
          exact iteT (iteT (show Q (.bl false) H2 by simpa using kk))
        | true =>
          rw [hat, Bool.true_and] at kk
          refine iteF ?_
          cases l with
          | false =>
            refine ⟨_, rfl, false, rfl, iteF ?_⟩
            refine iteF ⟨_, rfl, _, rfl, _, z.length, rfl, ⟨len_small (by omega), rfl⟩, rfl, _, rfl, ?_⟩
            rw [dInt, show decide ((j : Int) + (o.length : Int) = (z.length : Int)) = decide (j + o.length = z.length) from decide_eq_decide.mpr (by omega)]
            cases q1 : decide (j + o.length = z.length) with
            | true =>
              rw [q1] at kk
              exact iteT (by simpa using kk)
            | false =>
              rw [q1] at kk
              exact iteF ⟨_, rfl, r, rfl, by simpa using kk⟩
          | true =>
            refine ⟨_, rfl, true, rfl, iteT ⟨_, rfl, _, _, rfl, rfl, _, rfl, ?_⟩⟩
            by_cases j0 : j = 0
            · rw [decide_eq_true j0] at kk
              rw [decide_eq_false (show ¬ ((0 : Int) < (j : Int)) by omega)]
              refine iteF ⟨_, rfl, _, rfl, _, z.length, rfl, ⟨len_small (by omega), rfl⟩, rfl, _, rfl, ?_⟩
              rw [dInt, show decide ((j : Int) + (o.length : Int) = (z.length : Int)) = decide (j + o.length = z.length) from decide_eq_decide.mpr (by omega)]
              cases q1 : decide (j + o.length = z.length) with
              | true =>
                rw [q1] at kk
                exact iteT (by simpa using kk)
              | false =>
                rw [q1] at kk
                exact iteF ⟨_, rfl, r, rfl, by simpa using kk⟩
            · rw [decide_eq_true (show ((0 : Int) < (j : Int)) by omega)]
              rw [decide_eq_false j0] at kk
              exact iteT (show Q (.bl false) H2 by simpa using kk)
abbrev nLLed : List Str := ["_law_rules_here", "_law_there", "_law_deed", "_law_place", "_law_k", "_law_old", "_law_new"]
theorem scLLed : FnScope nLLed ["_law_rules_here", "_law_there", "_law_deed"] (defScope sLLed) := ⟨rfl, rfl, rfl, by decide +kernel, rfl, by decide +kernel, by decide +kernel⟩
theorem ok_lLed {f : Addr} {fd : FuncData} (F : L2.Fun K "_law_led" "_law_led" sLLed f fd) (T : Txt mg) : FnOk P w K mg base CX0 1 f fd ["_law_rules_here", "_law_there", "_law_deed"] spLLed := by
  refine F.ok scLLed (fun vs H Q E h => ?_) (fun cdv A outer s H vs Q E hr h => ?_)
  · obtain ⟨F, t, ds, z, p, i, d, rfl, _⟩ := h
    rfl
  · obtain ⟨F, t, ds, z, p, i, d, rfl, ⟨xs, hF, at_⟩, mv, hd, d4, n4, zl, k⟩ := h
    have nd := scLLed.nd
    obtain ⟨v, hv, t0, rfl, ht0⟩ := at_.2 i (.rule d) (by rw [List.getElem?_map, hd]; rfl)
    refine ⟨_, (pss_cons (ps_asg (pv 2) (pg_tup rfl (pgs_cons (pg_name (i := 3) nd rfl (Or.inl rfl)) (pgs_cons (pg_name (i := 4) nd rfl (Or.inl rfl)) pgs_nil))))
      (pss_cons (ps_asg (pe_slice sl_tup (bIx (pv 0) (pv 4)) po_none (po_some pe_int)) (pg_tup rfl (pgs_cons (pg_name (i := 5) nd rfl (Or.inl rfl)) (pgs_cons (pg_name (i := 6) nd rfl (Or.inl rfl)) pgs_nil))))
      (pss_one (ps_ret (pe_op op_add_str (pe_op op_add_str (pe_slice sl_str (pv 1) po_none (po_some (pv 3))) (pv 6)) (pe_slice sl_str (pv 1) (po_some (pe_op op_add (pv 3) (bLen (by rfl) T.len (pv 5)))) po_none)))))), ?_⟩
    refine ⟨_, rfl, t, _, rfl, SqT.of mv, rfl, _, _, rfl, _, _, rfl, rfl, ?_⟩
    refine ⟨_, rfl, _, rfl, F, xs, (i : Int), .ref t0, rfl, rfl, SqL.of hF, at_int hv, (2 : Int), rfl, t0, _, rfl, SqT.of ht0, fun h => absurd h.2 (show ¬ HT.sIx 4 4 (some 2) = 4 by decide), fun q hq => ?_⟩
    have sq : Same H (upd H q (.tup [.str d.1, .str d.2.1])) := Same.new hq
    have eq_ : upd H q (.tup [.str d.1, .str d.2.1]) q = some (.tup [.str d.1, .str d.2.1]) := upd_same
    show gTup _ _ _ _ _ (upd H q (.tup [.str d.1, .str d.2.1])) _
    generalize upd H q (.tup [.str d.1, .str d.2.1]) = H2 at sq eq_ ⊢
    have k' := k H2 sq
    rw [show ledM ds z (p, i) = ledS d.1 d.2.1 z (p : Int) by unfold ledM; dsimp only; rw [hd]] at k'
    have h1 := cutS_length z none (some (p : Int))
    have h2 := cutS_length z (some ((p : Int) + (d.1.length : Int))) none
    refine ⟨q, _, rfl, SqT.of eq_, rfl, _, _, rfl, _, _, rfl, rfl, ?_⟩
    refine ⟨_, rfl, _, rfl, _, rfl, z, rfl, len_small zl, _, rfl, _, _, rfl, rfl, by rw [sizeLine_eq]; omega, ?_⟩
    refine ⟨_, rfl, _, rfl, _, rfl, _, d.1.length, rfl, ⟨len_small (by omega), rfl⟩, (p : Int), _, rfl, rfl, _, rfl, z, rfl, len_small zl, _, _, rfl, rfl, ?_, k'⟩
    rw [app_len', sizeLine_eq]; omega
end
end Kx
set_option Elab.async false
set_option maxRecDepth 100000
set_option autoImplicit false
set_option pp.maxSteps 400
set_option pp.deepTerms false
/-! _law_moves, _law_row -/
namespace Kx
open PySem L2 PySem.Spec PyProof.Rows Rg Er Ru Tn LamX ClX
abbrev sLMoves : Stmt := top 52
abbrev sLRow : Stmt := top 54
theorem tw_push {H1 H' : Hp} {D t : Addr} {acc : List V} {ms : List (Nat × Nat)} {x : Nat × Nat} (hD : H1 D = none) (s : Same H1 H') (tw : TwsAt H' acc ms) (hDl : H' D = some (.lst acc)) (ht : H' t = none) :
    upd H' t (.tup [.int (x.1 : Int), .int (x.2 : Int)]) D = some (.lst acc) ∧ Same H1 (upd (upd H' t (.tup [.int (x.1 : Int), .int (x.2 : Int)])) D (.lst (acc ++ [.ref t]))) ∧ TwsAt (upd (upd H' t (.tup [.int (x.1 : Int), .int (x.2 : Int)])) D (.lst (acc ++ [.ref t]))) (acc ++ [.ref t]) (ms ++ [x]) := by
  have s2 : Same H' (upd H' t (.tup [.int (x.1 : Int), .int (x.2 : Int)])) := Same.new ht
  have hD4 := s2 _ _ hDl
  exact ⟨hD4, Same.putNew hD (Same.trans s s2), ((tw.same s2).put hD4).snoc (MoveAt.put upd_same hD4)⟩
theorem TwsAt.app {H : Hp} {xs ys : List V} {ms ns : List (Nat × Nat)} (h : TwsAt H xs ms) (q : TwsAt H ys ns) : TwsAt H (xs ++ ys) (ms ++ ns) := by
  refine ⟨by simp [h.1, q.1], fun i e he => ?_⟩
  have hl := h.1
  by_cases lt : i < ms.length
  · rw [List.getElem?_append_left lt] at he
    rw [List.getElem?_append_left (by omega)]
    exact h.2 i e he
  · rw [List.getElem?_append_right (by omega)] at he
    rw [List.getElem?_append_right (by omega), hl]
    exact q.2 _ e he
theorem mvAt_few (m : Nat) (f : Nat → Nat → Bool) (p : Nat) : (mvAt m f p).length ≤ m := by
  unfold mvAt
  rw [List.length_map]
  have := List.length_filter_le (f p) (List.range m)
  rw [List.length_range] at this
  exact this
theorem mvAt_last {ds : List RD} {z : Str} (h : ∀ d ∈ ds, 1 ≤ d.1.length) : mvAt ds.length (fitI ds z) z.length = [] := by
  unfold mvAt
  rw [List.map_eq_nil_iff, List.filter_eq_nil_iff]
  intro i hi
  have hi := List.mem_range.mp hi
  unfold fitI
  rw [List.getElem?_eq_getElem hi]
  dsimp only
  unfold fN
  rw [fit_no fun q => ?_]
  · exact Bool.false_ne_true
  · have := q.1
    have := h _ (List.getElem_mem hi)
    omega
theorem movesN_eq {ds : List RD} {z : Str} (h : ∀ d ∈ ds, 1 ≤ d.1.length) : (List.range z.length).flatMap (mvAt ds.length (fitI ds z)) = movesN ds z := by
  unfold movesN mvs
  rw [List.range_succ, List.flatMap_append, List.flatMap_cons, List.flatMap_nil, mvAt_last h, List.append_nil, List.append_nil]
theorem cut_sub {z : Str} {a b : Option Int} {c : Nat} (h : c ∈ (cutS z a b).cps.toList) : c ∈ z.cps.toList := by
  unfold cutS at h
  rw [List.toList_toArray] at h
  exact List.mem_of_mem_drop (List.mem_of_mem_take h)
theorem cut9 (z : Str) : (cutS z none (some 9)).length ≤ 9 := by
  show (cutS z none (some 9)).cps.size ≤ 9
  unfold cutS
  rw [List.size_toArray, List.length_take, show HT.sIx z.length z.length (some 9) = min 9 z.length from HT.sIx_nat _ _ 9, show HT.sIx z.length 0 none = 0 from rfl]
  omega
def spLMoves : Sp := fun vs H Q _ => ∃ (F : Addr) (ds : List RD) (z : Str), vs = [.ref F, .str z] ∧ ItsOf H F (ds.map .rule) ∧ (∀ d ∈ ds, 1 ≤ d.1.length ∧ d.1.length ≤ 4) ∧ ds.length ≤ 8 ∧ z.length ≤ 1000 ∧ ∀ q H', Same H H' → H q = none → MvsAt H' q (movesN ds z) → Q (.ref q) H'
def spLRow : Sp := fun vs H Q _ => ∃ (c p S F : Addr) (n : Nat) (cs : List Nat) (ds : List RD), vs = [.ref p, .ref S, .ref F] ∧ n ≤ 500000 ∧ PenAt c n H p ∧ S ≠ p ∧ H S = some (.lst (cs.map sg)) ∧ 0 < cs.length ∧ cs.length ≤ 30 ∧ F ≠ p ∧ ItsOf H F (ds.map .rule) ∧ (∀ it ∈ ds.map Itm.rule, OkIt it) ∧ (∀ d ∈ ds, (∀ c ∈ d.1.cps.toList, c ∈ cs) ∧ d.1.length ≤ 4) ∧ ds.length ≤ 8 ∧
  ∀ (z : Str) H', (∀ c ∈ z.cps.toList, c ∈ cs) → z.length ≤ 9 → Ink c p (n + 30) H H' → Q (.str z) H'
theorem eqv_itsNil (is : List Itm) : PyData.eqv (.list (is.map itD)) (.list []) = is.isEmpty := by
  cases is with
  | nil => rfl
  | cons a t => rfl
section
variable {P : Program} {w : World} {K : PySem.W.Frag} {mg : Str → Option Value} {base : Heap}
abbrev nLMoves : List Str := ["_law_rules_here", "_law_there", "_law_found", "_law_place", "_law_k"]
theorem scLMoves : FnScope nLMoves ["_law_rules_here", "_law_there"] (defScope sLMoves) := ⟨rfl, rfl, rfl, by decide +kernel, rfl, by decide +kernel, by decide +kernel⟩
theorem ok_lMoves {f f1 : Addr} {fd fd1 : FuncData} (F : L2.Fun K "_law_moves" "_law_moves" sLMoves f fd) (T : Txt mg)
    (G1 : FnOk P w K mg base CX0 1 f1 fd1 ["_law_rule_here", "_law_there", "_law_place"] spLFits) (m1 : mg "_law_fits" = some (.ref f1)) (k1 : PySem.W.keepIn K (.ref f1) = true) (b1 : L2.Binds K fd1 ["_law_rule_here", "_law_there", "_law_place"] []) :
    FnOk P w K mg base CX0 2 f fd ["_law_rules_here", "_law_there"] spLMoves := by
  refine F.ok scLMoves (fun vs H Q E h => ?_) (fun cdv A outer s H vs Q E hr h => ?_)
  · obtain ⟨F, ds, z, rfl, _⟩ := h
    rfl
  · obtain ⟨F, ds, z, rfl, ⟨xs, hF, at_⟩, o14, d8, zl, k⟩ := h
    have nd := scLMoves.nd
    have xl := at_.1
    rw [List.length_map] at xl
    refine ⟨_, (pss_cons (ps_set (i := 2) nd rfl (.inl rfl) (pe_lst pa_nil))
      (pss_cons (ps_for PassesOwn.never rfl (pi_range1 (by rfl) T.range (pa_cons (bLen (by rfl) T.len (pv 1)) pa_nil)) (pg_name (i := 3) nd rfl (Or.inr rfl)) (pss_one (ps_set (i := 2) nd rfl (.inl rfl) (pe_op op_cat (pv 2) (pe_lc (own := [("_law_k", 4)]) (g := gName 4) (tt := tB (tCall spLFits [] E0 (tCons (tOp (rIxL K) (tVar 0) (tVar 4)) (tCons (tVar 1) (tCons (tVar 3) tNil))))) (te := tTup (tCons (tVar 3) (tCons (tVar 4) tNil))) rfl nd (pi_range1 (by rfl) T.range (pa_cons (bLen (by rfl) T.len (pv 0)) pa_nil)) (blkOk_by (own := [("_law_k", 4)]) (N := nLMoves) (sc := defScope sLMoves) (by decide +kernel)) (fun _ _ _ _ _ => (pg_name (i := 4) nd rfl (Or.inl rfl))) (fun _ _ _ _ _ => pts_one (pt_val (pe_call G1 hr (by rfl) m1 k1 b1 .nil pass0 (pa_cons (bIx (pv 0) (pv 4)) (pa_cons (pv 1) (pa_cons (pv 3) pa_nil)))))) (fun _ _ _ _ _ => (pe_tup (pa_cons (pv 3) (pa_cons (pv 4) pa_nil)))))))))
      (pss_one (ps_ret (pv 2))))), ?_⟩
    refine ⟨Nat.zero_le _, fun q0 hq0 => ?_⟩
    have s0 : Same H (upd H q0 (.lst [])) := Same.new hq0
    have e0 : upd H q0 (.lst []) q0 = some (.lst []) := upd_same
    generalize upd H q0 (.lst []) = H0 at s0 e0 ⊢
    refine ⟨_, rfl, _, z.length, rfl, ⟨len_small (by omega), rfl⟩, z.length, rfl, by omega, by omega, ?_⟩
    refine for_it walk_range (fun i σ' G => ∃ q y3 y4, σ' = [some (.ref F), some (.str z), some (.ref q), y3, y4] ∧ Same H G ∧ H q = none ∧ MvsAt G q ((List.range i).flatMap (mvAt ds.length (fitI ds z)))) ⟨q0, _, _, rfl, s0, hq0, [], e0, rfl, fun i x h => nomatch h⟩ (fun _ _ _ _ _ => trivial) ?_ ?_
    · rintro i x σ' G' G hi ⟨q, y3, y4, rfl, s1, nq, ms, hq, tw⟩ ⟨eG, ex⟩
      subst eG
      have hi' : i < z.length := by simpa using hi
      obtain rfl : x = V.int (i : Int) := ex.trans (by show V.int (0 + (i : Int)) = _; rw [Int.zero_add])
      refine ⟨_, rfl, _, rfl, _, ds.length, rfl, .inl ⟨_, SqL.of (s1 _ _ hF), xl.symm⟩, ds.length, rfl, by omega, by omega, fun D hD => ?_⟩
      refine lcSel walk_range (fun k H' acc => Same G H' ∧ TwsAt H' acc (((List.range k).filter (fitI ds z i)).map fun k => (i, k))) (by rw [sizeLine_eq]; omega) ⟨Same.new hD, rfl, fun i x h => nomatch h⟩ (fun _ _ _ _ _ => trivial) (fun _ _ _ _ y => y.1) ?_ ?_
      · rintro k' x H' acc Q' Qf hk hDl hla ⟨s2, tw2⟩ ⟨_, ex⟩ hq' hf
        obtain rfl : x = V.int (k' : Int) := ex.trans (by show V.int (0 + (k' : Int)) = _; rw [Int.zero_add])
        have hk' : k' < ds.length := by simpa using hk
        obtain ⟨d, hd⟩ : ∃ d, ds[k']? = some d := ⟨_, List.getElem?_eq_getElem hk'⟩
        have s12 := Same.trans s1 s2
        obtain ⟨v, hv, t0, rfl, ht0⟩ := (at_.same s12).2 k' (.rule d) (by rw [List.getElem?_map, hd]; rfl)
        obtain ⟨o1, o4⟩ := o14 d (List.mem_of_getElem? hd)
        refine ⟨_, rfl, _, rfl, F, xs, (k' : Int), .ref t0, rfl, rfl, SqL.of (s12 _ _ hF), at_int hv, _, rfl, _, rfl, t0, d, z, i, rfl, ht0, o1, o4, zl, fun H3 s3 => ⟨_, rfl, ?_⟩⟩
        have hD3 := s3 _ _ hDl
        have s23 := Same.trans s2 s3
        have ef : fN d.1 d.2.2.1 d.2.2.2 z i = fitI ds z i k' := by unfold fitI; rw [hd]
        rw [ef]
        cases e : fitI ds z i k' with
        | true =>
          refine iteT ⟨_, rfl, _, rfl, by show 2 ≤ sizeLine; decide, fun t ht => ?_⟩
          obtain ⟨a1, a2, a3⟩ := tw_push (x := (i, k')) hD s23 (tw2.same s3) hD3 ht
          refine hq' _ _ a1 ⟨a2, ?_⟩
          rw [filt_succ, if_pos e, List.map_append]
          exact a3
        | false =>
          refine iteF (hf _ hD3 ⟨s23, ?_⟩)
          rw [filt_succ, if_neg (by rw [e]; exact Bool.false_ne_true), List.append_nil]
          exact tw2.same s3
      · rintro H2 acc hD2 hla ⟨s2, tw2⟩
        have tn : ((ds.length : Int)).toNat = ds.length := by omega
        rw [tn] at tw2
        replace tw2 : TwsAt H2 acc (mvAt ds.length (fitI ds z) i) := tw2
        have l1 := tw.1
        have l2 := tw2.1
        have fa := flat_few (mvAt ds.length (fitI ds z)) ds.length i (mvAt_few _ _)
        have fb := mvAt_few ds.length (fitI ds z) i
        have fc := Nat.mul_le_mul (show i ≤ 1000 by omega) d8
        refine ⟨q, D, ms, acc, rfl, rfl, s2 _ _ hq, hD2, by rw [sizeLine_eq]; omega, fun q2 hq2 => ?_⟩
        have s3 : Same H2 (upd H2 q2 (.lst (ms ++ acc))) := Same.new hq2
        have s13 := Same.trans s1 (Same.trans s2 s3)
        refine ⟨q2, _, _, rfl, s13, Same.gone (Same.trans s1 s2) hq2, ms ++ acc, upd_same, ?_⟩
        rw [List.range_succ, List.flatMap_append, List.flatMap_cons, List.flatMap_nil, List.append_nil]
        exact ((tw.same s2).same s3).app (tw2.same s3)
    · rintro σ' G ⟨q, y3, y4, rfl, s1, nq, ms⟩
      have tn : ((z.length : Int)).toNat = z.length := by omega
      rw [tn, movesN_eq fun d h => (o14 d h).1] at ms
      exact ⟨_, rfl, k q G s1 nq ms⟩
abbrev nLRow : List Str := ["_law_pen_here", "_law_signs", "_law_rules_here", "_law_there", "_law_turn", "_law_at"]
theorem scLRow : FnScope nLRow ["_law_pen_here", "_law_signs", "_law_rules_here"] (defScope sLRow) := ⟨rfl, rfl, rfl, by decide +kernel, rfl, by decide +kernel, by decide +kernel⟩
theorem ok_lRow {f f1 f2 f3 : Addr} {fd fd1 fd2 fd3 : FuncData} (F : L2.Fun K "_law_row" "_law_row" sLRow f fd) (T : Txt mg)
    (G1 : FnOk P w K mg base CX0 1 f1 fd1 ["_law_pen_here", "_law_many"] spDraw) (m1 : mg "_law_draw" = some (.ref f1)) (k1 : PySem.W.keepIn K (.ref f1) = true) (b1 : L2.Binds K fd1 ["_law_pen_here", "_law_many"] [])
    (G2 : FnOk P w K mg base CX0 2 f2 fd2 ["_law_pen_here", "_law_things"] spPick) (m2 : mg "_law_pick" = some (.ref f2)) (k2 : PySem.W.keepIn K (.ref f2) = true) (b2 : L2.Binds K fd2 ["_law_pen_here", "_law_things"] [])
    (G3 : FnOk P w K mg base CX0 3 f3 fd3 ["_law_pen_here", "_law_signs", "_law_many"] spText) (m3 : mg "_law_text" = some (.ref f3)) (k3 : PySem.W.keepIn K (.ref f3) = true) (b3 : L2.Binds K fd3 ["_law_pen_here", "_law_signs", "_law_many"] []) :
    FnOk P w K mg base CX0 4 f fd ["_law_pen_here", "_law_signs", "_law_rules_here"] spLRow := by
  refine F.ok scLRow (fun vs H Q E h => ?_) (fun cdv A outer s H vs Q E hr h => ?_)
  · obtain ⟨c, p, S, F, n, cs, ds, rfl, _⟩ := h
    rfl
  · obtain ⟨c, p, S, F, n, cs, ds, rfl, nb, pen, Sp, hS, c1, c30, Fp, its, okds, sub, d8, k⟩ := h
    have nd := scLRow.nd
    have hr1 := hr.mono (show 1 ≤ 3 by decide)
    have hr2 := hr.mono (show 2 ≤ 3 by decide)
    refine ⟨_, (pss_cons (ps_set (i := 3) nd rfl (.inl rfl) (pe_call G3 hr (by rfl) m3 k3 b3 .nil pass0 (pa_cons (pv 0) (pa_cons (pv 1) (pa_cons (pe_call G1 hr1 (by rfl) m1 k1 b1 .nil pass0 (pa_cons (pv 0) (pa_cons pe_int pa_nil))) pa_nil)))))
      (pss_cons (ps_for PassesOwn.never rfl (pi_range1 (by rfl) T.range (pa_cons (pe_op op_mul (pe_call G1 hr1 (by rfl) m1 k1 b1 .nil pass0 (pa_cons (pv 0) (pa_cons pe_int pa_nil))) (bInt (by rfl) T.int (pe_cmpR (op_neD hr.units) (pv 2) (pe_lst pa_nil) (nomark _)))) pa_nil)) (pg_name (i := 4) nd rfl (Or.inl rfl)) (pss_cons (ps_set (i := 5) nd rfl (.inl rfl) (pe_call G2 hr2 (by rfl) m2 k2 b2 .nil pass0 (pa_cons (pv 0) (pa_cons (pe_lst (pa_cons pe_int (pa_cons (bLen (by rfl) T.len (pv 3)) (pa_cons (pe_call G1 hr1 (by rfl) m1 k1 b1 .nil pass0 (pa_cons (pv 0) (pa_cons (pe_op op_add (bLen (by rfl) T.len (pv 3)) pe_int) pa_nil))) pa_nil)))) pa_nil))))
      (pss_one (ps_set (i := 3) nd rfl (.inl rfl) (pe_op op_add_str (pe_op op_add_str (pe_slice sl_str (pv 3) po_none (po_some (pv 5))) (bIxT (pe_call G2 hr2 (by rfl) m2 k2 b2 .nil pass0 (pa_cons (pv 0) (pa_cons (pv 2) pa_nil))) pe_int)) (pe_slice sl_str (pv 3) (po_some (pv 5)) po_none))))))
      (pss_one (ps_ret (pe_slice sl_str (pv 3) po_none (po_some pe_int)))))), ?_⟩
    refine ⟨_, rfl, _, rfl, _, rfl, c, p, 6, n, rfl, by omega, by omega, by omega, pen, fun r H1 r0 r1 pen1 x1 => ?_⟩
    obtain ⟨m, rfl⟩ : ∃ m : Nat, r = (m : Int) := ⟨r.toNat, by omega⟩
    refine ⟨c, p, S, n + 1, m, cs, rfl, by omega, by omega, pen1, Sp, x1 _ _ Sp hS, c1, c30, fun os H2 osub ol i2 => ?_⟩
    have ink2 : Ink c p (n + 1 + 10) H H2 := Ink.trans ⟨x1, pen1⟩ i2
    refine ⟨_, rfl, c, p, 3, n + 1 + 10, rfl, by omega, by omega, by omega, ink2.2, fun r H3 r0' r1' pen3 x3 => ?_⟩
    obtain ⟨r2, rfl⟩ : ∃ m : Nat, r = (m : Int) := ⟨r.toNat, by omega⟩
    have ink3 : Ink c p (n + 1 + 10 + 1) H H3 := Ink.trans ink2 ⟨x3, pen3⟩
    have its3 := its.ext pen Fp ink3.1
    refine ⟨_, rfl, Nat.zero_le _, fun q hq => ?_⟩
    have s4 : Same H3 (upd H3 q (.lst [])) := Same.new hq
    have e4 : upd H3 q (.lst []) q = some (.lst []) := upd_same
    generalize upd H3 q (.lst []) = H4 at s4 e4 ⊢
    have its4 := its3.same s4
    have ink4 := ink3.same s4
    obtain ⟨xs, hF, at_⟩ := its4
    refine ⟨.list ((ds.map Itm.rule).map itD), .list [], .lst (SqL.of hF) (dp_its at_), .lst (SqL.of e4) .nil, shaped_its okds, rfl, .inr ⟨_, rfl, _, _, rfl, rfl, ?_⟩⟩
    rw [eqv_itsNil]
    have hcnt : ∃ cnt : Nat, (r2 : Int) * (if (!(ds.map Itm.rule).isEmpty) = true then 1 else 0) = (cnt : Int) ∧ cnt ≤ 2 ∧ (0 < cnt → ds ≠ []) := by
      cases ds with
      | nil => exact ⟨0, by simp, by omega, fun h => absurd h (by omega)⟩
      | cons d r => exact ⟨r2, by simp, by omega, fun _ h => nomatch h⟩
    obtain ⟨cnt, ec, c2, cne⟩ := hcnt
    have xl := at_.1
    rw [List.length_map] at xl
    have ol' : (⟨os.toArray⟩ : Str).length ≤ 5 := by show os.toArray.size ≤ 5; rw [List.size_toArray]; omega
    have os' : ∀ d ∈ (⟨os.toArray⟩ : Str).cps.toList, d ∈ cs := fun d h => osub d (by simpa using h)
    refine ⟨.inl ⟨by omega, by omega⟩, (cnt : Int), congrArg (fun z => [V.int z]) ec, by omega, by omega, ?_⟩
    refine for_it walk_range (fun i σ' G => ∃ (z : Str) (y4 y5 : Option V), σ' = [some (.ref p), some (.ref S), some (.ref F), some (.str z), y4, y5] ∧ (∀ d ∈ z.cps.toList, d ∈ cs) ∧ ((i = 0 → z.length ≤ 5) ∧ (i ≤ 1 → z.length ≤ 14) ∧ z.length ≤ 32) ∧ Ink c p (n + 12 + 4 * i) H G) ⟨_, _, _, rfl, os', ⟨fun _ => ol', fun _ => by omega, by omega⟩, ink4.mono (by omega)⟩ (fun _ _ _ _ _ => trivial) ?_ ?_
    · rintro i x σ' G' G hi ⟨z, y4, y5, rfl, zs, zl, ink⟩ ⟨eG, ex⟩
      subst eG
      have hi' : i < cnt := by simpa using hi
      have dne := cne (by omega)
      have Sp2 := Sp
      obtain ⟨xs2, hF2, at2⟩ := its.ext pen Fp ink.1
      have xl2 := at2.1
      rw [List.length_map] at xl2
      refine ⟨_, rfl, _, rfl, _, z.length, rfl, ⟨len_small (by omega), rfl⟩, _, rfl, _, rfl, _, z.length, rfl, ⟨len_small (by omega), rfl⟩, _, _, rfl, rfl, ?_⟩
      refine ⟨c, p, (z.length : Int) + 1, n + 12 + 4 * i, rfl, by omega, by omega, by omega, ink.2, fun r G1 a0 a1 pen1 x1 => ?_⟩
      obtain ⟨m2, rfl⟩ : ∃ m : Nat, r = (m : Int) := ⟨r.toNat, by omega⟩
      have inkA : Ink c p (n + 12 + 4 * i + 1) H G1 := Ink.trans ink ⟨x1, pen1⟩
      refine ⟨by show 3 ≤ sizeLine; decide, fun l hl => ⟨c, p, n + 12 + 4 * i + 1, by omega, inkA.2.new hl, .inl ⟨l, _, rfl, inkA.2.ne1 hl, upd_same, by show 0 < 3; decide, by show 3 ≤ 1000; decide, fun v G2 hv pen2 x2 => ?_⟩⟩⟩
      obtain ⟨at_i, rfl, ai⟩ : ∃ k : Nat, v = .int (k : Int) ∧ k ≤ z.length := by
        simp only [List.mem_cons, List.not_mem_nil, or_false] at hv
        rcases hv with rfl | rfl | rfl
        · exact ⟨0, rfl, by omega⟩
        · exact ⟨z.length, rfl, by omega⟩
        · exact ⟨m2, rfl, by omega⟩
      have inkB : Ink c p (n + 12 + 4 * i + 1 + 1) H G2 := Ink.trans inkA ⟨Ext1.trans (Ext1.new hl) x2, pen2⟩
      obtain ⟨xs3, hF3, at3⟩ := its.ext pen Fp inkB.1
      have xl3 := at3.1
      rw [List.length_map] at xl3
      have dl := List.length_pos_iff.mpr dne
      refine ⟨_, rfl, _, rfl, _, rfl, z, rfl, len_small (by omega), ?_⟩
      refine ⟨_, rfl, _, rfl, c, p, n + 12 + 4 * i + 1 + 1, by omega, inkB.2, .inl ⟨F, xs3, rfl, Fp, hF3, by omega, by omega, fun v G3 hv pen3 x3 => ?_⟩⟩
      obtain ⟨j, hj⟩ := List.mem_iff_getElem?.mp hv
      have jl := (List.getElem?_eq_some_iff.mp hj).1
      obtain ⟨d, hd⟩ : ∃ d, ds[j]? = some d := ⟨_, List.getElem?_eq_getElem (by omega)⟩
      obtain ⟨v2, hv2, t0, rfl, ht0⟩ := at3.2 j (.rule d) (by rw [List.getElem?_map, hd]; rfl)
      obtain rfl : v = .ref t0 := Option.some.inj (hj.symm.trans hv2)
      obtain ⟨dsub, d4⟩ := sub d (List.mem_of_getElem? hd)
      have tp : t0 ≠ p := inkB.2.neO ht0 fun _ z => nomatch z
      have ht3 := x3 _ _ tp ht0
      have h1 := cutS_length z none (some (at_i : Int))
      have h2 := cutS_length z (some (at_i : Int)) none
      refine ⟨t0, _, 0, _, rfl, rfl, SqT.of ht3, rfl, _, _, rfl, rfl, by rw [sizeLine_eq]; omega, ?_⟩
      refine ⟨_, rfl, _, rfl, _, rfl, z, rfl, len_small (by omega), _, _, rfl, rfl, by rw [app_len', sizeLine_eq]; omega, ?_⟩
      refine ⟨_, _, _, rfl, fun e he => ?_, ⟨fun h => absurd h (by omega), fun h => by rw [app_len', app_len']; have := zl.1 (by omega); omega, by rw [app_len', app_len']; have := zl.2.1 (by omega); omega⟩, (Ink.trans inkB ⟨x3, pen3⟩).mono (by omega)⟩
      rw [app_chars, app_chars] at he
      rcases List.mem_append.mp he with he | he
      · rcases List.mem_append.mp he with he | he
        · exact zs e (cut_sub he)
        · exact dsub e he
      · exact zs e (cut_sub he)
    · rintro σ' G ⟨z, y4, y5, rfl, zs, zl, ink⟩
      have tn : ((cnt : Int)).toNat = cnt := by omega
      rw [tn] at zl ink
      have h9 := cut9 z
      refine ⟨_, rfl, (9 : Int), rfl, z, rfl, len_small (by omega), k _ _ (fun e he => zs e (cut_sub he)) h9 (ink.mono (by omega))⟩
end
end Kx
set_option Elab.async false
set_option maxRecDepth 100000
set_option autoImplicit false
set_option pp.maxSteps 400
set_option pp.deepTerms false
/-! _law_heard(lambda: ..) -/
namespace Kx
open PySem L2 PySem.Spec PyProof.Rows Rg Er Ru LamX Tn ClX
abbrev sHeard : Stmt := top 55
abbrev nHeard : List Str := ["_law_asking", "_law_found", "_law_told", "error"]
theorem scHeard : FnScope nHeard ["_law_asking"] (defScope sHeard) := ⟨rfl, rfl, rfl, by decide +kernel, rfl, by decide +kernel, by decide +kernel⟩
structure HearP (K : PySem.W.Frag) (mg : Str → Option Value) (x f : Str) (C : Addr) : Prop where
  g : mg x = some (.ref C)
  xf : XfC K C
  em : PySem.W.exmOne K (.ref C) (.ref C) = some true
  no : PySem.W.findIn K (.ref C) f = some none
/-- both errors that are heard -/
structure Hear2 (K : PySem.W.Frag) (mg : Str → Option Value) (CB CH : Addr) : Prop where
  b : HearP K mg "BadMove" "part" CB
  h : HearP K mg "BadRow" "at" CH
  no : PySem.W.exmOne K (.ref CH) (.ref CB) = some false
/-- the error that is heard: [a word, its field] is told -/
def hears (CB CH : Addr) (Q : VK) : XK := fun cls d H' => ∃ dd v, ∃ w : Str, d = some dd ∧ ((cls = .ref CB ∧ H' dd = some (.xd [("part", v)]) ∧ w = "move") ∨ (cls = .ref CH ∧ H' dd = some (.xd [("at", v)]) ∧ w = "row")) ∧ ∀ q H'', Same H' H'' → H'' q = some (.tup [.str w, v]) → Q (.ref q) H''
def TTheard (CB CH : Addr) : (XK → Hp → VK → Prop) → Hp → VK → Prop := fun tl H Q => ∀ (H1 : Hp) (Q' : VK), Same H H1 → (∀ v H', Q v H' → Q' v H') → tl (hears CB CH Q) H1 Q'
theorem heard_gives {X : Cx} {g : Addr} {cdg : Value} {q : Str} {CB CH : Addr} (T : Hear2 X.K X.mg CB CH) : GivesTo X nHeard "_law_heard" (defScope sHeard) g cdg (defBody sHeard) "_law_asking" q (TTheard CB CH) := by
  intro f c' s H Q tl act hc h
  have nd := scHeard.nd
  refine ⟨_, pss_cons (ps_asg (pe_tup (pa_cons pe_non (pa_cons pe_non pa_nil))) (pg_tup rfl (pgs_cons (pg_name (i := 1) nd rfl (Or.inl rfl)) (pgs_cons (pg_name (i := 2) nd rfl (Or.inl rfl)) pgs_nil))))
    (pss_cons (ps_try_val2 (i := 3) (j := 2) (c := .ref CB) (c2 := .ref CH) (Wout := fun _ _ _ _ => False) (te := fun a cls d => tTup (tCons (tC (.str "move")) (tCons (tXf a cls d CB "part" (tVar 3)) tNil))) (te2 := fun a cls d => tTup (tCons (tC (.str "row")) (tCons (tXf a cls d CH "at" (tVar 3)) tNil)))
      (tb := fun W D σ H => ∃ Ech : XK, (∀ cls d σ' H', Ech cls d H' → W cls d σ' H') ∧ σ[0]? = some (some (.ref f)) ∧ H c' = some (CodeO c' q) ∧ tl Ech H (fun v H' => D.nx (σ.set 1 (some v)) H'))
      rfl rfl rfl nd rfl rfl rfl rfl ⟨rfl, by decide, .inl T.b.g⟩ ⟨rfl, by decide, .inl T.h.g⟩ L2.takes0 rfl rfl (fun a oe cls d pn hz hf => pe_tup (pa_cons pe_str (pa_cons (pe_xf T.b.xf T.b.no hz hf (pv 3)) pa_nil))) (fun a oe cls d pn hz hf => pe_tup (pa_cons pe_str (pa_cons (pe_xf T.h.xf T.h.no hz hf (pv 3)) pa_nil))) (fun W pn xe tk _ => ?_))
    (pss_one (ps_ret (pe_ifExp (pt_cmp (pc_isN (pv 2))) (pv 1) (pv 2))))), ?_⟩
  · refine ⟨fun pins s' σ H' D I h' => ?_⟩
    obtain ⟨Ech, hW, h1, h2, h3⟩ := h'
    exact (pss_one (ps_set (i := 1) nd rfl (.inl rfl) (act W pn xe Ech _ _ tk hW))).run pins s' σ H' D I ⟨h1, h2, h3⟩
  · refine ⟨by show 2 ≤ sizeLine; decide, fun t ht => ?_⟩
    refine ⟨t, _, rfl, SqT.of upd_same, rfl, _, _, rfl, _, _, rfl, rfl, ?_⟩
    have s1 : Same H (upd H t (.tup [.non, .non])) := Same.new ht
    generalize upd H t (.tup [.non, .non]) = H1 at s1 ⊢
    refine ⟨hears CB CH Q, ?_, rfl, s1 _ _ hc, h _ _ s1 fun v H' qv => ⟨_, rfl, true, rfl, iteT ⟨_, rfl, qv⟩⟩⟩
    rintro cls d σ' H' ⟨dd, v, w, rfl, ⟨rfl, hd, rfl⟩ | ⟨rfl, hd, rfl⟩, k⟩
    · refine ⟨true, T.b.em, fun _ hlen a' na => ?_, fun z => nomatch z⟩
      obtain ⟨x0, x1, x2, x3, rfl⟩ : ∃ x0 x1 x2 x3, σ' = [x0, x1, x2, x3] := by
        match σ', hlen with
        | [x0, x1, x2, x3], _ => exact ⟨x0, x1, x2, x3, rfl⟩
      refine ⟨_, rfl, rfl, rfl, dd, _, v, rfl, hd, rfl, by show 2 ≤ sizeLine; decide, fun q hq => ?_⟩
      exact ⟨_, rfl, false, rfl, iteF ⟨_, rfl, k q _ (Same.new hq) upd_same⟩⟩
    · refine ⟨false, T.no, (fun z => nomatch z), fun _ => ⟨true, T.h.em, fun _ hlen a' na => ?_, fun z => nomatch z⟩⟩
      obtain ⟨x0, x1, x2, x3, rfl⟩ : ∃ x0 x1 x2 x3, σ' = [x0, x1, x2, x3] := by
        match σ', hlen with
        | [x0, x1, x2, x3], _ => exact ⟨x0, x1, x2, x3, rfl⟩
      refine ⟨_, rfl, rfl, rfl, dd, _, v, rfl, hd, rfl, by show 2 ≤ sizeLine; decide, fun q hq => ?_⟩
      exact ⟨_, rfl, false, rfl, iteF ⟨_, rfl, k q _ (Same.new hq) upd_same⟩⟩
def lamQ (x : Str) : Str := x ++ ".<locals>." ++ "<lambda>"
section
variable {P : Program} {w : World} {K : PySem.W.Frag} {mg : Str → Option Value} {base : Heap}
/-- _law_heard(lambda: body), in a def whose code stands at cd -/
theorem pe_hear {N : List Str} {qual : Str} {sc : Scope} {A : Around} {outer : List Env} {s : Shared} {H : Hp} {E0' : XK} {f cd tab CB CH g : Addr} {T : List (Addr × Str)} {cdg oc dV kV doc pm ct : Value} {an od : Option Addr} {osl : Array (Option Value)} {params : Arguments} {body : Expr} {scope : Scope} {t : XK → TE} {p lpos pos : Pos}
    (hr : Room 10 (A.deeper (envOfC qual sc s.heap.objs.size f (.ref cd)))) (Hc : Hear2 K mg CB CH) (hm : mg "_law_heard" = some (.ref g)) (hk : PySem.W.keepIn K (.ref g) = true)
    (lk : K.lookup g = some ⟨oc, od, .func (PySem.W.fnOf "_law_heard" "_law_heard" (defArgs sHeard) (defBody sHeard) (defScope sHeard) dV kV doc pm an cdg ct), osl⟩) (hcg : PySem.W.codeIn K cdg "_law_heard" = true) (hb : L2.Binds K (PySem.W.fnOf "_law_heard" "_law_heard" (defArgs sHeard) (defBody sHeard) (defScope sHeard) dV kV doc pm an cdg ct) ["_law_asking"] [])
    (TB : TabB base mg cd tab) (hT : (tab, lamQ qual) ∈ T) (hu : ∀ p ∈ T, p.1 = tab → p.2 = lamQ qual) (hg : Gl (cxOf CX0 P w K mg base N qual sc f (.ref cd) A outer s H E0').nox "_law_heard") (L : LamS sc scope) (hdef : defaultsOf params (envOfC qual sc s.heap.objs.size f (.ref cd)) = ([], [])) (hbind : ∀ (q : Str) (cl : List (Str × Addr)) (pm cv ctv : Value), bindArgs (PySem.W.kla_fn "<lambda>" q params body scope cl pm cv ctv) ⟨[], []⟩ = pure [])
    (hbody : ∀ (A' : Around) (outer' : List Env) (s' : Shared) (H' : Hp) (E : XK) (f' c' : Addr), Room 8 (A'.deeper (lamEnv (cxOf CX0 P w K mg base N qual sc f (.ref cd) A outer s H E0').nox scope s'.heap.objs.size f' c')) → PE (lamCx (cxOf CX0 P w K mg base N qual sc f (.ref cd) A outer s H E0').nox A' outer' s' H' E scope f' c') body (t E)) :
    PE (cxOf CX0 P w K mg base N qual sc f (.ref cd) A outer s H E0').nox (.Call (.Name "_law_heard" p) [.Lambda params body scope lpos] [] pos) (tLam T (TTheard CB CH) t) :=
  pe_lamcall (X := (cxOf CX0 P w K mg base N qual sc f (.ref cd) A outer s H E0').nox) (a := "_law_asking") (k := 8) hg hm hk lk hcg hb scHeard rfl (Or.inl rfl) (heard_gives Hc) TB rfl hT hu hr L hdef hbind hbody
/-- what the law needs of _law_heard -/
structure Hd (K : PySem.W.Frag) (mg : Str → Option Value) (g : Addr) (cdg oc dV kV doc pm ct : Value) (an od : Option Addr) (osl : Array (Option Value)) : Prop where
  hm : mg "_law_heard" = some (.ref g)
  hk : PySem.W.keepIn K (.ref g) = true
  lk : K.lookup g = some ⟨oc, od, .func (PySem.W.fnOf "_law_heard" "_law_heard" (defArgs sHeard) (defBody sHeard) (defScope sHeard) dV kV doc pm an cdg ct), osl⟩
  hcg : PySem.W.codeIn K cdg "_law_heard" = true
  hb : L2.Binds K (PySem.W.fnOf "_law_heard" "_law_heard" (defArgs sHeard) (defBody sHeard) (defScope sHeard) dV kV doc pm an cdg ct) ["_law_asking"] []
end
end Kx
set_option Elab.async false
set_option maxRecDepth 100000
set_option autoImplicit false
set_option pp.maxSteps 400
set_option pp.deepTerms false
/-! what is handed to led; _law_move_due -/
namespace Kx
open PySem L2 PySem.Spec PyProof.Rows Rg Er Ru Tn LamX ClX
abbrev sMDue : Stmt := top 56
/-- a part of what may be a move -/
inductive Prt where
  | non | int (i : Int) | bl (b : Bool) | text
def prtV : Prt → V
  | .non => .non
  | .int i => .int i
  | .bl b => .bl b
  | .text => .str "0"
def prtD : Prt → PyData
  | .non => .none
  | .int i => .int i
  | .bl b => .bool b
  | .text => .str "0"
def prtOk : Prt → Option Int
  | .int i => some i
  | _ => none
/-- what is handed to led -/
inductive Deed where
  | non | five | text | list
  | tup (ps : List Prt)
def DeedAt (p : Addr) (H : Hp) (v : V) : Deed → Prop
  | .non => v = .non
  | .five => v = .int 5
  | .text => v = .str "00"
  | .list => ∃ l, v = .ref l ∧ l ≠ p ∧ H l = some (.lst [.int 0, .int 0])
  | .tup ps => ∃ t, v = .ref t ∧ H t = some (.tup (ps.map prtV))
def moveOf : Deed → Option (Int × Int)
  | .tup [.int p, .int i] => some (p, i)
  | _ => none
def fitZ (ds : List RD) (z : Str) (p i : Int) : Bool := match ds[i.toNat]? with
  | some d => fitB d.1 d.2.2.1 d.2.2.2 z p
  | none => false
/-- the part that is wrong -/
def dueK (ds : List RD) (z : Str) (d : Deed) : Option Str := match moveOf d with
  | none => some "form"
  | some (p, i) => if 0 ≤ i ∧ i < (ds.length : Int) then (if fitZ ds z p i = true then none else some "place") else some "rule"
def optS : Option Str → V
  | none => .non
  | some s => .str s
theorem izPrt {K : PySem.W.Frag} {H : Hp} (a : Prt) : IzX K H (prtV a) (prtOk a) := by
  cases a with
  | int i => exact .inl ⟨i, rfl, rfl⟩
  | bl b => exact .inr ⟨rfl, .inl ⟨b, rfl⟩⟩
  | non => exact .inr ⟨rfl, .inr ⟨_, .base .non, kit_ty (by decide +kernel)⟩⟩
  | text => exact .inr ⟨rfl, .inr ⟨_, .base (.str _), kit_ty (by decide +kernel)⟩⟩
theorem DeedAt.mv {K : PySem.W.Frag} {p : Addr} {H : Hp} {v : V} {d : Deed} (h : DeedAt p H v d) : MvX K H v (moveOf d) := by
  cases d with
  | non => cases h; exact .inr ⟨rfl, .inr ⟨_, .base .non, kit_ty (by decide +kernel)⟩⟩
  | five => cases h; exact .inr ⟨rfl, .inr ⟨_, .base (.int _), kit_ty (by decide +kernel)⟩⟩
  | text => cases h; exact .inr ⟨rfl, .inr ⟨_, .base (.str _), kit_ty (by decide +kernel)⟩⟩
  | list => obtain ⟨l, rfl, _, h⟩ := h; exact .inr ⟨rfl, .inr ⟨_, .base (.lst h), kit_ty (by decide +kernel)⟩⟩
  | tup ps =>
    obtain ⟨t, rfl, h⟩ := h
    match ps, h with
    | [], h => exact .inr ⟨rfl, .inl ⟨t, _, rfl, h, by decide⟩⟩
    | [a], h => exact .inr ⟨by cases a <;> rfl, .inl ⟨t, _, rfl, h, by show ¬ 1 = 2; decide⟩⟩
    | [a, b], h => exact .inl ⟨t, prtV a, prtV b, prtOk a, prtOk b, rfl, h, izPrt a, izPrt b, by cases a <;> cases b <;> rfl⟩
    | a :: b :: c :: r, h => exact .inr ⟨by cases a <;> cases b <;> rfl, .inl ⟨t, _, rfl, h, by show ¬ (_ + 1 + 1 + 1 = 2); omega⟩⟩
theorem DeedAt.same {p : Addr} {H H' : Hp} {v : V} {d : Deed} (h : DeedAt p H v d) (s : Same H H') : DeedAt p H' v d := by
  cases d with
  | non => exact h
  | five => exact h
  | text => exact h
  | list => obtain ⟨l, a, b, h⟩ := h; exact ⟨l, a, b, s _ _ h⟩
  | tup ps => obtain ⟨t, a, h⟩ := h; exact ⟨t, a, s _ _ h⟩
theorem DeedAt.gr {T : List (Addr × Str)} {c p : Addr} {n m : Nat} {H H' : Hp} {v : V} {d : Deed} (h : DeedAt p H v d) (pen : PenAt c n H p) (g : Gr T c p m H H') : DeedAt p H' v d := by
  cases d with
  | non => exact h
  | five => exact h
  | text => exact h
  | list => obtain ⟨l, a, b, h⟩ := h; exact ⟨l, a, b, g.at_ h b⟩
  | tup ps => obtain ⟨t, a, h⟩ := h; exact ⟨t, a, g.at_ h (pen.neO h fun _ z => nomatch z)⟩
def DdsAt (p : Addr) (H : Hp) (xs : List V) (dd : List Deed) : Prop := xs.length = dd.length ∧ ∀ (i : Nat) (d : Deed), dd[i]? = some d → ∃ v, xs[i]? = some v ∧ DeedAt p H v d
theorem DdsAt.same {p : Addr} {H H' : Hp} {xs : List V} {dd : List Deed} (h : DdsAt p H xs dd) (s : Same H H') : DdsAt p H' xs dd := ⟨h.1, fun i d q => let ⟨v, a, b⟩ := h.2 i d q; ⟨v, a, b.same s⟩⟩
theorem DdsAt.gr {T : List (Addr × Str)} {c p : Addr} {n m : Nat} {H H' : Hp} {xs : List V} {dd : List Deed} (h : DdsAt p H xs dd) (pen : PenAt c n H p) (g : Gr T c p m H H') : DdsAt p H' xs dd := ⟨h.1, fun i d q => let ⟨v, a, b⟩ := h.2 i d q; ⟨v, a, b.gr pen g⟩⟩
theorem DdsAt.nil (p : Addr) (H : Hp) : DdsAt p H [] [] := ⟨rfl, fun _ _ h => nomatch h⟩
theorem DdsAt.app {p : Addr} {H : Hp} {xs ys : List V} {ms ns : List Deed} (h : DdsAt p H xs ms) (q : DdsAt p H ys ns) : DdsAt p H (xs ++ ys) (ms ++ ns) := by
  refine ⟨by simp [h.1, q.1], fun i e he => ?_⟩
  have hl := h.1
  by_cases lt : i < ms.length
  · rw [List.getElem?_append_left lt] at he
    rw [List.getElem?_append_left (by omega)]
    exact h.2 i e he
  · rw [List.getElem?_append_right (by omega)] at he
    rw [List.getElem?_append_right (by omega), hl]
    exact q.2 _ e he
theorem DdsAt.snoc {p : Addr} {H : Hp} {xs : List V} {dd : List Deed} {v : V} {d : Deed} (h : DdsAt p H xs dd) (q : DeedAt p H v d) : DdsAt p H (xs ++ [v]) (dd ++ [d]) := h.app ⟨rfl, fun i e he => by
  cases i with
  | zero => cases he; exact ⟨v, rfl, q⟩
  | succ i => cases he⟩
/-- moves as data -/
def mvD (x : Nat × Nat) : PyData := .tuple [.int (x.1 : Int), .int (x.2 : Int)]
theorem mv_eqv (a b : Nat × Nat) : PyData.eqv (mvD a) (mvD b) = decide (a = b) := by
  obtain ⟨a1, a2⟩ := a
  obtain ⟨b1, b2⟩ := b
  rw [Bool.eq_iff_iff]
  simp [mvD, PyData.eqv, PyData.eqvAll]
  omega
theorem mvs_eqv : ∀ (as bs : List (Nat × Nat)), PyData.eqvAll (as.map mvD) (bs.map mvD) = decide (as = bs)
  | [], [] => rfl
  | [], _ :: _ => rfl
  | _ :: _, [] => rfl
  | a :: r, b :: t => by
    show (PyData.eqv (mvD a) (mvD b) && PyData.eqvAll (r.map mvD) (t.map mvD)) = _
    rw [mv_eqv, mvs_eqv r t, Bool.eq_iff_iff]
    simp
theorem mvl_eqv (as bs : List (Nat × Nat)) : PyData.eqv (.list (as.map mvD)) (.list (bs.map mvD)) = decide (as = bs) := mvs_eqv as bs
theorem lay_mvs : ∀ (as : List (Nat × Nat)), PyData.canLayAll0 (as.map mvD) = true ∧ PyData.depthAll (as.map mvD) ≤ 1
  | [] => ⟨rfl, Nat.zero_le _⟩
  | a :: r => by
    obtain ⟨h1, h2⟩ := lay_mvs r
    have a1 : (mvD a).canLay0 = true := by simp [mvD, PyData.canLay0, PyData.canLayAll0]
    have a2 : (mvD a).depth ≤ 1 := by simp [mvD, PyData.depth, PyData.depthAll]
    refine ⟨by simp only [List.map_cons, PyData.canLayAll0, a1, h1, Bool.and_self], ?_⟩
    simp only [List.map_cons, PyData.depthAll]
    omega
theorem shaped_mvs (as : List (Nat × Nat)) : SeqAt.shaped (.list (as.map mvD)) = true := by
  obtain ⟨a, b⟩ := lay_mvs as
  show (PyData.canLayAll0 (as.map mvD) && decide (PyData.depthAll (as.map mvD) + 1 ≤ 64)) = true
  rw [a, decide_eq_true (by omega)]
  rfl
theorem MoveAt.dp {K : PySem.W.Frag} {H : Hp} {t : Addr} {a b : Nat} (h : MoveAt H t a b) : Dp K H (.ref t) (mvD (a, b)) := .tup (SqT.of h) (.cons (.int _) (.cons (.int _) .nil))
theorem dp_tws {K : PySem.W.Frag} {H : Hp} : ∀ {xs : List V} {ms : List (Nat × Nat)}, TwsAt H xs ms → DpAll K H xs (ms.map mvD)
  | [], [], _ => .nil
  | [], _ :: _, h => by have := h.1; simp at this
  | _ :: _, [], h => by have := h.1; simp at this
  | x :: r, e :: t, h => by
    obtain ⟨v, hv, p⟩ := h.2 0 e rfl
    cases hv
    exact .cons p.dp (dp_tws ⟨by have := h.1; simpa using this, fun i f q => h.2 (i + 1) f q⟩)
theorem any_mv (ms : List (Nat × Nat)) (p i : Int) : ((ms.map mvD).any fun z => PyData.eqv z (.tuple [.int p, .int i])) = decide (0 ≤ p ∧ 0 ≤ i ∧ (p.toNat, i.toNat) ∈ ms) := by
  rw [Bool.eq_iff_iff, List.any_eq_true, decide_eq_true_iff]
  constructor
  · rintro ⟨z, hz, e⟩
    obtain ⟨a, ha, rfl⟩ := List.mem_map.mp hz
    obtain ⟨a1, a2⟩ := a
    have e' : (a1 : Int) = p ∧ (a2 : Int) = i := by simpa [mvD, PyData.eqv, PyData.eqvAll] using e
    obtain ⟨e1, e2⟩ := e'
    refine ⟨by omega, by omega, ?_⟩
    rw [show p.toNat = a1 by omega, show i.toNat = a2 by omega]
    exact ha
  · rintro ⟨p0, i0, h⟩
    refine ⟨_, List.mem_map.mpr ⟨_, h, rfl⟩, ?_⟩
    simp [mvD, PyData.eqv, PyData.eqvAll]
    omega
theorem mem_fitZ {ds : List RD} {z : Str} {p i : Int} (i0 : 0 ≤ i) (i1 : i < (ds.length : Int)) : decide (0 ≤ p ∧ 0 ≤ i ∧ (p.toNat, i.toNat) ∈ movesN ds z) = fitZ ds z p i := by
  obtain ⟨d, hd⟩ : ∃ d, ds[i.toNat]? = some d := ⟨_, List.getElem?_eq_getElem (by omega)⟩
  rw [Bool.eq_iff_iff, decide_eq_true_iff]
  unfold fitZ
  rw [hd]
  dsimp only
  constructor
  · rintro ⟨p0, _, h⟩
    obtain ⟨_, _, f⟩ := mem_moves.mp h
    unfold fitI at f
    dsimp only at f
    rw [hd] at f
    dsimp only at f
    unfold fN at f
    rw [show ((p.toNat : Nat) : Int) = p by omega] at f
    exact f
  · intro f
    obtain ⟨p0, pz⟩ := fit_bounds f
    refine ⟨p0, i0, mem_moves.mpr ⟨by dsimp only; omega, by dsimp only; omega, ?_⟩⟩
    unfold fitI
    dsimp only
    rw [hd]
    dsimp only
    unfold fN
    rw [show ((p.toNat : Nat) : Int) = p by omega]
    exact f
def prtBad (a : Prt) : Bool := (prtOk a).isNone
theorem prts_bad (ps : List Prt) : (moveOf (.tup ps)).isNone = true ∨ (∃ p i, ps = [.int p, .int i]) := by
  match ps with
  | [] => exact .inl rfl
  | [a] => cases a <;> exact .inl rfl
  | [a, b] => cases a <;> cases b <;> first | exact .inl rfl | exact .inr ⟨_, _, rfl⟩
  | a :: b :: c :: r => cases a <;> cases b <;> exact .inl rfl
theorem dpPrt {K : PySem.W.Frag} {H : Hp} (a : Prt) : Dp K H (prtV a) (prtD a) := by
  cases a with
  | non => exact .non
  | int i => exact .int _
  | bl b => exact .bl _
  | text => exact .str _
theorem dpPrts {K : PySem.W.Frag} {H : Hp} : ∀ ps : List Prt, DpAll K H (ps.map prtV) (ps.map prtD)
  | [] => .nil
  | a :: r => .cons (dpPrt a) (dpPrts r)
theorem layPrts : ∀ ps : List Prt, PyData.canLayAll0 (ps.map prtD) = true ∧ PyData.depthAll (ps.map prtD) = 0
  | [] => ⟨rfl, rfl⟩
  | a :: r => by
    obtain ⟨h1, h2⟩ := layPrts r
    have a1 : (prtD a).canLay0 = true ∧ (prtD a).depth = 0 := by cases a <;> first | exact ⟨rfl, rfl⟩ | exact ⟨by decide +kernel, by decide +kernel⟩
    refine ⟨by simp only [List.map_cons, PyData.canLayAll0, a1.1, h1, Bool.and_self], ?_⟩
    simp only [List.map_cons, PyData.depthAll, a1.2, h2]
    rfl
theorem shapedPrts (ps : List Prt) : SeqAt.shaped (.list (ps.map prtD)) = true := by
  obtain ⟨a, b⟩ := layPrts ps
  show (PyData.canLayAll0 (ps.map prtD) && decide (PyData.depthAll (ps.map prtD) + 1 ≤ 64)) = true
  rw [a, b]
  rfl
theorem eqv_prts (ps : List Prt) : PyData.eqv (.list (ps.map prtD)) (.list []) = ps.isEmpty := by
  cases ps with
  | nil => rfl
  | cons a t => rfl
def spMDue : Sp := fun vs H Q _ => ∃ (p F : Addr) (ds : List RD) (z : Str) (v : V) (d : Deed), vs = [.ref F, .str z, v] ∧ DeedAt p H v d ∧ ItsOf H F (ds.map .rule) ∧ (∀ d ∈ ds, 1 ≤ d.1.length ∧ d.1.length ≤ 4) ∧ ds.length ≤ 8 ∧ z.length ≤ 1000 ∧ ∀ H', Same H H' → Q (optS (dueK ds z d)) H'
section
variable {P : Program} {w : World} {K : PySem.W.Frag} {mg : Str → Option Value} {base : Heap}
abbrev nMDue : List Str := ["_law_rules_here", "_law_there", "_law_deed", "_law_part"]
theorem scMDue : FnScope nMDue ["_law_rules_here", "_law_there", "_law_deed"] (defScope sMDue) := ⟨rfl, rfl, rfl, by decide +kernel, rfl, by decide +kernel, by decide +kernel⟩
theorem ok_mDue {f f1 : Addr} {fd fd1 : FuncData} (F : L2.Fun K "_law_move_due" "_law_move_due" sMDue f fd) (T : Txt mg) (mB : mg "bool" = none)
    (G1 : FnOk P w K mg base CX0 2 f1 fd1 ["_law_rules_here", "_law_there"] spLMoves) (m1 : mg "_law_moves" = some (.ref f1)) (k1 : PySem.W.keepIn K (.ref f1) = true) (b1 : L2.Binds K fd1 ["_law_rules_here", "_law_there"] []) :
    FnOk P w K mg base CX0 3 f fd ["_law_rules_here", "_law_there", "_law_deed"] spMDue := by
  refine F.ok scMDue (fun vs H Q E h => ?_) (fun cdv A outer s H vs Q E hr h => ?_)
  · obtain ⟨p, F, ds, z, v, d, rfl, _⟩ := h
    rfl
  · obtain ⟨p, F, ds, z, v, d, rfl, dat, its, o14, d8, zl, k⟩ := h
    have nd := scMDue.nd
    have hu65 := room65 hr
    refine ⟨_, (pss_cons (ps_if (PW.pt (pw_or (pt_not (pt_val (bIsi (by rfl) T.isi (pv 2) (pe_bltn (v := .ty "tuple") (by rfl) T.tuple (by decide +kernel) rfl)))) (pw_or1 (pt_cmpR op_ne (bLen (by rfl) T.len (pv 2)) pe_int (nomark _))))) (pss_one (ps_ret pe_str)) pss_nil)
      (pss_cons (ps_if (pt_cmpR (op_neD hr.units) (pe_lc (own := [("_law_part", 3)]) (g := gName 3) (tt := tOr (tNot (tB (tCB (rIsi K) (tCons (tVar 3) (tCons (tC (.ty "int")) tNil))))) (tB (tCB (rIsi K) (tCons (tVar 3) (tCons (tC (.ty "bool")) tNil))))) (te := tVar 3) rfl nd (pi_tup (pv 2)) (blkOk_by (own := [("_law_part", 3)]) (N := nMDue) (sc := defScope sMDue) (by decide +kernel)) (fun _ _ _ _ _ => (pg_name (i := 3) nd rfl (Or.inl rfl))) (fun _ _ _ _ _ => pts_one (PW.pt (pw_or (pt_not (pt_val (bIsi (by rfl) T.isi (pv 3) (pe_bltn (v := .ty "int") (by rfl) T.int (by decide +kernel) rfl)))) (pw_or1 (pt_val (bIsi (by rfl) T.isi (pv 3) (pe_bltn (v := .ty "bool") (by rfl) mB (by decide +kernel) rfl))))))) (fun _ _ _ _ _ => (pv 3))) (pe_lst pa_nil) (nomark _)) (pss_one (ps_ret pe_str)) pss_nil)
      (pss_cons (ps_if (pt_not (pt_chain op_le op_lt pe_int (bIxT (pv 2) pe_int) (bLen (by rfl) T.len (pv 0)))) (pss_one (ps_ret pe_str)) pss_nil)
      (pss_one (ps_ret (pe_ifExp (pt_cmpR (op_inD hu65) (pv 2) (pe_call G1 hr (by rfl) m1 k1 b1 .nil pass0 (pa_cons (pv 0) (pa_cons (pv 1) pa_nil))) rfl) pe_non pe_str)))))), ?_⟩
    have form : ∀ H', Same H H' → moveOf d = none → Q (.str "form") H' := fun H' s e => by
      have := k H' s
      unfold dueK at this
      rw [e] at this
      exact this
    obtain ⟨xs, hF, at_⟩ := its
    have xl := at_.1
    rw [List.length_map] at xl
    cases d with
    | non => cases dat; exact ⟨_, rfl, .non, .ty "tuple", _, _, false, rfl, .ty "tuple", .base .non, kit_ty (by decide +kernel), false, rfl, iteT (iteT (form H (Same.refl H) rfl))⟩
    | five => cases dat; exact ⟨_, rfl, .int 5, .ty "tuple", _, _, false, rfl, .ty "tuple", .base (.int _), kit_ty (by decide +kernel), false, rfl, iteT (iteT (form H (Same.refl H) rfl))⟩
    | text => cases dat; exact ⟨_, rfl, .str "00", .ty "tuple", _, _, false, rfl, .ty "tuple", .base (.str _), kit_ty (by decide +kernel), false, rfl, iteT (iteT (form H (Same.refl H) rfl))⟩
    | list => obtain ⟨l, rfl, _, hl⟩ := dat; exact ⟨_, rfl, .ref l, .ty "tuple", _, _, false, rfl, .ty "tuple", .base (.lst hl), kit_ty (by decide +kernel), false, rfl, iteT (iteT (form H (Same.refl H) rfl))⟩
    | tup ps =>
      obtain ⟨t, rfl, ht⟩ := dat
      refine ⟨_, rfl, .ref t, .ty "tuple", _, _, true, rfl, .ty "tuple", .base (.tup ht), kit_ty (by decide +kernel), true, rfl, iteF ?_⟩
      refine ⟨_, rfl, _, ps.length, rfl, .inr ⟨_, SqT.of ht, (List.length_map _).symm⟩, rfl, _, rfl, ?_⟩
      by_cases l2 : ps.length = 2
      · rw [decide_eq_true (show V.int ((ps.length : Nat) : Int) = V.int 2 by rw [l2]; rfl)]
        obtain ⟨a, b, rfl⟩ : ∃ a b, ps = [a, b] := by
          match ps, l2 with
          | [a, b], _ => exact ⟨a, b, rfl⟩
        refine iteF ⟨_, rfl, t, rfl, ⟨_, SqT.of ht⟩, fun D hD => ?_⟩
        refine lcSel walk_tup (fun i H' acc => Same H H' ∧ acc = (([a, b].take i).filter prtBad).map prtV) (by show 2 < sizeLine; decide) ⟨Same.new hD, rfl⟩ (fun i H' acc _ q => SqT.of (q.1 _ _ ht)) (fun _ _ _ _ y => y.1) ?_ ?_
        · rintro i x H' acc Q' Qf hi hDl hla ⟨s1, rfl⟩ ⟨_, hx⟩ hq hf
          have hi' : i < [a, b].length := hi
          obtain ⟨e, he⟩ : ∃ e, [a, b][i]? = some e := ⟨_, List.getElem?_eq_getElem hi'⟩
          obtain rfl : x = prtV e := by
            rw [List.getElem?_map, he] at hx
            exact (Option.some.inj hx).symm
          have yes : prtBad e = true → Q' (prtV e) H' := fun pb => hq _ _ hDl ⟨Same.putNew hD s1, by rw [List.take_add_one, he, List.filter_append, List.map_append, Option.toList_some, List.filter_cons_of_pos pb]; rfl⟩
          have no : prtBad e = false → Qf H' := fun pb => hf _ hDl ⟨s1, by rw [List.take_add_one, he, List.filter_append, List.map_append, Option.toList_some, List.filter_cons_of_neg (by rw [pb]; exact Bool.false_ne_true), List.filter_nil, List.map_nil, List.append_nil]⟩
          cases e with
          | int j => exact ⟨_, rfl, _, .ty "int", _, _, true, rfl, .ty "int", .base (.int j), kit_ty (by decide +kernel), true, rfl, iteF ⟨_, rfl, _, .ty "bool", _, _, false, rfl, .ty "bool", .base (.int j), kit_ty (by decide +kernel), false, rfl, iteF (no rfl)⟩⟩
          | bl c => exact ⟨_, rfl, _, .ty "int", _, _, true, rfl, .ty "int", .base (.bl c), kit_ty (by decide +kernel), true, rfl, iteF ⟨_, rfl, _, .ty "bool", _, _, true, rfl, .ty "bool", .base (.bl c), kit_ty (by decide +kernel), true, rfl, iteT ⟨_, rfl, yes rfl⟩⟩⟩
          | non => exact ⟨_, rfl, _, .ty "int", _, _, false, rfl, .ty "int", .base .non, kit_ty (by decide +kernel), false, rfl, iteT (iteT ⟨_, rfl, yes rfl⟩)⟩
          | text => exact ⟨_, rfl, _, .ty "int", _, _, false, rfl, .ty "int", .base (.str _), kit_ty (by decide +kernel), false, rfl, iteT (iteT ⟨_, rfl, yes rfl⟩)⟩
        · rintro H1 acc hD1 hla ⟨s1, rfl⟩
          refine ⟨Nat.zero_le _, fun q hq => ?_⟩
          have s2 : Same H1 (upd H1 q (.lst [])) := Same.new hq
          have e2 : upd H1 q (.lst []) q = some (.lst []) := upd_same
          generalize upd H1 q (.lst []) = H2 at s2 e2 ⊢
          have s12 := Same.trans s1 s2
          have ht2 := s12 _ _ ht
          refine ⟨.list ((([a, b].take 2).filter prtBad).map prtD), .list [], .lst (SqL.of (s2 _ _ hD1)) (dpPrts _), .lst (SqL.of e2) .nil, shapedPrts _, rfl, _, rfl, ?_⟩
          rw [eqv_prts]
          rcases prts_bad [a, b] with hn | ⟨pp, i, ep⟩
          · have fe : (([a, b].take 2).filter prtBad).isEmpty = false := by
              cases a <;> cases b <;> first | rfl | (exact absurd hn (by simp [moveOf]))
            rw [fe]
            exact iteT (form H2 s12 (Option.isNone_iff_eq_none.mp hn))
          · cases ep
            have fe : (([Prt.int pp, Prt.int i].take 2).filter prtBad).isEmpty = true := rfl
            rw [fe]
            refine iteF ⟨_, rfl, t, _, 1, .int i, rfl, rfl, SqT.of ht2, rfl, _, _, rfl, rfl, _, rfl, ?_⟩
            have kk : Q (optS (if 0 ≤ i ∧ i < (ds.length : Int) then (if fitZ ds z pp i = true then none else some "place") else some "rule")) H2 := k H2 s12
            by_cases i0 : 0 ≤ i
            · rw [decide_eq_true i0]
              refine iteT ⟨_, rfl, _, ds.length, rfl, .inl ⟨_, SqL.of (s12 _ _ hF), xl.symm⟩, _, _, rfl, rfl, _, rfl, ?_⟩
              by_cases i1 : i < (ds.length : Int)
              · rw [decide_eq_true i1]
                rw [if_pos ⟨i0, i1⟩] at kk
                refine iteF ⟨_, rfl, _, rfl, _, rfl, F, ds, z, rfl, ⟨xs, s12 _ _ hF, at_.same s12⟩, o14, d8, zl, fun q2 H3 s3 nq mv => ?_⟩
                obtain ⟨ms, hq2, tw⟩ := mv
                have kk3 := k H3 (Same.trans s12 s3)
                refine ⟨.tuple [.int pp, .int i], (movesN ds z).map mvD, .tup (SqT.of (s3 _ _ ht2)) (.cons (.int _) (.cons (.int _) .nil)), .lst (SqL.of hq2) (dp_tws tw), ?_, shaped_mvs _, _, rfl, ?_⟩
                · simp [SeqAt.shaped, PyData.canLay0, PyData.canLayAll0, PyData.depth, PyData.depthAll]
                · rw [any_mv, mem_fitZ i0 i1]
                  have kk3 : Q (optS (if 0 ≤ i ∧ i < (ds.length : Int) then (if fitZ ds z pp i = true then none else some "place") else some "rule")) H3 := kk3
                  rw [if_pos ⟨i0, i1⟩] at kk3
                  cases e : fitZ ds z pp i with
                  | true =>
                    rw [if_pos e] at kk3
                    exact iteT kk3
                  | false =>
                    rw [if_neg (by rw [e]; exact Bool.false_ne_true)] at kk3
                    exact iteF kk3
              · rw [decide_eq_false i1]
                rw [if_neg (fun h => i1 h.2)] at kk
                exact iteT kk
            · rw [decide_eq_false i0]
              rw [if_neg (fun h => i0 h.1)] at kk
              exact iteF ⟨_, rfl, iteT kk⟩
      · rw [decide_eq_false (show ¬ V.int ((ps.length : Nat) : Int) = V.int 2 from fun e => l2 (by have := V.int.inj e; omega))]
        refine iteT (form H (Same.refl H) ?_)
        rcases prts_bad ps with hn | ⟨pp, i, rfl⟩
        · exact Option.isNone_iff_eq_none.mp hn
        · exact absurd rfl l2
end
end Kx
set_option Elab.async false
set_option maxRecDepth 100000
set_option autoImplicit false
set_option pp.maxSteps 400
set_option pp.deepTerms false
/-! _law_odd_moves -/
namespace Kx
open PySem L2 PySem.Spec PyProof.Rows Rg Er Ru Tn LamX ClX
abbrev sOdd : Stmt := top 57
def spOdd : Sp := fun vs H Q _ => ∃ (c p : Addr) (n : Nat) (z : Str), vs = [.ref p, .str z] ∧ n ≤ 700000 ∧ PenAt c n H p ∧ z.length ≤ 1000 ∧ ∀ (F : Addr) H' (xs : List V) (dd : List Deed), F ≠ p → H' F = some (.lst xs) → DdsAt p H' xs dd → dd.length ≤ 100 → Ink c p (n + 2) H H' → Q (.ref F) H'
section
variable {P : Program} {w : World} {K : PySem.W.Frag} {mg : Str → Option Value} {base : Heap}
abbrev nOdd : List Str := ["_law_pen_here", "_law_there", "_law_place", "_law_k", "_law_found"]
theorem scOdd : FnScope nOdd ["_law_pen_here", "_law_there"] (defScope sOdd) := ⟨rfl, rfl, rfl, by decide +kernel, rfl, by decide +kernel, by decide +kernel⟩
theorem ok_odd {f f1 : Addr} {fd fd1 : FuncData} (F : L2.Fun K "_law_odd_moves" "_law_odd_moves" sOdd f fd) (T : Txt mg)
    (G1 : FnOk P w K mg base CX0 1 f1 fd1 ["_law_pen_here", "_law_many"] spDraw) (m1 : mg "_law_draw" = some (.ref f1)) (k1 : PySem.W.keepIn K (.ref f1) = true) (b1 : L2.Binds K fd1 ["_law_pen_here", "_law_many"] []) :
    FnOk P w K mg base CX0 2 f fd ["_law_pen_here", "_law_there"] spOdd := by
  refine F.ok scOdd (fun vs H Q E h => ?_) (fun cdv A outer s H vs Q E hr h => ?_)
  · obtain ⟨c, p, n, z, rfl, _⟩ := h
    rfl
  · obtain ⟨c, p, n, z, rfl, nb, pen, zl, k⟩ := h
    have nd := scOdd.nd
    refine ⟨_, (pss_cons (ps_par (i := 2) (j := 3) (by rfl) nd rfl rfl (by decide) rfl rfl (pa_cons (pe_op op_sub (pe_call G1 hr (by rfl) m1 k1 b1 .nil pass0 (pa_cons (pv 0) (pa_cons (pe_op op_add (bLen (by rfl) T.len (pv 1)) pe_int) pa_nil))) pe_int) (pa_cons (pe_call G1 hr (by rfl) m1 k1 b1 .nil pass0 (pa_cons (pv 0) (pa_cons pe_int pa_nil))) pa_nil)) (by rfl))
      (pss_cons (ps_set (i := 4) nd rfl (.inl rfl) (pe_lst (pa_cons pe_non (pa_cons pe_int (pa_cons pe_str (pa_cons (pe_lst (pa_cons pe_int (pa_cons pe_int pa_nil))) (pa_cons (pe_tup (pa_cons pe_int pa_nil)) (pa_cons (pe_tup (pa_cons pe_int (pa_cons pe_int (pa_cons pe_int pa_nil)))) (pa_cons (pe_tup (pa_cons pe_bl (pa_cons pe_int pa_nil))) (pa_cons (pe_tup (pa_cons pe_int (pa_cons pe_bl pa_nil))) (pa_cons (pe_tup (pa_cons pe_str (pa_cons pe_int pa_nil))) (pa_cons (pe_tup (pa_cons (pv 2) (pa_cons pe_non pa_nil))) (pa_cons (pe_tup (pa_cons (pv 2) (pa_cons (pv 3) pa_nil))) pa_nil)))))))))))))
      (pss_one (ps_ret (pe_op op_cat (pv 4) (pe_lst (pa_cons (pe_tup (pa_cons (pv 2) (pa_cons (pe_op op_add (pv 3) pe_int) pa_nil))) (pa_cons (pe_tup (pa_cons (pv 2) (pa_cons (pe_un un_neg pe_int) pa_nil))) (pa_cons (pe_tup (pa_cons (pe_un un_neg pe_int) (pa_cons pe_int pa_nil))) (pa_cons (pe_tup (pa_cons (bLen (by rfl) T.len (pv 1)) (pa_cons pe_int pa_nil))) (pa_cons (pe_tup (pa_cons pe_int (pa_cons (pv 3) pa_nil))) (pa_cons (pe_tup (pa_cons (pe_op op_add (pv 2) pe_int) (pa_cons pe_int pa_nil))) pa_nil)))))))))))), ?_⟩
    refine ⟨_, rfl, _, rfl, _, z.length, rfl, ⟨len_small (by omega), rfl⟩, _, _, rfl, rfl, c, p, (z.length : Int) + 2, n, rfl, by omega, by omega, by omega, pen, fun r H1 r0 r1 pen1 x1 => ?_⟩
    refine ⟨_, _, rfl, rfl, ?_⟩
    refine ⟨_, rfl, c, p, 4, n + 1, rfl, by omega, by omega, by omega, pen1, fun kk H2 k0 k1 pen2 x2 => ?_⟩
    have ink : Ink c p (n + 1 + 1) H H2 := Ink.trans ⟨x1, pen1⟩ ⟨x2, pen2⟩
    clear x1 x2 pen1 pen2 r0 r1 k0 k1
    refine ⟨_, _, rfl, ?_⟩
    dsimp only
    generalize r - 1 = pl
    have a0 : DdsAt p H2 [.non, .int 5, .str "00"] [.non, .five, .text] := ((DdsAt.nil p H2).snoc (d := .non) rfl).snoc (d := .five) rfl |>.snoc (d := .text) rfl
    refine ⟨by show 2 ≤ sizeLine; decide, fun t1 ht => ?_⟩
    have tp := ink.2.ne1 ht
    have sn : Same H2 (upd H2 t1 (HO.lst [V.int 0, V.int 0])) := Same.new ht
    have en : upd H2 t1 (HO.lst [V.int 0, V.int 0]) t1 = some (HO.lst [V.int 0, V.int 0]) := upd_same
    have a1 : DdsAt p (upd H2 t1 (HO.lst [V.int 0, V.int 0])) [.non, .int 5, .str "00", .ref t1] [.non, .five, .text, .list] := (a0.same sn).snoc (d := .list) ⟨_, rfl, tp, en⟩
    replace ink := ink.same sn
    generalize upd H2 t1 (HO.lst [V.int 0, V.int 0]) = G1 at sn en a1 ink ⊢
    clear sn en ht tp
    clear a0
    refine ⟨by show 1 ≤ sizeLine; decide, fun t2 ht => ?_⟩
    have sn : Same G1 (upd G1 t2 (HO.tup [V.int 0])) := Same.new ht
    have en : upd G1 t2 (HO.tup [V.int 0]) t2 = some (HO.tup [V.int 0]) := upd_same
    have a2 : DdsAt p (upd G1 t2 (HO.tup [V.int 0])) [.non, .int 5, .str "00", .ref t1, .ref t2] [.non, .five, .text, .list, .tup [.int 0]] := (a1.same sn).snoc (d := .tup [.int 0]) ⟨_, rfl, en⟩
    replace ink := ink.same sn
    generalize upd G1 t2 (HO.tup [V.int 0]) = G2 at sn en a2 ink ⊢
    clear sn en ht
    clear a1
    refine ⟨by show 3 ≤ sizeLine; decide, fun t3 ht => ?_⟩
    have sn : Same G2 (upd G2 t3 (HO.tup [V.int 0, V.int 0, V.int 0])) := Same.new ht
    have en : upd G2 t3 (HO.tup [V.int 0, V.int 0, V.int 0]) t3 = some (HO.tup [V.int 0, V.int 0, V.int 0]) := upd_same
    have a3 : DdsAt p (upd G2 t3 (HO.tup [V.int 0, V.int 0, V.int 0])) [.non, .int 5, .str "00", .ref t1, .ref t2, .ref t3] [.non, .five, .text, .list, .tup [.int 0], .tup [.int 0, .int 0, .int 0]] := (a2.same sn).snoc (d := .tup [.int 0, .int 0, .int 0]) ⟨_, rfl, en⟩
    replace ink := ink.same sn
    generalize upd G2 t3 (HO.tup [V.int 0, V.int 0, V.int 0]) = G3 at sn en a3 ink ⊢
    clear sn en ht
    clear a2
    refine ⟨by show 2 ≤ sizeLine; decide, fun t4 ht => ?_⟩
    have sn : Same G3 (upd G3 t4 (HO.tup [V.bl true, V.int 0])) := Same.new ht
    have en : upd G3 t4 (HO.tup [V.bl true, V.int 0]) t4 = some (HO.tup [V.bl true, V.int 0]) := upd_same
    have a4 : DdsAt p (upd G3 t4 (HO.tup [V.bl true, V.int 0])) [.non, .int 5, .str "00", .ref t1, .ref t2, .ref t3, .ref t4] [.non, .five, .text, .list, .tup [.int 0], .tup [.int 0, .int 0, .int 0], .tup [.bl true, .int 0]] := (a3.same sn).snoc (d := .tup [.bl true, .int 0]) ⟨_, rfl, en⟩
    replace ink := ink.same sn
    generalize upd G3 t4 (HO.tup [V.bl true, V.int 0]) = G4 at sn en a4 ink ⊢
    clear sn en ht
    clear a3
    refine ⟨by show 2 ≤ sizeLine; decide, fun t5 ht => ?_⟩
    have sn : Same G4 (upd G4 t5 (HO.tup [V.int 0, V.bl false])) := Same.new ht
    have en : upd G4 t5 (HO.tup [V.int 0, V.bl false]) t5 = some (HO.tup [V.int 0, V.bl false]) := upd_same
    have a5 : DdsAt p (upd G4 t5 (HO.tup [V.int 0, V.bl false])) [.non, .int 5, .str "00", .ref t1, .ref t2, .ref t3, .ref t4, .ref t5] [.non, .five, .text, .list, .tup [.int 0], .tup [.int 0, .int 0, .int 0], .tup [.bl true, .int 0], .tup [.int 0, .bl false]] := (a4.same sn).snoc (d := .tup [.int 0, .bl false]) ⟨_, rfl, en⟩
    replace ink := ink.same sn
    generalize upd G4 t5 (HO.tup [V.int 0, V.bl false]) = G5 at sn en a5 ink ⊢
    clear sn en ht
    clear a4
    refine ⟨by show 2 ≤ sizeLine; decide, fun t6 ht => ?_⟩
    have sn : Same G5 (upd G5 t6 (HO.tup [V.str "0", V.int 0])) := Same.new ht
    have en : upd G5 t6 (HO.tup [V.str "0", V.int 0]) t6 = some (HO.tup [V.str "0", V.int 0]) := upd_same
    have a6 : DdsAt p (upd G5 t6 (HO.tup [V.str "0", V.int 0])) [.non, .int 5, .str "00", .ref t1, .ref t2, .ref t3, .ref t4, .ref t5, .ref t6] [.non, .five, .text, .list, .tup [.int 0], .tup [.int 0, .int 0, .int 0], .tup [.bl true, .int 0], .tup [.int 0, .bl false], .tup [.text, .int 0]] := (a5.same sn).snoc (d := .tup [.text, .int 0]) ⟨_, rfl, en⟩
    replace ink := ink.same sn
    generalize upd G5 t6 (HO.tup [V.str "0", V.int 0]) = G6 at sn en a6 ink ⊢
    clear sn en ht
    clear a5
    refine ⟨_, rfl, by show 2 ≤ sizeLine; decide, fun t7 ht => ?_⟩
    have sn : Same G6 (upd G6 t7 (HO.tup [V.int pl, V.non])) := Same.new ht
    have en : upd G6 t7 (HO.tup [V.int pl, V.non]) t7 = some (HO.tup [V.int pl, V.non]) := upd_same
    have a7 : DdsAt p (upd G6 t7 (HO.tup [V.int pl, V.non])) [.non, .int 5, .str "00", .ref t1, .ref t2, .ref t3, .ref t4, .ref t5, .ref t6, .ref t7] [.non, .five, .text, .list, .tup [.int 0], .tup [.int 0, .int 0, .int 0], .tup [.bl true, .int 0], .tup [.int 0, .bl false], .tup [.text, .int 0], .tup [.int pl, .non]] := (a6.same sn).snoc (d := .tup [.int pl, .non]) ⟨_, rfl, en⟩
    replace ink := ink.same sn
    generalize upd G6 t7 (HO.tup [V.int pl, V.non]) = G7 at sn en a7 ink ⊢
    clear sn en ht
    clear a6
    refine ⟨_, rfl, _, rfl, by show 2 ≤ sizeLine; decide, fun t8 ht => ?_⟩
    have sn : Same G7 (upd G7 t8 (HO.tup [V.int pl, V.int kk])) := Same.new ht
    have en : upd G7 t8 (HO.tup [V.int pl, V.int kk]) t8 = some (HO.tup [V.int pl, V.int kk]) := upd_same
    have a8 : DdsAt p (upd G7 t8 (HO.tup [V.int pl, V.int kk])) [.non, .int 5, .str "00", .ref t1, .ref t2, .ref t3, .ref t4, .ref t5, .ref t6, .ref t7, .ref t8] [.non, .five, .text, .list, .tup [.int 0], .tup [.int 0, .int 0, .int 0], .tup [.bl true, .int 0], .tup [.int 0, .bl false], .tup [.text, .int 0], .tup [.int pl, .non], .tup [.int pl, .int kk]] := (a7.same sn).snoc (d := .tup [.int pl, .int kk]) ⟨_, rfl, en⟩
    replace ink := ink.same sn
    generalize upd G7 t8 (HO.tup [V.int pl, V.int kk]) = G8 at sn en a8 ink ⊢
    clear sn en ht
    clear a7
    refine ⟨by show 11 ≤ sizeLine; decide, fun l1 ht => ?_⟩
    have lp := ink.2.ne1 ht
    have sn : Same G8 (upd G8 l1 (.lst [.non, .int 5, .str "00", .ref t1, .ref t2, .ref t3, .ref t4, .ref t5, .ref t6, .ref t7, .ref t8])) := Same.new ht
    have el : upd G8 l1 (.lst [.non, .int 5, .str "00", .ref t1, .ref t2, .ref t3, .ref t4, .ref t5, .ref t6, .ref t7, .ref t8]) l1 = some (.lst [.non, .int 5, .str "00", .ref t1, .ref t2, .ref t3, .ref t4, .ref t5, .ref t6, .ref t7, .ref t8]) := upd_same
    replace a8 := a8.same sn
    replace ink := ink.same sn
    generalize upd G8 l1 (.lst [.non, .int 5, .str "00", .ref t1, .ref t2, .ref t3, .ref t4, .ref t5, .ref t6, .ref t7, .ref t8]) = G0 at sn el a8 ink ⊢
    clear sn ht
    refine ⟨_, rfl, ?_⟩
    refine ⟨_, rfl, _, rfl, _, _, rfl, rfl, by show 2 ≤ sizeLine; decide, fun t9 ht => ?_⟩
    have sn : Same G0 (upd G0 t9 (HO.tup [V.int pl, V.int (kk + 1)])) := Same.new ht
    have en : upd G0 t9 (HO.tup [V.int pl, V.int (kk + 1)]) t9 = some (HO.tup [V.int pl, V.int (kk + 1)]) := upd_same
    have a9 : DdsAt p (upd G0 t9 (HO.tup [V.int pl, V.int (kk + 1)])) [.ref t9] [.tup [.int pl, .int (kk + 1)]] := (DdsAt.nil p _).snoc (d := .tup [.int pl, .int (kk + 1)]) ⟨_, rfl, en⟩
    replace ink := ink.same sn
    replace el := sn _ _ el
    replace a8 := a8.same sn
    generalize upd G0 t9 (HO.tup [V.int pl, V.int (kk + 1)]) = G9 at sn en a9 ink el a8 ⊢
    clear sn en ht
    refine ⟨_, rfl, _, rfl, by show 2 ≤ sizeLine; decide, fun t10 ht => ?_⟩
    have sn : Same G9 (upd G9 t10 (HO.tup [V.int pl, V.int (-1)])) := Same.new ht
    have en : upd G9 t10 (HO.tup [V.int pl, V.int (-1)]) t10 = some (HO.tup [V.int pl, V.int (-1)]) := upd_same
    have a10 : DdsAt p (upd G9 t10 (HO.tup [V.int pl, V.int (-1)])) [.ref t9, .ref t10] [.tup [.int pl, .int (kk + 1)], .tup [.int pl, .int (-1)]] := (a9.same sn).snoc (d := .tup [.int pl, .int (-1)]) ⟨_, rfl, en⟩
    replace ink := ink.same sn
    replace el := sn _ _ el
    replace a8 := a8.same sn
    generalize upd G9 t10 (HO.tup [V.int pl, V.int (-1)]) = G10 at sn en a10 ink el a8 ⊢
    clear sn en ht
    clear a9
    refine ⟨_, rfl, by show 2 ≤ sizeLine; decide, fun t11 ht => ?_⟩
    have sn : Same G10 (upd G10 t11 (HO.tup [V.int (-1), V.int 0])) := Same.new ht
    have en : upd G10 t11 (HO.tup [V.int (-1), V.int 0]) t11 = some (HO.tup [V.int (-1), V.int 0]) := upd_same
    have a11 : DdsAt p (upd G10 t11 (HO.tup [V.int (-1), V.int 0])) [.ref t9, .ref t10, .ref t11] [.tup [.int pl, .int (kk + 1)], .tup [.int pl, .int (-1)], .tup [.int (-1), .int 0]] := (a10.same sn).snoc (d := .tup [.int (-1), .int 0]) ⟨_, rfl, en⟩
    replace ink := ink.same sn
    replace el := sn _ _ el
    replace a8 := a8.same sn
    generalize upd G10 t11 (HO.tup [V.int (-1), V.int 0]) = G11 at sn en a11 ink el a8 ⊢
    clear sn en ht
    clear a10
    refine ⟨_, rfl, _, z.length, rfl, ⟨len_small (by omega), rfl⟩, by show 2 ≤ sizeLine; decide, fun t12 ht => ?_⟩
    have sn : Same G11 (upd G11 t12 (HO.tup [V.int (z.length : Int), V.int 0])) := Same.new ht
    have en : upd G11 t12 (HO.tup [V.int (z.length : Int), V.int 0]) t12 = some (HO.tup [V.int (z.length : Int), V.int 0]) := upd_same
    have a12 : DdsAt p (upd G11 t12 (HO.tup [V.int (z.length : Int), V.int 0])) [.ref t9, .ref t10, .ref t11, .ref t12] [.tup [.int pl, .int (kk + 1)], .tup [.int pl, .int (-1)], .tup [.int (-1), .int 0], .tup [.int (z.length : Int), .int 0]] := (a11.same sn).snoc (d := .tup [.int (z.length : Int), .int 0]) ⟨_, rfl, en⟩
    replace ink := ink.same sn
    replace el := sn _ _ el
    replace a8 := a8.same sn
    generalize upd G11 t12 (HO.tup [V.int (z.length : Int), V.int 0]) = G12 at sn en a12 ink el a8 ⊢
    clear sn en ht
    clear a11
    refine ⟨_, rfl, by show 2 ≤ sizeLine; decide, fun t13 ht => ?_⟩
    have sn : Same G12 (upd G12 t13 (HO.tup [V.int 0, V.int kk])) := Same.new ht
    have en : upd G12 t13 (HO.tup [V.int 0, V.int kk]) t13 = some (HO.tup [V.int 0, V.int kk]) := upd_same
    have a13 : DdsAt p (upd G12 t13 (HO.tup [V.int 0, V.int kk])) [.ref t9, .ref t10, .ref t11, .ref t12, .ref t13] [.tup [.int pl, .int (kk + 1)], .tup [.int pl, .int (-1)], .tup [.int (-1), .int 0], .tup [.int (z.length : Int), .int 0], .tup [.int 0, .int kk]] := (a12.same sn).snoc (d := .tup [.int 0, .int kk]) ⟨_, rfl, en⟩
    replace ink := ink.same sn
    replace el := sn _ _ el
    replace a8 := a8.same sn
    generalize upd G12 t13 (HO.tup [V.int 0, V.int kk]) = G13 at sn en a13 ink el a8 ⊢
    clear sn en ht
    clear a12
    refine ⟨_, rfl, _, _, rfl, rfl, by show 2 ≤ sizeLine; decide, fun t14 ht => ?_⟩
    have sn : Same G13 (upd G13 t14 (HO.tup [V.int (pl + 1), V.int 0])) := Same.new ht
    have en : upd G13 t14 (HO.tup [V.int (pl + 1), V.int 0]) t14 = some (HO.tup [V.int (pl + 1), V.int 0]) := upd_same
    have a14 : DdsAt p (upd G13 t14 (HO.tup [V.int (pl + 1), V.int 0])) [.ref t9, .ref t10, .ref t11, .ref t12, .ref t13, .ref t14] [.tup [.int pl, .int (kk + 1)], .tup [.int pl, .int (-1)], .tup [.int (-1), .int 0], .tup [.int (z.length : Int), .int 0], .tup [.int 0, .int kk], .tup [.int (pl + 1), .int 0]] := (a13.same sn).snoc (d := .tup [.int (pl + 1), .int 0]) ⟨_, rfl, en⟩
    replace ink := ink.same sn
    replace el := sn _ _ el
    replace a8 := a8.same sn
    generalize upd G13 t14 (HO.tup [V.int (pl + 1), V.int 0]) = G14 at sn en a14 ink el a8 ⊢
    clear sn en ht
    clear a13
    refine ⟨by show 6 ≤ sizeLine; decide, fun l2 ht => ?_⟩
    have sn : Same G14 (upd G14 l2 (.lst [.ref t9, .ref t10, .ref t11, .ref t12, .ref t13, .ref t14])) := Same.new ht
    have e2 : upd G14 l2 (.lst [.ref t9, .ref t10, .ref t11, .ref t12, .ref t13, .ref t14]) l2 = some (.lst [.ref t9, .ref t10, .ref t11, .ref t12, .ref t13, .ref t14]) := upd_same
    replace el := sn _ _ el
    replace a8 := a8.same sn
    replace a14 := a14.same sn
    replace ink := ink.same sn
    generalize upd G14 l2 (.lst [.ref t9, .ref t10, .ref t11, .ref t12, .ref t13, .ref t14]) = G7 at sn el e2 a8 a14 ink ⊢
    refine ⟨l1, l2, _, _, rfl, rfl, el, e2, by show 11 + 6 ≤ sizeLine; decide, fun l3 h3 => ?_⟩
    exact k l3 _ _ _ (ink.2.ne1 h3) upd_same ((a8.same (Same.new h3)).app (a14.same (Same.new h3))) (by show 17 ≤ 100; decide) ((ink.same (Same.new h3)).mono (by omega))
end
end Kx
set_option Elab.async false
set_option maxRecDepth 100000
set_option autoImplicit false
set_option pp.maxSteps 400
set_option pp.deepTerms false
/-! what _law_right and _law_refused need -/
namespace Kx
open PySem L2 PySem.Spec PyProof.Rows Rg Er Ru Tn LamX ClX
/-- what holds of tuples and instances is kept -/
structure Kp (H H' : Hp) : Prop where
  t : ∀ b ys, H b = some (.tup ys) → H' b = some (.tup ys)
  i : ∀ b c dx fs, H b = some (.ins c dx fs) → H' b = some (.ins c dx fs)
theorem Kp.put {H : Hp} {l : Addr} {xs ys : List V} (hl : H l = some (.lst xs)) : Kp H (upd H l (.lst ys)) := by
  refine ⟨fun b zs h => ?_, fun b c dx fs h => ?_⟩
  · rw [upd_ne]
    · exact h
    · rintro rfl; rw [h] at hl; cases hl
  · rw [upd_ne]
    · exact h
    · rintro rfl; rw [h] at hl; cases hl
theorem Kp.gr {T : List (Addr × Str)} {c p : Addr} {n m : Nat} {H H' : Hp} (pen : PenAt c n H p) (g : Gr T c p m H H') : Kp H H' := ⟨fun _ _ h => g.at_ h (pen.neO h fun _ z => nomatch z), fun _ _ _ _ h => g.at_ h (pen.neO h fun _ z => nomatch z)⟩
theorem ItAt.kp {H H' : Hp} {v : V} {it : Itm} (h : ItAt H v it) (e : Kp H H') : ItAt H' v it := by
  cases it with
  | non => exact h
  | text => exact h
  | seven => exact h
  | empty => obtain ⟨t, rfl, h⟩ := h; exact ⟨t, rfl, e.t _ _ h⟩
  | rule d => obtain ⟨t, rfl, h⟩ := h; exact ⟨t, rfl, e.t _ _ h⟩
theorem RlD.kp {C a : Addr} {H H' : Hp} {d : RD} (h : RlD C H a d) (e : Kp H H') : RlD C H' a d := by
  obtain ⟨⟨dx, h1⟩, h2⟩ := h
  exact ⟨⟨dx, e.i _ _ _ _ h1⟩, h2⟩
theorem ItsOf.gr {T : List (Addr × Str)} {c p F : Addr} {n m : Nat} {H H' : Hp} {is : List Itm} (h : ItsOf H F is) (pen : PenAt c n H p) (Fp : F ≠ p) (g : Gr T c p m H H') : ItsOf H' F is := by
  obtain ⟨xs, h1, h2⟩ := h
  exact ⟨xs, g.at_ h1 Fp, h2.mono fun _ _ q => q.kp (Kp.gr pen g)⟩
theorem PairsOf.gr {T : List (Addr × Str)} {c p L : Addr} {n m : Nat} {H H' : Hp} {es : List (Nat × Int)} (h : PairsOf H L es) (pen : PenAt c n H p) (Lp : L ≠ p) (g : Gr T c p m H H') : PairsOf H' L es := by
  obtain ⟨xs, h1, h2, h3⟩ := h
  exact ⟨xs, g.at_ h1 Lp, h2.gr g pen, h3⟩
theorem Bk.gr {T : List (Addr × Str)} {c p C CW CR b : Addr} {n m : Nat} {H H' : Hp} {es : List (Nat × Int)} {rs : List RD} (h : Bk C CW CR H b es rs) (pen : PenAt c n H p) (g : Gr T c p m H H') : Bk C CW CR H' b es rs := by
  obtain ⟨dx, q, r, xs, ys, h1, h2, h3, h4⟩ := h
  have kp := Kp.gr pen g
  exact ⟨dx, q, r, xs, ys, kp.i _ _ _ _ h1, h2.gr g pen, kp.t _ _ h3, h4.1, fun i d e => let ⟨a, x, y⟩ := h4.2 i d e; ⟨a, x, y.kp kp⟩⟩
/-- what stands while a book is asked -/
structure RS (T3 : List (Addr × Str)) (C CW CR c p L F b : Addr) (n : Nat) (es : List (Nat × Int)) (ds : List RD) (G : Hp) : Prop where
  pen : PenAt c n G p
  tabs : Tabs T3 G
  Lp : L ≠ p
  Fp : F ≠ p
  po : PairsOf G L es
  its : ItsOf G F (ds.map .rule)
  bk : Bk C CW CR G b es ds
theorem RS.gr {T3 : List (Addr × Str)} {C CW CR c p L F b : Addr} {n m : Nat} {es : List (Nat × Int)} {ds : List RD} {G G' : Hp} (h : RS T3 C CW CR c p L F b n es ds G) (g : Gr T3 c p m G G') : RS T3 C CW CR c p L F b m es ds G' :=
  ⟨g.pen, g.tabs, h.Lp, h.Fp, h.po.gr h.pen h.Lp g, h.its.gr h.pen h.Fp g, h.bk.gr h.pen g⟩
theorem RS.same {T3 : List (Addr × Str)} {C CW CR c p L F b : Addr} {n : Nat} {es : List (Nat × Int)} {ds : List RD} {G G' : Hp} (h : RS T3 C CW CR c p L F b n es ds G) (s : Same G G') : RS T3 C CW CR c p L F b n es ds G' := h.gr ((Gr.start h.pen h.tabs).same s)
theorem wtC_app : ∀ (es : List (Nat × Int)) (l m : List Nat), wtC es (l ++ m) = wtC es l + wtC es m
  | [], _, _ => rfl
  | e :: r, l, m => by
    have ih := wtC_app r l m
    show e.2 * (((l ++ m).count e.1 : Nat) : Int) + wtC r (l ++ m) = (e.2 * ((l.count e.1 : Nat) : Int) + wtC r l) + (e.2 * ((m.count e.1 : Nat) : Int) + wtC r m)
    rw [ih, List.count_append, Int.natCast_add, Int.mul_add]
    omega
theorem take_at {α : Type} {L O : List α} {p : Nat} (le : p + O.length ≤ L.length) (h : ∀ k, k < O.length → L[p + k]? = O[k]?) : L = L.take p ++ (O ++ L.drop (p + O.length)) := by
  refine List.ext_getElem? fun i => ?_
  by_cases h1 : i < p
  · rw [List.getElem?_append_left (by rw [List.length_take]; omega), List.getElem?_take_of_lt h1]
  · rw [List.getElem?_append_right (by rw [List.length_take]; omega), List.length_take, Nat.min_eq_left (by omega)]
    by_cases h2 : i - p < O.length
    · rw [List.getElem?_append_left h2, ← h _ h2]
      congr 1
      omega
    · rw [List.getElem?_append_right (by omega), List.getElem?_drop]
      congr 1
      omega
theorem led_list {o n z : Str} {p : Nat} (h : AtS o z p) : (ledS o n z (p : Int)).cps.toList = z.cps.toList.take p ++ (n.cps.toList ++ z.cps.toList.drop (p + o.length)) := by
  have zl : z.cps.toList.length = z.length := by simp [Str.length]
  have le := h.1
  unfold ledS
  rw [app_chars, app_chars, List.append_assoc]
  have e : ((p : Int) + (o.length : Int)) = ((p + o.length : Nat) : Int) := by omega
  unfold cutS
  rw [List.toList_toArray, List.toList_toArray, e, HT.sIx_nat, HT.sIx_nat, show HT.sIx z.length 0 none = 0 from rfl, show HT.sIx z.length z.length none = z.length from rfl, Nat.min_eq_left (by omega), Nat.min_eq_left le, List.drop_zero, Nat.sub_zero, List.take_of_length_le (l := z.cps.toList.drop (p + o.length)) (by rw [List.length_drop, zl]; exact Nat.le_refl _)]
theorem old_list {o z : Str} {p : Nat} (h : AtS o z p) : z.cps.toList = z.cps.toList.take p ++ (o.cps.toList ++ z.cps.toList.drop (p + o.length)) := by
  have zl : z.cps.toList.length = z.length := by simp [Str.length]
  have ol : o.cps.toList.length = o.length := by simp [Str.length]
  obtain ⟨le, q⟩ := (at_iff o z p).mp h
  have := take_at (L := z.cps.toList) (O := o.cps.toList) (p := p) (by omega) (fun k hk => q k (by omega))
  rw [ol] at this
  exact this
/-- what a move leads to: its signs, its length, its weight -/
theorem led_facts {es : List (Nat × Int)} {ds : List RD} {z : Str} {x : Nat × Nat} (good : ∀ d ∈ ds, GoodR es d) (wd : ∀ c ∈ z.cps.toList, c ∈ es.map (·.1)) (h : x ∈ movesN ds z) :
    (∀ c ∈ (ledM ds z x).cps.toList, c ∈ es.map (·.1)) ∧ (ledM ds z x).length ≤ z.length + 4 ∧ wtC es (ledM ds z x).cps.toList < wtC es z.cps.toList := by
  obtain ⟨_, lt, f⟩ := mem_moves.mp h
  unfold fitI at f
  obtain ⟨d, hd⟩ : ∃ d, ds[x.2]? = some d := ⟨_, List.getElem?_eq_getElem lt⟩
  rw [hd] at f
  dsimp only at f
  have g := good d (List.mem_of_getElem? hd)
  obtain ⟨g1, g2, g3, g4, g5, g6⟩ := g
  have at_ : AtS d.1 z x.1 := by
    by_cases q : AtS d.1 z x.1
    · exact q
    · unfold fN at f
      rw [fit_no q] at f
      cases f
  have el : ledM ds z x = ledS d.1 d.2.1 z (x.1 : Int) := by unfold ledM; rw [hd]
  have l1 := led_list (n := d.2.1) at_
  have l2 := old_list at_
  have len : ∀ s : Str, s.length = s.cps.toList.length := fun s => by simp [Str.length]
  have le := at_.1
  rw [el]
  refine ⟨fun c hc => ?_, ?_, ?_⟩
  · rw [l1] at hc
    rcases List.mem_append.mp hc with hc | hc
    · exact wd c (List.mem_of_mem_take hc)
    · rcases List.mem_append.mp hc with hc | hc
      · exact g2 c hc
      · exact wd c (List.mem_of_mem_drop hc)
  · have z1 := len z
    have z2 := len d.2.1
    rw [len]
    rw [l1, List.length_append, List.length_append, List.length_take, List.length_drop]
    omega
  · rw [l1]
    have : wtC es z.cps.toList = wtC es (z.cps.toList.take x.1 ++ (d.1.cps.toList ++ z.cps.toList.drop (x.1 + d.1.length))) := by rw [← l2]
    rw [this, wtC_app, wtC_app, wtC_app, wtC_app]
    unfold wtR at g6
    omega
theorem has_moves {rs : List RD} {z : Str} : (!hasMv rs z) = decide (movesN rs z = []) := by
  rw [Bool.eq_iff_iff, Bool.not_eq_true', decide_eq_true_iff]
  unfold hasMv
  rw [List.any_eq_false]
  constructor
  · intro h
    refine List.eq_nil_iff_forall_not_mem.mpr fun x hx => ?_
    obtain ⟨lz, lt, f⟩ := mem_moves.mp hx
    unfold fitI at f
    obtain ⟨d, hd⟩ : ∃ d, rs[x.2]? = some d := ⟨_, List.getElem?_eq_getElem lt⟩
    rw [hd] at f
    refine h d (List.mem_of_getElem? hd) ?_
    have m : x.1 ∈ fitsN d.1 d.2.2.1 d.2.2.2 z := List.mem_filter.mpr ⟨List.mem_range.mpr lz, f⟩
    cases e : fitsN d.1 d.2.2.1 d.2.2.2 z with
    | nil => rw [e] at m; cases m
    | cons a t => rfl
  · intro h d hd q
    obtain ⟨i, hi⟩ := List.mem_iff_getElem?.mp hd
    cases e : fitsN d.1 d.2.2.1 d.2.2.2 z with
    | nil => rw [e] at q; cases q
    | cons a t =>
      have m : a ∈ fitsN d.1 d.2.2.1 d.2.2.2 z := by rw [e]; exact List.mem_cons_self
      obtain ⟨m1, m2⟩ := List.mem_filter.mp m
      have : (a, i) ∈ movesN rs z := mem_moves.mpr ⟨List.mem_range.mp m1, (List.getElem?_eq_some_iff.mp hi).1, by unfold fitI; dsimp only; rw [hi]; exact m2⟩
      rw [h] at this
      cases this
/-- lists of texts as data -/
theorem strs_eqv : ∀ (as bs : List Str), PyData.eqvAll (as.map PyData.str) (bs.map PyData.str) = decide (as = bs)
  | [], [] => rfl
  | [], _ :: _ => rfl
  | _ :: _, [] => rfl
  | a :: r, b :: t => by
    show (PyData.eqv (.str a) (.str b) && PyData.eqvAll (r.map PyData.str) (t.map PyData.str)) = _
    rw [strs_eqv r t, Bool.eq_iff_iff]
    simp [PyData.eqv]
theorem strl_eqv (as bs : List Str) : PyData.eqv (.list (as.map PyData.str)) (.list (bs.map PyData.str)) = decide (as = bs) := strs_eqv as bs
theorem lay_strs : ∀ {as : List Str}, (∀ a ∈ as, PyData.strOk a = true) → PyData.canLayAll0 (as.map PyData.str) = true ∧ PyData.depthAll (as.map PyData.str) = 0
  | [], _ => ⟨rfl, rfl⟩
  | a :: r, h => by
    obtain ⟨h1, h2⟩ := lay_strs (as := r) fun x hx => h x (List.mem_cons_of_mem _ hx)
    have a1 : (PyData.str a).canLay0 = true := by simpa [PyData.canLay0] using h a List.mem_cons_self
    refine ⟨by simp only [List.map_cons, PyData.canLayAll0, a1, h1, Bool.and_self], ?_⟩
    simp only [List.map_cons, PyData.depthAll, h2]
    rfl
theorem shaped_strs {as : List Str} (h : ∀ a ∈ as, PyData.strOk a = true) : SeqAt.shaped (.list (as.map PyData.str)) = true := by
  obtain ⟨a, b⟩ := lay_strs h
  show (PyData.canLayAll0 (as.map PyData.str) && decide (PyData.depthAll (as.map PyData.str) + 1 ≤ 64)) = true
  rw [a, b]
  rfl
theorem dp_strs {K : PySem.W.Frag} {H : Hp} : ∀ as : List Str, DpAll K H (as.map V.str) (as.map PyData.str)
  | [] => .nil
  | a :: r => .cons (.str a) (dp_strs r)
theorem rows_map (rs : List RD) (z : Str) : ((movesN rs z).map fun x => V.str (ledM rs z x)) = ((movesN rs z).map (ledM rs z)).map V.str := by rw [List.map_map]; rfl
theorem qmark_no {as bs : List Str} (h : ∀ a ∈ as, ∀ c ∈ a.cps.toList, c ∈ abc.cps.toList) : decide (as = bs ++ [("?" : Str)]) = false := by
  refine decide_eq_false fun e => ?_
  have := h ("?" : Str) (by rw [e]; simp) 63 (by decide)
  exact absurd this (by decide +kernel)
/-- all that is known of Book -/
structure BF7 (P : Program) (w : World) (K : PySem.W.Frag) (mg : Str → Option Value) (base : Heap) (C CW CR CM CO : Addr) : Prop where
  M : BT K C
  call : ∃ g fd, StX.CallO K C g ∧ FnOk P w K mg base CX0 4 g fd ["self", "row"] (spBCallR C CW CR) ∧ FnOk P w K mg base (L2.CX P w) 4 g fd ["self", "row"] (spBBad K C CW CR CO) ∧ L2.Binds K fd ["self", "row"] []
  fin : ∃ g fd, Meth K C "finished" g ∧ FnOk P w K mg base CX0 3 g fd ["self", "row"] (spBFin C CW CR) ∧ FnOk P w K mg base (L2.CX P w) 4 g fd ["self", "row"] (spBBad K C CW CR CO) ∧ L2.Binds K fd ["self", "row"] []
  ledto : ∃ g fd, Meth K C "led_to" g ∧ FnOk P w K mg base CX0 5 g fd ["self", "row"] (spBLedTo C CW CR) ∧ FnOk P w K mg base (L2.CX P w) 4 g fd ["self", "row"] (spBBad K C CW CR CO) ∧ L2.Binds K fd ["self", "row"] []
  led : ∃ g fd, Meth K C "led" g ∧ FnOk P w K mg base (L2.CX P w) 6 g fd ["self", "row", "move"] (spBLed K C CW CR CM) ∧ FnOk P w K mg base (L2.CX P w) 4 g fd ["self", "row", "move"] (spBBad2 K C CW CR CO) ∧ L2.Binds K fd ["self", "row", "move"] [] ∧ KBn K fd ["self", "row", "move"] 1 ["row", "move"] (fun us ws => us ++ ws) (fun us ws => us ++ ws)
  hear : Hear2 K mg CM CO
end Kx
set_option Elab.async false
set_option maxRecDepth 100000
set_option autoImplicit false
set_option pp.maxSteps 400
set_option pp.deepTerms false
/-! _law_right -/
namespace Kx
open PySem L2 PySem.Spec PyProof.Rows Rg Er Ru Tn LamX ClX
theorem ne_bl {a b : Bool} (h : a = b) : (!decide (V.bl a = V.bl b)) = false := by rw [h]; simp
abbrev sLRight : Stmt := top 58
def spLRight (T3 : List (Addr × Str)) (C CW CR : Addr) : Sp := fun vs H Q _ => ∃ (c p L F b : Addr) (n : Nat) (es : List (Nat × Int)) (ds : List RD) (z : Str), vs = [.ref p, .ref b, .ref L, .ref F, .str z] ∧ n ≤ 400000 ∧ RS T3 C CW CR c p L F b n es ds H ∧ (∀ d ∈ ds, GoodR es d) ∧ ds.length ≤ 8 ∧ (∀ c ∈ z.cps.toList, c ∈ es.map (·.1)) ∧ z.length ≤ 9 ∧
  ∀ H', Gr T3 c p (n + 2) H H' → Q (.bl true) H'
/-- what stands besides while _law_right goes -/
structure RM (T3 : List (Addr × Str)) (C CW CR c p L F b Mq Rq : Addr) (n : Nat) (es : List (Nat × Int)) (ds : List RD) (z : Str) (G : Hp) : Prop where
  rs : RS T3 C CW CR c p L F b n es ds G
  Mp : Mq ≠ p
  Rp : Rq ≠ p
  hM : MvsAt G Mq (movesN ds z)
  hR : G Rq = some (.lst (((movesN ds z).map (ledM ds z)).map V.str))
theorem MvsAt.gr {T : List (Addr × Str)} {c p q : Addr} {n m : Nat} {H H' : Hp} {ms : List (Nat × Nat)} (h : MvsAt H q ms) (pen : PenAt c n H p) (qp : q ≠ p) (g : Gr T c p m H H') : MvsAt H' q ms := by
  obtain ⟨xs, h1, h2⟩ := h
  exact ⟨xs, g.at_ h1 qp, h2.mono fun _ _ _ e => (Kp.gr pen g).t _ _ e⟩
theorem RM.gr {T3 : List (Addr × Str)} {C CW CR c p L F b Mq Rq : Addr} {n m : Nat} {es : List (Nat × Int)} {ds : List RD} {z : Str} {G G' : Hp} (h : RM T3 C CW CR c p L F b Mq Rq n es ds z G) (g : Gr T3 c p m G G') : RM T3 C CW CR c p L F b Mq Rq m es ds z G' :=
  ⟨h.rs.gr g, h.Mp, h.Rp, h.hM.gr h.rs.pen h.Mp g, g.at_ h.hR h.Rp⟩
theorem RM.same {T3 : List (Addr × Str)} {C CW CR c p L F b Mq Rq : Addr} {n : Nat} {es : List (Nat × Int)} {ds : List RD} {z : Str} {G G' : Hp} (h : RM T3 C CW CR c p L F b Mq Rq n es ds z G) (s : Same G G') : RM T3 C CW CR c p L F b Mq Rq n es ds z G' := h.gr ((Gr.start h.rs.pen h.rs.tabs).same s)
theorem ne_mvs {K : PySem.W.Frag} {G : Hp} {q M : Addr} {ms : List (Nat × Nat)} {Q : VK} (h1 : MvsAt G q ms) (h2 : MvsAt G M ms) (k : Q (.bl false) G) : rNeD K (.ref q) (.ref M) G Q := by
  obtain ⟨xs, a1, a2⟩ := h1
  obtain ⟨ys, b1, b2⟩ := h2
  refine ⟨_, _, .lst (SqL.of a1) (dp_tws a2), .lst (SqL.of b1) (dp_tws b2), shaped_mvs _, shaped_mvs _, ?_⟩
  rw [mvl_eqv, decide_eq_true rfl]
  exact k
theorem ne_strs {K : PySem.W.Frag} {G : Hp} {q M : Addr} {as : List Str} {Q : VK} (h1 : G q = some (.lst (as.map V.str))) (h2 : G M = some (.lst (as.map V.str))) (ok : ∀ a ∈ as, PyData.strOk a = true) (k : Q (.bl false) G) : rNeD K (.ref q) (.ref M) G Q := by
  refine ⟨_, _, .lst (SqL.of h1) (dp_strs as), .lst (SqL.of h2) (dp_strs as), shaped_strs ok, shaped_strs ok, ?_⟩
  rw [strl_eqv, decide_eq_true rfl]
  exact k
theorem eq_strs {K : PySem.W.Frag} {G : Hp} {q M : Addr} {as bs : List Str} {Q : VK} (h1 : G q = some (.lst (as.map V.str))) (h2 : G M = some (.lst (bs.map V.str))) (ok : ∀ a ∈ as, PyData.strOk a = true) (ok2 : ∀ a ∈ bs, PyData.strOk a = true) (k : Q (.bl (decide (as = bs))) G) : rEqD K (.ref q) (.ref M) G Q := by
  refine ⟨_, _, .lst (SqL.of h1) (dp_strs as), .lst (SqL.of h2) (dp_strs bs), shaped_strs ok, shaped_strs ok2, ?_⟩
  rw [strl_eqv]
  exact k
/-- moves == [] -/
theorem eq_nil {K : PySem.W.Frag} {σ : L2.St} {G : Hp} {M : Addr} {ms : List (Nat × Nat)} {Q : VK} (h : MvsAt G M ms) (k : ∀ G2, Same G G2 → Q (.bl (decide (ms = []))) G2) : tLst tNil σ G fun y H => rEqD K (.ref M) y H Q := by
  refine ⟨Nat.zero_le _, fun Z hZ => ?_⟩
  have s : Same G (upd G Z (.lst [])) := Same.new hZ
  obtain ⟨xs, a1, a2⟩ := h.same s
  refine ⟨.list (ms.map mvD), .list [], .lst (SqL.of a1) (dp_tws a2), .lst (SqL.of upd_same) .nil, shaped_mvs _, rfl, ?_⟩
  have := mvl_eqv ms []
  rw [List.map_nil] at this
  rw [this]
  exact k _ s
theorem told_move {CM CO : Addr} {v : V} {Q : VK} {G : Hp} (k : ∀ q H', Same G H' → H' q = some (.tup [.str "move", v]) → Q (.ref q) H') : raised CM "part" v (hears CM CO Q) G := fun d hd =>
  ⟨d, v, "move", rfl, .inl ⟨rfl, upd_same, rfl⟩, fun q H'' same hq => k q H'' (fun b o e => same b o (by rw [upd_ne (ne_of_none e hd)]; exact e)) hq⟩
theorem told_row {CM CO : Addr} {v : V} {Q : VK} {G : Hp} (k : ∀ q H', Same G H' → H' q = some (.tup [.str "row", v]) → Q (.ref q) H') : raised CO "at" v (hears CM CO Q) G := fun d hd =>
  ⟨d, v, "row", rfl, .inr ⟨rfl, upd_same, rfl⟩, fun q H'' same hq => k q H'' (fun b o e => same b o (by rw [upd_ne (ne_of_none e hd)]; exact e)) hq⟩
/-- what is told of a move -/
def ToldL (ds : List RD) (z : Str) (d : Deed) (G : Hp) (tv : V) : Option Str → Prop
  | some w => ∃ q, tv = .ref q ∧ G q = some (.tup [.str "move", .str w])
  | none => ∃ pp ii d', moveOf d = some (pp, ii) ∧ 0 ≤ ii ∧ ds[ii.toNat]? = some d' ∧ fitB d'.1 d'.2.2.1 d'.2.2.2 z pp = true ∧ tv = .str (ledS d'.1 d'.2.1 z pp)
theorem heard_led {CM CO : Addr} {Qc Q' : VK} {G : Hp} {ds : List RD} {z : Str} {d : Deed} {du : Option Str} (e : dueK ds z d = du) (hk : ∀ v H', Qc v H' → Q' v H') (fin : ∀ (G2 : Hp) (tv : V), Same G G2 → ToldL ds z d G2 tv du → Qc tv G2) :
    match moveOf d with
    | none => raised CM "part" (.str "form") (hears CM CO Qc) G
    | some (p, i) => (¬ (0 ≤ i ∧ i < ds.length) → raised CM "part" (.str "rule") (hears CM CO Qc) G) ∧ ∀ d', 0 ≤ i → ds[i.toNat]? = some d' → (fitB d'.1 d'.2.2.1 d'.2.2.2 z p = true → Q' (.str (ledS d'.1 d'.2.1 z p)) G) ∧ (fitB d'.1 d'.2.2.1 d'.2.2.2 z p = false → raised CM "part" (.str "place") (hears CM CO Qc) G) := by
  subst e
  unfold dueK at fin
  cases em : moveOf d with
  | none =>
    rw [em] at fin
    dsimp only at fin ⊢
    exact told_move fun q H' s hq => fin H' _ s ⟨q, rfl, hq⟩
  | some pi =>
    obtain ⟨p, i⟩ := pi
    rw [em] at fin
    dsimp only at fin ⊢
    refine ⟨fun no => ?_, fun d' i0 hd' => ?_⟩
    · rw [if_neg no] at fin
      exact told_move fun q H' s hq => fin H' _ s ⟨q, rfl, hq⟩
    · have il := (List.getElem?_eq_some_iff.mp hd').1
      rw [if_pos ⟨i0, by omega⟩] at fin
      have ef : fitZ ds z p i = fitB d'.1 d'.2.2.1 d'.2.2.2 z p := by unfold fitZ; rw [hd']
      rw [ef] at fin
      refine ⟨fun hf => ?_, fun hf => ?_⟩
      · rw [if_pos hf] at fin
        exact hk _ _ (fin G _ (Same.refl G) ⟨p, i, d', em, i0, hd', hf, rfl⟩)
      · rw [if_neg (by rw [hf]; exact Bool.false_ne_true)] at fin
        exact told_move fun q H' s hq => fin H' _ s ⟨q, rfl, hq⟩
theorem due_words {ds : List RD} {z : Str} {d : Deed} {w : Str} (h : dueK ds z d = some w) : w = "form" ∨ w = "rule" ∨ w = "place" := by
  unfold dueK at h
  split at h
  · cases h; exact .inl rfl
  · split at h
    · split at h
      · cases h
      · cases h; exact .inr (.inr rfl)
    · cases h; exact .inr (.inl rfl)
theorem eqv_word (w : Str) : PyData.eqv (.tuple [.str "move", .str w]) (.tuple [.str "move", .str w]) = true := by simp [PyData.eqv, PyData.eqvAll]
theorem shaped_word {w : Str} (h : w = "form" ∨ w = "rule" ∨ w = "place") : SeqAt.shaped (.tuple [.str "move", .str w]) = true := by
  rcases h with rfl | rfl | rfl <;> decide +kernel
theorem move_deed {p : Addr} {H : Hp} {v : V} {d : Deed} {pp ii : Int} (h : DeedAt p H v d) (e : moveOf d = some (pp, ii)) : ∃ t, v = .ref t ∧ H t = some (.tup [.int pp, .int ii]) := by
  match d, h, e with
  | .tup [.int a, .int b], h, e =>
    cases e
    exact h
theorem bf_no {m : Str} {q r : Addr} (h1 : (m == "weights") = false) (h2 : (m == "rules") = false) : (bf q r).lookup m = none := by
  unfold bf bf1
  simp only [lookup_putF]
  rw [if_neg (by simpa using h2), if_neg (by simpa using h1)]
  rfl
section
variable {P : Program} {w : World} {K : PySem.W.Frag} {mg : Str → Option Value} {base : Heap}
abbrev nLRight : List Str := ["_law_pen_here", "_law_book_here", "_law_pairs_here", "_law_rules_here", "_law_there", "_law_moves_here", "_law_rows", "_law_deed", "_law_told", "_law_early", "_law_shown", "_law_k", "_law_due"]
theorem scLRight : FnScope nLRight ["_law_pen_here", "_law_book_here", "_law_pairs_here", "_law_rules_here", "_law_there"] (defScope sLRight) := ⟨rfl, rfl, rfl, by decide +kernel, rfl, by decide +kernel, by decide +kernel⟩
set_option maxHeartbeats 0 in
theorem ok_lRight {C CW CR CM CO f cd tab g f1 f2 f3 f4 f5 : Addr} {T3 : List (Addr × Str)} {cdg oc dV kV doc pm ct oc' kV' doc' pm' ct' : Value} {an od an' od' : Option Addr} {osl osl' : Array (Option Value)} {fd1 fd2 fd3 fd4 fd5 : FuncData} (T : Txt mg) (B : BF7 P w K mg base C CW CR CM CO) (Hh : Hd K mg g cdg oc dV kV doc pm ct an od osl)
    (lkL : K.lookup f = some ⟨oc', od', .func (PySem.W.fnOf "_law_right" "_law_right" (defArgs sLRight) (defBody sLRight) (defScope sLRight) .none kV' doc' pm' an' (.ref cd) ct'), osl'⟩) (hcL : PySem.W.codeIn K (.ref cd) "_law_right" = true) (TB : TabB base mg cd tab)
    (hT : (tab, lamQ "_law_right") ∈ T3) (hu : ∀ p ∈ T3, p.1 = tab → p.2 = lamQ "_law_right")
    (G1 : FnOk P w K mg base CX0 2 f1 fd1 ["_law_rules_here", "_law_there"] spLMoves) (m1 : mg "_law_moves" = some (.ref f1)) (k1 : PySem.W.keepIn K (.ref f1) = true) (b1 : L2.Binds K fd1 ["_law_rules_here", "_law_there"] [])
    (G2 : FnOk P w K mg base CX0 1 f2 fd2 ["_law_rules_here", "_law_there", "_law_deed"] spLLed) (m2 : mg "_law_led" = some (.ref f2)) (k2 : PySem.W.keepIn K (.ref f2) = true) (b2 : L2.Binds K fd2 ["_law_rules_here", "_law_there", "_law_deed"] [])
    (G3 : FnOk P w K mg base CX0 1 f3 fd3 ["_law_pairs_here", "_law_there"] spWeight) (m3 : mg "_law_weight" = some (.ref f3)) (k3 : PySem.W.keepIn K (.ref f3) = true) (b3 : L2.Binds K fd3 ["_law_pairs_here", "_law_there"] [])
    (G4 : FnOk P w K mg base CX0 2 f4 fd4 ["_law_pen_here", "_law_there"] spOdd) (m4 : mg "_law_odd_moves" = some (.ref f4)) (k4 : PySem.W.keepIn K (.ref f4) = true) (b4 : L2.Binds K fd4 ["_law_pen_here", "_law_there"] [])
    (G5 : FnOk P w K mg base CX0 3 f5 fd5 ["_law_rules_here", "_law_there", "_law_deed"] spMDue) (m5 : mg "_law_move_due" = some (.ref f5)) (k5 : PySem.W.keepIn K (.ref f5) = true) (b5 : L2.Binds K fd5 ["_law_rules_here", "_law_there", "_law_deed"] []) :
    FnG P w K mg base CX0 11 f (PySem.W.fnOf "_law_right" "_law_right" (defArgs sLRight) (defBody sLRight) (defScope sLRight) .none kV' doc' pm' an' (.ref cd) ct') ["_law_pen_here", "_law_book_here", "_law_pairs_here", "_law_rules_here", "_law_there"] (spLRight T3 C CW CR) := by
  obtain ⟨M, ⟨gC, fdC, co, FC, _, bC⟩, ⟨gF, fdF, mF, FF, _, bF⟩, ⟨gL, fdL, mL, FL, _, bL⟩, ⟨gD, fdD, mD, FD, _, bD, kbD⟩, hear⟩ := B
  have RC := fnR_of FC bC
  refine fnG_of lkL hcL scLRight (fun vs H Q E h => ?_) (fun A outer s H vs Q E hg hr h => ?_)
  · obtain ⟨c, p, L, F, b, n, es, ds, z, rfl, _⟩ := h
    rfl
  · obtain ⟨c, p, L, F, b, n, es, ds, z, rfl, nb, rs, good, d8, wd, zl, k⟩ := h
    have nd := scLRight.nd
    have hr1 := hr.mono (show 1 ≤ 10 by decide)
    have hr2 := hr.mono (show 2 ≤ 10 by decide)
    have hr3 := hr.mono (show 3 ≤ 10 by decide)
    have hr4 := hr.mono (show 4 ≤ 10 by decide)
    have hr5 := hr.mono (show 5 ≤ 10 by decide)
    have hr6 := hr.mono (show 6 ≤ 10 by decide)
    refine ⟨_, (pss_cons (ps_set (i := 5) nd rfl (.inl rfl) (pe_call G1 hr2 (by rfl) m1 k1 b1 .nil pass0 (pa_cons (pv 3) (pa_cons (pv 4) pa_nil))))
      (pss_cons (ps_setLc (i := 6) (own := [("_law_deed", 7)]) (g := gName 7) (tt := tYes) (te := tCall spLLed [] E0 (tCons (tVar 3) (tCons (tVar 4) (tCons (tVar 7) tNil)))) rfl nd rfl rfl (sw_true rfl rfl rfl (by decide +kernel)) (pi_list (pv 5)) (blkOk_by (own := [("_law_deed", 7)]) (N := nLRight) (sc := defScope sLRight) (by decide +kernel)) (fun _ _ _ _ _ => (pg_name (i := 7) nd rfl (Or.inl rfl))) (fun _ _ _ _ _ => pts_nil) (fun _ _ _ _ _ => (pe_call G2 hr1 (by rfl) m2 k2 b2 .nil pass0 (pa_cons (pv 3) (pa_cons (pv 4) (pa_cons (pv 7) pa_nil))))))
      (pss_cons (ps_if (PW.pt (pw_or (pt_cmpR (op_neD hr.units) (StX.pe_callO (pv 1) co RC hr4 pass0 (pa_cons (pv 4) pa_nil)) (pv 5) (nomark _)) (pw_or (pt_cmpR (op_neD hr.units) (pe_meth (pv 1) M.cl mL FL hr5 bL .nil pass0 (pa_cons (pv 4) pa_nil)) (pv 6) (nomark _)) (pw_or1 (pt_cmpR op_ne (pe_meth (pv 1) M.cl mF FF hr3 bF .nil pass0 (pa_cons (pv 4) pa_nil)) (pe_cmpR (op_eqD hr.units) (pv 5) (pe_lst pa_nil) (nomark _)) (nomark _)))))) (pss_one (ps_never)) pss_nil)
      (pss_cons (ps_set (i := 8) nd rfl (.inl rfl) (StX.pe_callO (pv 1) co RC hr4 pass0 (pa_cons (pv 4) pa_nil)))
      (pss_cons (ps_expr (pe_bm PySem.F.plainAttrs_list PySem.F.slot_list_append PySem.F.type_list_append mt_append (pv 8) (pa_cons (pe_tup (pa_cons pe_int (pa_cons pe_int pa_nil))) pa_nil)))
      (pss_cons (ps_if (PW.pt (pw_or (pt_cmpR (op_neD hr.units) (StX.pe_callO (pv 1) co RC hr4 pass0 (pa_cons (pv 4) pa_nil)) (pv 5) (nomark _)) (pw_or1 (pt_not (pt_val (bIsi (by rfl) T.isi (StX.pe_callO (pv 1) co RC hr4 pass0 (pa_cons (pv 4) pa_nil)) (pe_bltn (v := .ty "list") (by rfl) T.list (by decide +kernel) rfl))))))) (pss_one (ps_never)) pss_nil)
      (pss_cons (ps_par (i := 9) (j := 10) (by rfl) nd rfl rfl (by decide) rfl rfl (pa_cons (StX.pe_callO (pv 1) co RC hr4 pass0 (pa_cons (pv 4) pa_nil)) (pa_cons (pe_meth (pv 1) M.cl mL FL hr5 bL .nil pass0 (pa_cons (pv 4) pa_nil)) pa_nil)) (by rfl))
      (pss_cons (ps_if (PW.pt (pw_or (pt_cmpR (op_neD hr.units) (StX.pe_callO (pv 1) co RC hr4 pass0 (pa_cons (pe_slice sl_str (pv 4) po_none (po_some (pe_un un_neg pe_int))) pa_nil)) (pe_call G1 hr2 (by rfl) m1 k1 b1 .nil pass0 (pa_cons (pv 3) (pa_cons (pe_slice sl_str (pv 4) po_none (po_some (pe_un un_neg pe_int))) pa_nil))) (nomark _)) (pw_or1 (pt_cmpR (op_neD hr.units) (pv 9) (pv 5) (nomark _))))) (pss_one (ps_never)) pss_nil)
      (pss_cons (ps_expr (pe_bm PySem.F.plainAttrs_list PySem.F.slot_list_append PySem.F.type_list_append mt_append (pv 10) (pa_cons pe_str pa_nil)))
      (pss_cons (ps_if (PW.pt (pw_or (pt_cmpR (op_eqD hr.units) (pe_meth (pv 1) M.cl mL FL hr5 bL .nil pass0 (pa_cons (pe_slice sl_str (pv 4) po_none (po_some (pe_un un_neg pe_int))) pa_nil)) (pv 10) (nomark _)) (pw_or1 (pt_cmpR (op_neD hr.units) (pe_meth (pv 1) M.cl mL FL hr5 bL .nil pass0 (pa_cons (pv 4) pa_nil)) (pv 6) (nomark _))))) (pss_one (ps_never)) pss_nil)
      (pss_cons (ps_for PassesOwn.never rfl (pi_range1 (by rfl) T.range (pa_cons (bLen (by rfl) T.len (pv 5)) pa_nil)) (pg_name (i := 11) nd rfl (Or.inl rfl)) (pss_one (ps_if (PW.pt (pw_or (pt_cmpR op_ne (pe_meth (pv 1) M.cl mD FD hr6 bD .nil passesF (pa_cons (pv 4) (pa_cons (bIx (pv 5) (pv 11)) pa_nil))) (bIx (pv 6) (pv 11)) (nomark _)) (pw_or1 (pt_cmpR op_ge (pe_call G3 hr1 (by rfl) m3 k3 b3 .nil pass0 (pa_cons (pv 2) (pa_cons (bIx (pv 6) (pv 11)) pa_nil))) (pe_call G3 hr1 (by rfl) m3 k3 b3 .nil pass0 (pa_cons (pv 2) (pa_cons (pv 4) pa_nil))) (nomark _))))) (pss_one (ps_never)) pss_nil)))
      (pss_cons (ps_for PassesOwn.never rfl (pi_list (pe_call G4 hr2 (by rfl) m4 k4 b4 .nil pass0 (pa_cons (pv 0) (pa_cons (pv 4) pa_nil)))) (pg_name (i := 7) nd rfl (Or.inr rfl)) (pss_cons (ps_set (i := 12) nd rfl (.inl rfl) (pe_call G5 hr3 (by rfl) m5 k5 b5 .nil pass0 (pa_cons (pv 3) (pa_cons (pv 4) (pa_cons (pv 7) pa_nil)))))
      (pss_cons (ps_set (i := 8) nd rfl (.inl rfl) (pe_hear (T := T3) (t := fun E => tMethK C "led" (spBLed K C CW CR CM) (fun us ws => us ++ ws) (List.length (["row", "move"] : List Str)) E (tVar 1) (tCons (tVar 4) (tCons (tVar 7) tNil))) hr hear Hh.hm Hh.hk Hh.lk Hh.hcg Hh.hb TB hT hu (by rfl) (lamS_by (by decide +kernel)) rfl (fun _ _ _ _ _ => rfl) (fun A' outer' s' H' E f' c' hr' => pe_methK (pv 1) M.cl mD FD (hr'.mono (show 6 ≤ 8 by decide)) kbD (passes_call (takes_of (E := E) rfl rfl rfl rfl) fun _ _ _ _ h => h) (pk_cons (pv 4) (pk_cons (pv 7) pk_nil)))))
      (pss_one (ps_if (PW.pt (pw_or (PW.pt (pw_and (pt_cmp (pc_isN (pv 12))) (pw_and1 (pt_cmpR op_ne (pv 8) (pe_call G2 hr1 (by rfl) m2 k2 b2 .nil pass0 (pa_cons (pv 3) (pa_cons (pv 4) (pa_cons (pv 7) pa_nil)))) (nomark _))))) (pw_or1 (PW.pt (pw_and (pt_cmp (pc_notN (pv 12))) (pw_and1 (pt_cmpR (op_neD hr.units) (pv 8) (pe_tup (pa_cons pe_str (pa_cons (pv 12) pa_nil))) (nomark _)))))))) (pss_one (ps_never)) pss_nil)))))
      (pss_one (ps_ret pe_bl)))))))))))))), ?_⟩
    have abcs := rs.po.abc
    have o14 : ∀ d ∈ ds, 1 ≤ d.1.length ∧ d.1.length ≤ 4 := fun d hd => ⟨(good d hd).2.2.1, (good d hd).2.2.2.1⟩
    have o1 : ∀ d ∈ ds, 1 ≤ d.1.length := fun d hd => (o14 d hd).1
    have row : RowOf es z := ⟨fun c hc => by simpa [letters] using wd c hc, by omega⟩
    have row' : RowOf es (cutS z none (some (-1))) := ⟨fun c hc => by simpa [letters] using wd c (cut_sub hc), by have := cutS_length z none (some (-1)); omega⟩
    have inAbc : ∀ {s : Str}, (∀ c ∈ s.cps.toList, c ∈ es.map (·.1)) → ∀ c ∈ s.cps.toList, c ∈ abc.cps.toList := fun h c hc => by
      obtain ⟨e, he, rfl⟩ := List.mem_map.mp (h c hc)
      exact abcs e he
    have rowsAbc : ∀ {w : Str}, (∀ c ∈ w.cps.toList, c ∈ es.map (·.1)) → ∀ a ∈ (movesN ds w).map (ledM ds w), ∀ c ∈ a.cps.toList, c ∈ abc.cps.toList := fun wd a ha => by
      obtain ⟨x, hx, rfl⟩ := List.mem_map.mp ha
      exact inAbc (led_facts good wd hx).1
    have few := moves_few (rs := ds) (z := z) d8 (by omega)
    -- the moves and the rows
    refine ⟨_, rfl, _, rfl, F, ds, z, rfl, rs.its, o14, d8, by omega, fun Mq H1 s1 nMq mv1 => ?_⟩
    obtain ⟨ms, hM, tw⟩ := mv1
    have ml := tw.1
    refine ⟨_, rfl, Mq, rfl, ⟨_, SqL.of hM⟩, fun Rq hR => ?_⟩
    refine lcMap walk_list (fun i => .str (ledM ds z ((movesN ds z).getD i (0, 0)))) (by rw [sizeLine_eq]; omega) hR (fun H' s => SqL.of (s _ _ hM)) (fun _ _ _ _ y => y.1) ?_ ?_
    · rintro i x H' Q' hi s2 ⟨_, hx⟩ qq
      obtain ⟨m, hm⟩ : ∃ m, (movesN ds z)[i]? = some m := ⟨_, List.getElem?_eq_getElem (by omega)⟩
      obtain ⟨t, et, pt⟩ := (tw.same s2).2 i _ hm
      obtain rfl : x = .ref t := Option.some.inj (hx.symm.trans et)
      obtain ⟨_, lt, _⟩ := mem_moves.mp (List.mem_of_getElem? hm)
      obtain ⟨d, hd⟩ : ∃ d, ds[m.2]? = some d := ⟨_, List.getElem?_eq_getElem lt⟩
      have gd := good d (List.mem_of_getElem? hd)
      have s12 := Same.trans s1 s2
      refine ⟨_, rfl, _, rfl, _, rfl, F, t, ds, z, m.1, m.2, d, rfl, rs.its.same s12, pt, hd, gd.2.2.2.1, gd.2.2.2.2.1, by omega, fun H3 s3 => ?_⟩
      have := qq _ s3
      rw [getD_at hm] at this
      exact this
    intro H2 s2 hR2
    rw [ml, range_map_getD (movesN ds z) (0, 0) fun x => V.str (ledM ds z x), rows_map] at hR2
    have rm : RM T3 C CW CR c p L F b Mq Rq n es ds z H2 := ⟨rs.same (Same.trans s1 s2), rs.pen.ne1 nMq, rs.pen.ne1 (Same.gone s1 hR), ⟨ms, s2 _ _ hM, tw.same s2⟩, hR2⟩
    have gr0 : Gr T3 c p n H H2 := (Gr.start rs.pen rs.tabs).same (Same.trans s1 s2)
    clear hR hM tw hR2 nMq s1 s2 ml
    obtain ⟨dx, bq, br, bxs, bys, hb, _⟩ := rm.rs.bk
    -- the first comparison
    refine ⟨_, rfl, b, rfl, _, rfl, .inr ⟨_, _, hb⟩, b, es, ds, z, rfl, rm.rs.bk, o1, d8, row, fun q H3 s3 nq mv => ⟨_, rfl, ne_mvs mv (rm.same s3).hM ⟨_, rfl, iteF ?_⟩⟩⟩
    replace rm := rm.same s3
    replace gr0 := gr0.same s3
    replace hb := s3 _ _ hb
    clear s3 nq mv
    refine ⟨_, rfl, b, dx, _, rfl, hb, bf_no rfl rfl, _, rfl, b, es, ds, z, rfl, rm.rs.bk, o1, d8, row, fun q H4 s4 nq hq => ⟨_, rfl, ?_⟩⟩
    rw [rows_map] at hq
    refine ne_strs hq (rm.same s4).hR (fun a ha => strOk_abc (rowsAbc wd a ha)) ⟨_, rfl, iteF ?_⟩
    replace rm := rm.same s4
    replace gr0 := gr0.same s4
    replace hb := s4 _ _ hb
    clear s4 nq hq
    refine ⟨_, rfl, b, dx, _, rfl, hb, bf_no rfl rfl, _, rfl, b, es, ds, z, rfl, rm.rs.bk, o1, row, _, rfl, eq_nil rm.hM fun G5 s5 => ⟨rfl, _, rfl, ?_⟩⟩
    rw [ne_bl has_moves]
    refine iteF ?_
    replace rm := rm.same s5
    replace gr0 := gr0.same s5
    replace hb := s5 _ _ hb
    clear s5
    -- told is changed
    refine ⟨_, rfl, b, rfl, _, rfl, .inr ⟨_, _, hb⟩, b, es, ds, z, rfl, rm.rs.bk, o1, d8, row, fun q8 H6 s6 n8 mv8 => ?_⟩
    obtain ⟨xs8, h8, tw8⟩ := mv8
    have l8 := tw8.1
    refine ⟨_, rfl, .inl ⟨rfl, _, SqL.of h8⟩, ?_⟩
    refine ⟨by show 2 ≤ sizeLine; decide, fun t ht => ?_⟩
    have st : Same H6 (upd H6 t (.tup [.int 0, .int 9])) := Same.new ht
    refine ⟨q8, _, _, rfl, rfl, st _ _ h8, by rw [sizeLine_eq, l8]; omega, ?_⟩
    have s7 := Same.putNew (o := .lst (xs8 ++ [.ref t])) n8 (Same.trans s6 st)
    generalize upd (upd H6 t (.tup [.int 0, .int 9])) q8 (.lst (xs8 ++ [.ref t])) = G7 at s7 ⊢
    replace rm := rm.same s7
    replace gr0 := gr0.same s7
    replace hb := s7 _ _ hb
    clear s7 st ht h8 tw8 l8 s6 n8
    -- the second comparison
    refine ⟨_, rfl, b, rfl, _, rfl, .inr ⟨_, _, hb⟩, b, es, ds, z, rfl, rm.rs.bk, o1, d8, row, fun q H3 s3 nq mv => ⟨_, rfl, ne_mvs mv (rm.same s3).hM ⟨_, rfl, iteF ?_⟩⟩⟩
    replace rm := rm.same s3
    replace gr0 := gr0.same s3
    replace hb := s3 _ _ hb
    clear s3 nq mv
    refine ⟨_, rfl, b, rfl, _, rfl, .inr ⟨_, _, hb⟩, b, es, ds, z, rfl, rm.rs.bk, o1, d8, row, fun q H3 s3 nq mv => ?_⟩
    obtain ⟨xs3, h3, _⟩ := mv
    refine ⟨.ref q, .ty "list", _, _, true, rfl, .ty "list", .base (.lst h3), kit_ty (by decide +kernel), true, rfl, iteF ?_⟩
    replace rm := rm.same s3
    replace gr0 := gr0.same s3
    replace hb := s3 _ _ hb
    clear s3 nq h3
    -- early, shown
    refine ⟨_, rfl, b, rfl, _, rfl, .inr ⟨_, _, hb⟩, b, es, ds, z, rfl, rm.rs.bk, o1, d8, row, fun q9 H8 s8 n9 mv9 => ?_⟩
    replace rm := rm.same s8
    replace gr0 := gr0.same s8
    replace hb := s8 _ _ hb
    refine ⟨_, rfl, b, dx, _, rfl, hb, bf_no rfl rfl, _, rfl, b, es, ds, z, rfl, rm.rs.bk, o1, d8, row, fun q10 H9 s9 n10 h10 => ⟨_, _, rfl, ?_⟩⟩
    rw [rows_map] at h10
    have rmE := rm
    have grE := gr0
    have hbE := hb
    have mvE := mv9
    replace rm := rm.same s9
    replace gr0 := gr0.same s9
    replace hb := s9 _ _ hb
    replace mv9 := mv9.same s9
    clear s8 n9
    -- the third comparison
    have zl1 := cutS_length z none (some (-1))
    refine ⟨_, rfl, b, rfl, _, rfl, _, rfl, _, rfl, z, rfl, len_small (by omega), .inr ⟨_, _, hb⟩, b, es, ds, _, rfl, rm.rs.bk, o1, d8, row', fun q H3 s3 nq mv => ?_⟩
    have rm3 := rm.same s3
    refine ⟨_, rfl, _, rfl, _, rfl, _, rfl, z, rfl, len_small (by omega), F, ds, _, rfl, rm3.rs.its, o14, d8, by omega, fun q2 H4 s4 nq2 mv2 => ?_⟩
    refine ne_mvs (mv.same s4) mv2 ⟨_, rfl, iteF ?_⟩
    have s34 := Same.trans s3 s4
    refine ⟨_, rfl, _, rfl, ne_mvs (mv9.same s34) (rm.same s34).hM ⟨_, rfl, iteF ?_⟩⟩
    have h10' := s34 _ _ h10
    -- shown is changed
    refine ⟨_, rfl, .inl ⟨rfl, _, SqL.of h10'⟩, ?_⟩
    refine ⟨q10, _, _, rfl, rfl, h10', by rw [sizeLine_eq, List.length_map, List.length_map]; omega, ?_⟩
    have s10 := Same.putNew (o := .lst (((movesN ds z).map (ledM ds z)).map V.str ++ [.str "?"])) n10 (Same.trans s9 s34)
    have e10 : upd H4 q10 (.lst (((movesN ds z).map (ledM ds z)).map V.str ++ [.str "?"])) q10 = some (.lst (((movesN ds z).map (ledM ds z) ++ [("?" : Str)]).map V.str)) := by rw [upd_same, List.map_append]; rfl
    generalize upd H4 q10 (.lst (((movesN ds z).map (ledM ds z)).map V.str ++ [.str "?"])) = G10 at s10 e10 ⊢
    have rm := rmE.same s10
    have gr0 := grE.same s10
    have hb := s10 _ _ hbE
    clear rmE grE hbE mvE s9 n10 h10 mv9 s3 nq mv rm3 s4 nq2 mv2 s34 h10'
    -- the fourth comparison
    have okz : ∀ {w : Str}, (∀ c ∈ w.cps.toList, c ∈ es.map (·.1)) → ∀ a ∈ (movesN ds w).map (ledM ds w), PyData.strOk a = true := fun wd a ha => strOk_abc (rowsAbc wd a ha)
    have wd' : ∀ c ∈ (cutS z none (some (-1))).cps.toList, c ∈ es.map (·.1) := fun c hc => wd c (cut_sub hc)
    refine ⟨_, rfl, b, dx, _, rfl, hb, bf_no rfl rfl, _, rfl, _, rfl, _, rfl, z, rfl, len_small (by omega), b, es, ds, _, rfl, rm.rs.bk, o1, d8, row', fun q H3 s3 nq hq => ⟨_, rfl, ?_⟩⟩
    rw [rows_map] at hq
    refine eq_strs hq (s3 _ _ e10) (okz wd') (fun a ha => ?_) ⟨_, rfl, ?_⟩
    · rcases List.mem_append.mp ha with ha | ha
      · exact okz wd a ha
      · rw [List.mem_singleton.mp ha]; decide +kernel
    rw [qmark_no (rowsAbc wd')]
    refine iteF ?_
    replace rm := rm.same s3
    replace gr0 := gr0.same s3
    replace hb := s3 _ _ hb
    clear s3 nq hq e10
    refine ⟨_, rfl, b, dx, _, rfl, hb, bf_no rfl rfl, _, rfl, b, es, ds, z, rfl, rm.rs.bk, o1, d8, row, fun q H4 s4 nq hq => ⟨_, rfl, ?_⟩⟩
    rw [rows_map] at hq
    refine ne_strs hq (rm.same s4).hR (okz wd) ⟨_, rfl, iteF ?_⟩
    replace rm := rm.same s4
    replace gr0 := gr0.same s4
    replace hb := s4 _ _ hb
    clear s4 nq hq
    -- each move
    obtain ⟨ms, hM, tw⟩ := rm.hM
    have ml := tw.1
    refine ⟨_, rfl, _, (movesN ds z).length, rfl, .inl ⟨_, SqL.of hM, ml.symm⟩, (movesN ds z).length, rfl, by omega, by omega, ?_⟩
    clear hM tw ml ms hb
    refine for_it walk_range (fun i σ' G => ∃ y7 y11 y12, σ' = [some (.ref p), some (.ref b), some (.ref L), some (.ref F), some (.str z), some (.ref Mq), some (.ref Rq), y7, some (.ref q8), some (.ref q9), some (.ref q10), y11, y12] ∧ RM T3 C CW CR c p L F b Mq Rq n es ds z G ∧ Gr T3 c p n H G) ⟨_, _, _, rfl, rm, gr0⟩ (fun _ _ _ _ _ => trivial) ?_ ?_
    · clear rm gr0
      rintro i x σ' G' G hi ⟨y7, y11, y12, rfl, rm, gr0⟩ ⟨eG, ex⟩
      subst eG
      have hi' : i < (movesN ds z).length := by simpa using hi
      obtain rfl : x = V.int (i : Int) := ex.trans (by show V.int (0 + (i : Int)) = _; rw [Int.zero_add])
      obtain ⟨m, hm⟩ : ∃ m, (movesN ds z)[i]? = some m := ⟨_, List.getElem?_eq_getElem hi'⟩
      obtain ⟨ms, hM, tw⟩ := rm.hM
      obtain ⟨t, et, pt⟩ := tw.2 i _ hm
      have mm := List.mem_of_getElem? hm
      obtain ⟨_, lt, ft⟩ := mem_moves.mp mm
      obtain ⟨d, hd⟩ : ∃ d, ds[m.2]? = some d := ⟨_, List.getElem?_eq_getElem lt⟩
      unfold fitI at ft
      rw [hd] at ft
      dsimp only at ft
      have el : ledM ds z m = ledS d.1 d.2.1 z (m.1 : Int) := by unfold ledM; rw [hd]
      obtain ⟨lf1, lf2, lf3⟩ := led_facts good wd mm
      obtain ⟨dx, bq, br, bxs, bys, hb, _⟩ := rm.rs.bk
      have eR : (((movesN ds z).map (ledM ds z)).map V.str)[i]? = some (.str (ledM ds z m)) := by rw [List.getElem?_map, List.getElem?_map, hm]; rfl
      obtain ⟨ps, hL, pd, l1, l4, nde⟩ := rm.rs.po
      refine ⟨_, rfl, b, dx, _, rfl, hb, bf_no rfl rfl, _, rfl, _, rfl, _, rfl, Mq, ms, (i : Int), .ref t, rfl, rfl, SqL.of hM, at_int et, ?_⟩
      refine ⟨b, es, ds, z, .ref t, some ((m.1 : Int), (m.2 : Int)), rfl, rm.rs.bk, o1, by omega, row, .inl ⟨t, _, _, _, _, rfl, pt, .inl ⟨_, rfl, rfl⟩, .inl ⟨_, rfl, rfl⟩, rfl⟩, fun no => absurd ⟨by omega, by omega⟩ no, fun d' _ hd' => ⟨fun _ => ?_, fun no => ?_⟩⟩
      · rw [show ((m.2 : Int)).toNat = m.2 by omega, hd] at hd'
        obtain rfl := Option.some.inj hd'
        refine ⟨_, rfl, _, rfl, Rq, _, (i : Int), .str (ledM ds z m), rfl, rfl, SqL.of rm.hR, at_int eR, rfl, _, rfl, ?_⟩
        rw [el, decide_eq_true (show V.str (ledS d.1 d.2.1 z (m.1 : Int)) = V.str (ledS d.1 d.2.1 z (m.1 : Int)) from rfl)]
        refine iteF ⟨_, rfl, _, rfl, _, rfl, Rq, _, (i : Int), .str (ledM ds z m), rfl, rfl, SqL.of rm.hR, at_int eR, L, ps, es, (ledM ds z m).cps.toList, rfl, hL, pd, l4, nde, lf1, ?_, fun H1 s1 => ?_⟩
        · show (ledM ds z m).length ≤ 1000
          omega
        refine ⟨_, rfl, _, rfl, L, ps, es, z.cps.toList, rfl, s1 _ _ hL, pd.mono fun _ _ _ q => q.same s1, l4, nde, wd, (show z.length ≤ 1000 by omega), fun H2 s2 => ⟨_, _, rfl, rfl, _, rfl, ?_⟩⟩
        rw [decide_eq_false (show ¬ (wtC es z.cps.toList ≤ wtC es (ledM ds z m).cps.toList) by omega)]
        have s12 := Same.trans s1 s2
        exact iteF ⟨_, _, _, rfl, rm.same s12, gr0.same s12⟩
      · rw [show ((m.2 : Int)).toNat = m.2 by omega, hd] at hd'
        obtain rfl := Option.some.inj hd'
        unfold fN at ft
        rw [ft] at no
        cases no
    · clear rm gr0
      rintro σ' G ⟨y7, y11, y12, rfl, rm, gr0⟩
      -- values of which many are no moves
      refine ⟨_, rfl, _, rfl, c, p, n, z, rfl, by omega, rm.rs.pen, by omega, fun D H1 xs dd Dp hD dds dl ink => ⟨D, rfl, ⟨_, SqL.of hD⟩, ?_⟩⟩
      have g1 := (Gr.start rm.rs.pen rm.rs.tabs).ink ink
      have rm1 := rm.gr g1
      have gr1 := gr0.trans g1
      have dl' := dds.1
      clear rm gr0 g1 ink
      refine for_it walk_list (fun i σ' G => ∃ y7 y8 y12, σ' = [some (.ref p), some (.ref b), some (.ref L), some (.ref F), some (.str z), some (.ref Mq), some (.ref Rq), y7, y8, some (.ref q9), some (.ref q10), y11, y12] ∧ Gr T3 c p (n + 2) H1 G) ⟨_, _, _, rfl, Gr.start rm1.rs.pen rm1.rs.tabs⟩ (fun i σ' G _ y => by obtain ⟨_, _, _, _, g⟩ := y; exact SqL.of (g.at_ hD Dp)) ?_ ?_
      · rintro i x σ' G' G hi ⟨y7, y8, y12, rfl, gi⟩ ⟨eG, hx⟩
        subst eG
        have rmi := rm1.gr gi
        obtain ⟨d, hd⟩ : ∃ d, dd[i]? = some d := ⟨_, List.getElem?_eq_getElem (by omega)⟩
        obtain ⟨v, hv, dat⟩ := (dds.gr rm1.rs.pen gi).2 i _ hd
        obtain rfl : x = v := Option.some.inj (hx.symm.trans hv)
        refine ⟨_, rfl, _, rfl, _, rfl, p, F, ds, z, x, d, rfl, dat, rmi.rs.its, o14, d8, by omega, fun H2 s2 => ?_⟩
        generalize edu : dueK ds z d = du
        replace gi := gi.same s2
        replace rmi := rmi.same s2
        replace dat := dat.same s2
        refine ⟨rmi.rs.tabs, fun H8 eN T8 H9 Q' s9 hk => ?_⟩
        have g29 := ((Gr.start rmi.rs.pen rmi.rs.tabs).extN eN T8).same s9
        replace gi := gi.trans g29
        replace dat := dat.gr rmi.rs.pen g29
        replace rmi := rmi.gr g29
        clear eN T8 s9 g29 s2
        obtain ⟨dx, bq, br, bxs, bys, hb, _⟩ := rmi.rs.bk
        refine ⟨_, rfl, b, dx, _, rfl, hb, bf_no rfl rfl, _, rfl, _, rfl, rfl, ?_⟩
        refine ⟨b, es, ds, z, x, moveOf d, rfl, rmi.rs.bk, o1, by omega, row, dat.mv, ?_⟩
        refine heard_led edu hk fun G2 tv sG told => ?_
        replace gi := gi.same sG
        replace rmi := rmi.same sG
        replace dat := dat.same sG
        clear hk hb sG
        cases du with
        | none =>
          obtain ⟨pp, ii, d', em, i0, hd', hf, rfl⟩ := told
          obtain ⟨t, rfl, ht⟩ := move_deed dat em
          obtain ⟨p0, _⟩ := fit_bounds hf
          have gd := good d' (List.mem_of_getElem? hd')
          have mvt : MoveAt G2 t pp.toNat ii.toNat := by
            unfold MoveAt
            rw [show ((pp.toNat : Nat) : Int) = pp by omega, show ((ii.toNat : Nat) : Int) = ii by omega]
            exact ht
          refine ⟨_, rfl, _, rfl, iteT ⟨_, rfl, _, rfl, _, rfl, _, rfl, F, t, ds, z, pp.toNat, ii.toNat, d', rfl, rmi.rs.its, mvt, hd', gd.2.2.2.1, gd.2.2.2.2.1, by omega, fun H3 s3 => ⟨rfl, _, rfl, ?_⟩⟩⟩
          have el : ledM ds z (pp.toNat, ii.toNat) = ledS d'.1 d'.2.1 z pp := by
            unfold ledM
            dsimp only
            rw [hd']
            dsimp only
            rw [show ((pp.toNat : Nat) : Int) = pp by omega]
          rw [el, decide_eq_true (show V.str (ledS d'.1 d'.2.1 z pp) = V.str (ledS d'.1 d'.2.1 z pp) from rfl)]
          exact iteF ⟨_, rfl, _, rfl, iteF (iteF ⟨_, _, _, rfl, gi.same s3⟩)⟩
        | some w =>
          obtain ⟨q, rfl, hq⟩ := told
          refine ⟨_, rfl, _, rfl, iteF (iteF ⟨_, rfl, _, rfl, iteT ⟨_, rfl, _, rfl, by show 2 ≤ sizeLine; decide, fun t2 ht2 => ?_⟩⟩)⟩
          have s3 : Same G2 (upd G2 t2 (.tup [.str "move", .str w])) := Same.new ht2
          refine ⟨.tuple [.str "move", .str w], .tuple [.str "move", .str w], .tup (SqT.of (s3 _ _ hq)) (.cons (.str _) (.cons (.str _) .nil)), .tup (SqT.of upd_same) (.cons (.str _) (.cons (.str _) .nil)), shaped_word (due_words edu), shaped_word (due_words edu), _, rfl, ?_⟩
          rw [eqv_word]
          exact iteF ⟨_, _, _, rfl, gi.same s3⟩
      · rintro σ' G ⟨y7, y8, y12, rfl, gi⟩
        exact k G (gr1.trans gi)
end
end Kx
set_option Elab.async false
set_option maxRecDepth 100000
set_option autoImplicit false
set_option pp.maxSteps 400
set_option pp.deepTerms false
/-! _law_refused -/
namespace Kx
open PySem L2 PySem.Spec PyProof.Rows Rg Er Ru Tn LamX ClX
/-- all but few letters are no sign -/
theorem filter_ne_len {d : Nat} : ∀ {l : List Nat}, l.Nodup → l.length ≤ (l.filter fun c => !decide (c = d)).length + 1
  | [], _ => Nat.zero_le _
  | a :: r, nd => by
    have h := List.nodup_cons.mp nd
    by_cases e : a = d
    · subst e
      have : (r.filter fun c => !decide (c = a)) = r := List.filter_eq_self.mpr fun c hc => by
        have : c ≠ a := fun z => h.1 (z ▸ hc)
        simpa using this
      rw [List.filter_cons_of_neg (by simp), this]
      simp
    · rw [List.filter_cons_of_pos (by simpa using e)]
      have := filter_ne_len (d := d) h.2
      simp only [List.length_cons]
      omega
theorem filter_out_len : ∀ (cs l : List Nat), l.Nodup → l.length ≤ (l.filter fun c => !decide (c ∈ cs)).length + cs.length
  | [], l, _ => by
    have : (l.filter fun c => !decide (c ∈ ([] : List Nat))) = l := List.filter_eq_self.mpr fun c _ => by simp
    rw [this]
    exact Nat.le_refl _
  | d :: cs, l, nd => by
    have h1 := filter_out_len cs l nd
    have h2 := filter_ne_len (d := d) (List.Pairwise.filter (fun c => !decide (c ∈ cs)) nd)
    rw [List.filter_filter] at h2
    have e : (l.filter fun c => !decide (c ∈ d :: cs)) = l.filter fun c => (!decide (c = d)) && !decide (c ∈ cs) := by
      refine List.filter_congr fun c _ => ?_
      by_cases a : c = d <;> by_cases b : c ∈ cs <;> simp [a, b]
    rw [e]
    simp only [List.length_cons]
    omega
theorem abc_nodup : abc.cps.toList.Nodup := by decide +kernel
theorem flatSgs (cs : List Nat) : (cs.map sg).all flatV = true := by
  rw [List.all_map]
  exact List.all_eq_true.mpr fun _ _ => rfl
theorem inV_sg (c : Nat) (ds : List Nat) : inV (sg c) (ds.map sg) = decide (c ∈ ds) := by
  refine Bool.eq_iff_iff.mpr ?_
  unfold inV
  rw [List.any_eq_true, decide_eq_true_iff]
  constructor
  · rintro ⟨y, hy, e⟩
    obtain ⟨d, hd, rfl⟩ := List.mem_map.mp hy
    have e' : ((⟨#[d]⟩ : Str) == ⟨#[c]⟩) = true := e
    rw [beq_iff_eq] at e'
    have := congrArg (fun s : Str => s.cps.toList) e'
    have : d = c := by simpa using this
    rw [← this]; exact hd
  · intro h
    exact ⟨sg c, List.mem_map.mpr ⟨c, h, rfl⟩, by show ((⟨#[c]⟩ : Str) == ⟨#[c]⟩) = true; exact beq_self_eq_true _⟩
theorem lstrip_odd {z a s b : Str} {c : Nat} (ha : Word z a) (hs : s.cps.toList = [c]) (hc : c ∉ z.cps.toList) : Txt.lstripChars (a ++ s ++ b) z = s ++ b := by
  have el : (a ++ s ++ b).cps.toList = a.cps.toList ++ (c :: b.cps.toList) := by
    rw [Str.cps_append, Array.toList_append, Str.cps_append, Array.toList_append, hs, List.append_assoc]
    rfl
  have pc : z.cps.contains c = false := by
    rw [Bool.eq_false_iff]
    intro q
    exact hc (by simpa using q)
  have e : (a ++ s ++ b).cps.toList.takeWhile z.cps.contains = a.cps.toList := by
    rw [el, List.takeWhile_append_of_pos (fun d hd => by have := ha d hd; simpa using this), List.takeWhile_cons, pc]
    simp
  have lo : stripLo z.cps.contains true (a ++ s ++ b) = a.cps.size := by unfold stripLo; simp [e]
  have len : (a ++ s ++ b).length = a.cps.size + (s ++ b).length := by
    show (a ++ s ++ b).cps.size = a.cps.size + (s ++ b).cps.size
    rw [Str.cps_append, Str.cps_append, Str.cps_append, Array.size_append, Array.size_append, Array.size_append, Nat.add_assoc]
  show Txt.stripBy z.cps.contains true false (a ++ s ++ b) = s ++ b
  unfold Txt.stripBy stripSame stripped
  rw [lo]
  have hi : stripHi z.cps.contains false (a ++ s ++ b) a.cps.size = (a ++ s ++ b).length := rfl
  rw [hi]
  have cut : (⟨(a ++ s ++ b).cps.extract a.cps.size (a ++ s ++ b).length⟩ : Str) = s ++ b := by
    refine TL.ext_tl ?_
    show ((a ++ s ++ b).cps.extract a.cps.size (a ++ s ++ b).length).toList = (s ++ b).cps.toList
    rw [Array.toList_extract, el, Str.cps_append, Array.toList_append, hs]
    show ((a.cps.toList ++ (c :: b.cps.toList)).drop a.cps.size).take ((a ++ s ++ b).length - a.cps.size) = [c] ++ b.cps.toList
    have l2 : (s ++ b).length = (c :: b.cps.toList).length := by
      show (s ++ b).cps.size = _
      rw [Str.cps_append, Array.size_append, ← Array.length_toList (xs := s.cps), hs, ← Array.length_toList (xs := b.cps)]
      simp
      omega
    rw [show a.cps.size = a.cps.toList.length by simp, List.drop_left, len, l2, show a.cps.size = a.cps.toList.length by simp, Nat.add_sub_cancel_left, List.take_length]
    rfl
  have pos : 0 < (s ++ b).length := by
    show 0 < (s ++ b).cps.size
    rw [Str.cps_append, Array.size_append, ← Array.length_toList (xs := s.cps), hs]
    simp
    omega
  split
  · rename_i q
    have q0 : a.cps.toList = [] := by
      have z0 : a.cps.size = 0 := by simpa using (Bool.and_eq_true_iff.mp q).1
      exact List.eq_nil_of_length_eq_zero (by simpa using z0)
    refine TL.ext_tl ?_
    show (a ++ s ++ b).cps.toList = (s ++ b).cps.toList
    rw [el, q0, Str.cps_append, Array.toList_append, hs]
    rfl
  · exact cut
abbrev sLRef : Stmt := top 59
def OddV (es : List (Nat × Int)) (p : Addr) (G : Hp) (v : V) (i : Int) : Prop :=
  (∃ wd : Str, v = .str wd ∧ wd.length ≤ 1000 ∧ Txt.lstripChars wd (letters es) ≠ Str.empty ∧ (Txt.lstripChars wd (letters es)).length ≤ 1000 ∧ i = (wd.length : Nat) - ((Txt.lstripChars wd (letters es)).length : Nat)) ∨
  ((v = .non ∨ v = .int 7 ∨ ∃ l zs, v = .ref l ∧ l ≠ p ∧ G l = some (.lst zs)) ∧ i = 0)
theorem OddV.gr {es : List (Nat × Int)} {T : List (Addr × Str)} {c p : Addr} {m : Nat} {H H' : Hp} {v : V} {i : Int} (h : OddV es p H v i) (g : Gr T c p m H H') : OddV es p H' v i := by
  rcases h with h | ⟨h | h | ⟨l, zs, a, b, h⟩, e⟩
  · exact .inl h
  · exact .inr ⟨.inl h, e⟩
  · exact .inr ⟨.inr (.inl h), e⟩
  · exact .inr ⟨.inr (.inr ⟨l, zs, a, b, g.at_ h b⟩), e⟩
theorem OddV.same {es : List (Nat × Int)} {p : Addr} {H H' : Hp} {v : V} {i : Int} (h : OddV es p H v i) (s : Same H H') : OddV es p H' v i := by
  rcases h with h | ⟨h | h | ⟨l, zs, a, b, h⟩, e⟩
  · exact .inl h
  · exact .inr ⟨.inl h, e⟩
  · exact .inr ⟨.inr (.inl h), e⟩
  · exact .inr ⟨.inr (.inr ⟨l, zs, a, b, s _ _ h⟩), e⟩
theorem OddV.bad {K : PySem.W.Frag} {es : List (Nat × Int)} {p : Addr} {H : Hp} {v : V} {i : Int} (h : OddV es p H v i) : Bad K H (letters es) v i := by
  rcases h with h | ⟨h | h | ⟨l, zs, a, b, h⟩, e⟩
  · exact .inl h
  · subst h; exact .inr ⟨_, .base .non, kit_ty (by decide +kernel), e⟩
  · subst h; exact .inr ⟨_, .base (.int _), kit_ty (by decide +kernel), e⟩
  · subst a; exact .inr ⟨_, .base (.lst h), kit_ty (by decide +kernel), e⟩
def OdT (es : List (Nat × Int)) (p : Addr) (G : Hp) (u : V) : Prop := ∃ t v i, u = .ref t ∧ G t = some (.tup [v, .int i]) ∧ OddV es p G v i
theorem OdT.same {es : List (Nat × Int)} {p : Addr} {H H' : Hp} {u : V} (h : OdT es p H u) (s : Same H H') : OdT es p H' u := let ⟨t, v, i, a, b, c⟩ := h; ⟨t, v, i, a, s _ _ b, c.same s⟩
theorem OdT.gr {es : List (Nat × Int)} {T : List (Addr × Str)} {c p : Addr} {n m : Nat} {H H' : Hp} {u : V} (h : OdT es p H u) (pen : PenAt c n H p) (g : Gr T c p m H H') : OdT es p H' u := let ⟨t, v, i, a, b, c⟩ := h; ⟨t, v, i, a, (g.at_ b (pen.neO b fun _ z => nomatch z)), c.gr g⟩
/-- a text with a letter behind a row that is none of the signs -/
theorem oddText {es : List (Nat × Int)} {p : Addr} {G : Hp} {a s b : Str} {c : Nat} (ha : ∀ d ∈ a.cps.toList, d ∈ es.map (·.1)) (hs : s.cps.toList = [c]) (hc : c ∉ es.map (·.1)) (l1 : a.length ≤ 100) (l2 : b.length ≤ 100) : OddV es p G (.str (a ++ s ++ b)) (a.length : Int) := by
  have wa : Word (letters es) a := fun d hd => by simpa [letters] using ha d hd
  have nc : c ∉ (letters es).cps.toList := by simpa [letters] using hc
  have e := lstrip_odd (b := b) wa hs nc
  have sl : s.length = 1 := by have : s.length = s.cps.toList.length := by simp [Str.length]
                               rw [this, hs]; rfl
  refine .inl ⟨_, rfl, by rw [app_len', app_len']; omega, ?_, by rw [e, app_len']; omega, by rw [e, app_len', app_len', app_len']; omega⟩
  rw [e]
  intro z
  have := congrArg Str.length z
  rw [app_len', sl] at this
  have z0 : Str.empty.length = 0 := rfl
  omega
theorem heard_row {T : List (Addr × Str)} {CM CO c p : Addr} {n : Nat} {t : XK → TE} {σ : L2.St} {G : Hp} {Q : VK} {i : Int} (pen : PenAt c n G p) (tabs : Tabs T G)
    (rd : ∀ (G1 : Hp) (Qn : VK) (E : XK), Gr T c p n G G1 → (∀ G3, Same G1 G3 → raised CO "at" (.int i) E G3) → t E σ G1 Qn) (k : ∀ (G' : Hp) (q : Addr), Gr T c p n G G' → G' q = some (.tup [.str "row", .int i]) → Q (.ref q) G') : tLam T (TTheard CM CO) t σ G Q :=
  ⟨tabs, fun G1 eN T1 G2 Q' s _ => rd G2 Q' _ (((Gr.start pen tabs).extN eN T1).same s) fun G3 s3 => told_row fun q H' s2 hq => k H' q (((((Gr.start pen tabs).extN eN T1).same s).same s3).same s2) hq⟩
theorem row_gr {T : List (Addr × Str)} {c p q : Addr} {n m : Nat} {G G' : Hp} {xs : List V} (h : G q = some (.tup xs)) (pen : PenAt c n G p) (g : Gr T c p m G G') : G' q = some (.tup xs) := (Kp.gr pen g).t _ _ h
theorem row_put {q D : Addr} {G : Hp} {xs ys zs : List V} (h : G q = some (.tup xs)) (hD : G D = some (.lst ys)) : upd G D (.lst zs) q = some (.tup xs) := (Kp.put hD).t _ _ h
def rowD (i : Int) : PyData := .tuple [.str "row", .int i]
theorem eqv_rows (i : Int) : PyData.eqv (.list [rowD i, rowD i, rowD i, rowD i, rowD i]) (.list [rowD i, rowD i, rowD i, rowD i, rowD i]) = true := by simp [rowD, PyData.eqv, PyData.eqvAll]
theorem shaped_rows (i : Int) : SeqAt.shaped (.list [rowD i, rowD i, rowD i, rowD i, rowD i]) = true := by
  have e : PyData.strOk ("row" : Str) = true := by decide +kernel
  simp [SeqAt.shaped, rowD, PyData.canLay0, PyData.canLayAll0, PyData.depth, PyData.depthAll, e]
theorem dp_row {K : PySem.W.Frag} {G : Hp} {q : Addr} {i : Int} (h : G q = some (.tup [.str "row", .int i])) : Dp K G (.ref q) (rowD i) := .tup (SqT.of h) (.cons (.str _) (.cons (.int _) .nil))
def spLRef (T3 : List (Addr × Str)) (C CW CR : Addr) : Sp := fun vs H Q _ => ∃ (c p L F b S : Addr) (n : Nat) (es : List (Nat × Int)) (ds : List RD) (z : Str), vs = [.ref p, .ref b, .ref S, .str z] ∧ n ≤ 400000 ∧ RS T3 C CW CR c p L F b n es ds H ∧ S ≠ p ∧ H S = some (.lst ((es.map (·.1)).map sg)) ∧ (∀ c ∈ z.cps.toList, c ∈ es.map (·.1)) ∧ z.length ≤ 9 ∧
  ∀ H', Gr T3 c p (n + 2) H H' → Q (.bl true) H'
section
variable {P : Program} {w : World} {K : PySem.W.Frag} {mg : Str → Option Value} {base : Heap}
abbrev nLRef : List Str := ["_law_pen_here", "_law_book_here", "_law_signs", "_law_there", "_law_at", "_law_other", "_law_letter", "_law_odds", "_law_odd", "_law_due", "_law_told"]
theorem scLRef : FnScope nLRef ["_law_pen_here", "_law_book_here", "_law_signs", "_law_there"] (defScope sLRef) := ⟨rfl, rfl, rfl, by decide +kernel, rfl, by decide +kernel, by decide +kernel⟩
set_option maxHeartbeats 0 in
theorem ok_lRef {C CW CR CM CO f cd tab g f1 : Addr} {T3 : List (Addr × Str)} {cdg oc dV kV doc pm ct oc' kV' doc' pm' ct' : Value} {an od an' od' : Option Addr} {osl osl' : Array (Option Value)} {fd1 : FuncData} (T : Txt mg) (B : BF7 P w K mg base C CW CR CM CO) (Hh : Hd K mg g cdg oc dV kV doc pm ct an od osl)
    (lkL : K.lookup f = some ⟨oc', od', .func (PySem.W.fnOf "_law_refused" "_law_refused" (defArgs sLRef) (defBody sLRef) (defScope sLRef) .none kV' doc' pm' an' (.ref cd) ct'), osl'⟩) (hcL : PySem.W.codeIn K (.ref cd) "_law_refused" = true) (TB : TabB base mg cd tab)
    (hT : (tab, lamQ "_law_refused") ∈ T3) (hu : ∀ p ∈ T3, p.1 = tab → p.2 = lamQ "_law_refused")
    (G1 : FnOk P w K mg base CX0 1 f1 fd1 ["_law_pen_here", "_law_many"] spDraw) (m1 : mg "_law_draw" = some (.ref f1)) (k1 : PySem.W.keepIn K (.ref f1) = true) (b1 : L2.Binds K fd1 ["_law_pen_here", "_law_many"] []) :
    FnG P w K mg base CX0 11 f (PySem.W.fnOf "_law_refused" "_law_refused" (defArgs sLRef) (defBody sLRef) (defScope sLRef) .none kV' doc' pm' an' (.ref cd) ct') ["_law_pen_here", "_law_book_here", "_law_signs", "_law_there"] (spLRef T3 C CW CR) := by
  obtain ⟨M, ⟨gC, fdC, co, _, FC, bC⟩, ⟨gF, fdF, mF, _, FF, bF⟩, ⟨gL, fdL, mL, _, FL, bL⟩, ⟨gD, fdD, mD, _, FD, bD, kbD⟩, hear⟩ := B
  refine fnG_of lkL hcL scLRef (fun vs H Q E h => ?_) (fun A outer s H vs Q E hg hr h => ?_)
  · obtain ⟨c, p, L, F, b, S, n, es, ds, z, rfl, _⟩ := h
    rfl
  · obtain ⟨c, p, L, F, b, S, n, es, ds, z, rfl, nb, rs, Sp, hS, wd, zl, k⟩ := h
    have nd := scLRef.nd
    have hr1 := hr.mono (show 1 ≤ 10 by decide)
    refine ⟨_, (pss_cons (ps_set (i := 4) nd rfl (.inl rfl) (pe_call G1 hr1 (by rfl) m1 k1 b1 .nil pass0 (pa_cons (pv 0) (pa_cons (pe_op op_add (bLen (by rfl) T.len (pv 3)) pe_int) pa_nil))))
      (pss_cons (ps_set (i := 5) nd rfl (.inl rfl) (bIx (pe_lc (own := [("_law_letter", 6)]) (g := gName 6) (tt := tTest (tOp (rIn K true) (tVar 6) (tVar 2))) (te := tVar 6) rfl nd (pi_str pe_str) (blkOk_by (own := [("_law_letter", 6)]) (N := nLRef) (sc := defScope sLRef) (by decide +kernel)) (fun _ _ _ _ _ => (pg_name (i := 6) nd rfl (Or.inl rfl))) (fun _ _ _ _ _ => pts_one (pt_cmpR op_notIn_seq (pv 6) (pv 2) rfl)) (fun _ _ _ _ _ => (pv 6))) (pe_call G1 hr1 (by rfl) m1 k1 b1 .nil pass0 (pa_cons (pv 0) (pa_cons pe_int pa_nil)))))
      (pss_cons (ps_set (i := 7) nd rfl (.inl rfl) (pe_lst (pa_cons (pe_tup (pa_cons (pe_op op_add_str (pe_op op_add_str (pe_slice sl_str (pv 3) po_none (po_some (pv 4))) (pv 5)) (pe_slice sl_str (pv 3) (po_some (pv 4)) po_none)) (pa_cons (pv 4) pa_nil))) (pa_cons (pe_tup (pa_cons (pe_op op_add_str (pe_op op_add_str (pv 3) pe_str) (pv 5)) (pa_cons (bLen (by rfl) T.len (pv 3)) pa_nil))) (pa_cons (pe_tup (pa_cons pe_non (pa_cons pe_int pa_nil))) (pa_cons (pe_tup (pa_cons (pe_lst (pa_cons (pv 3) pa_nil)) (pa_cons pe_int pa_nil))) pa_nil))))))
      (pss_cons (ps_for PassesOwn.never rfl (pi_list (pe_op op_cat (pv 7) (pe_lst (pa_cons (pe_tup (pa_cons pe_int (pa_cons pe_int pa_nil))) pa_nil)))) (pg_tup rfl (pgs_cons (pg_name (i := 8) nd rfl (Or.inr rfl)) (pgs_cons (pg_name (i := 9) nd rfl (Or.inl rfl)) pgs_nil))) (pss_cons (ps_set (i := 10) nd rfl (.inl rfl) (pe_lst (pa_cons (pe_hear (T := T3) (t := fun E => tCallOS C (spBBad K C CW CR CO) (fun _ => E) (tVar 1) (tCons (tVar 8) tNil)) hr hear Hh.hm Hh.hk Hh.lk Hh.hcg Hh.hb TB hT hu (by rfl) (lamS_by (by decide +kernel)) rfl (fun _ _ _ _ _ => rfl) (fun A' outer' s' H' E f' c' hr' => pe_callOS (E := fun _ => E) (pv 1) co FC (hr'.mono (show 4 ≤ 8 by decide)) bC (fun σ => passAt (takes_of (E := E) rfl rfl rfl rfl) σ) (pa_cons (pv 8) pa_nil))) pa_nil)))
      (pss_cons (ps_expr (pe_bm PySem.F.plainAttrs_list PySem.F.slot_list_append PySem.F.type_list_append mt_append (pv 10) (pa_cons (pe_hear (T := T3) (t := fun E => tMeth C "led_to" (spBBad K C CW CR CO) [] E (tVar 1) (tCons (tVar 8) tNil)) hr hear Hh.hm Hh.hk Hh.lk Hh.hcg Hh.hb TB hT hu (by rfl) (lamS_by (by decide +kernel)) rfl (fun _ _ _ _ _ => rfl) (fun A' outer' s' H' E f' c' hr' => pe_meth (pv 1) M.cl mL FL (hr'.mono (show 4 ≤ 8 by decide)) bL .nil (passes_call (takes_of (E := E) rfl rfl rfl rfl) fun _ _ _ _ h => h) (pa_cons (pv 8) pa_nil))) pa_nil)))
      (pss_cons (ps_expr (pe_bm PySem.F.plainAttrs_list PySem.F.slot_list_append PySem.F.type_list_append mt_append (pv 10) (pa_cons (pe_hear (T := T3) (t := fun E => tMeth C "finished" (spBBad K C CW CR CO) [] E (tVar 1) (tCons (tVar 8) tNil)) hr hear Hh.hm Hh.hk Hh.lk Hh.hcg Hh.hb TB hT hu (by rfl) (lamS_by (by decide +kernel)) rfl (fun _ _ _ _ _ => rfl) (fun A' outer' s' H' E f' c' hr' => pe_meth (pv 1) M.cl mF FF (hr'.mono (show 4 ≤ 8 by decide)) bF .nil (passes_call (takes_of (E := E) rfl rfl rfl rfl) fun _ _ _ _ h => h) (pa_cons (pv 8) pa_nil))) pa_nil)))
      (pss_cons (ps_expr (pe_bm PySem.F.plainAttrs_list PySem.F.slot_list_append PySem.F.type_list_append mt_append (pv 10) (pa_cons (pe_hear (T := T3) (t := fun E => tMeth C "led" (spBBad2 K C CW CR CO) [] E (tVar 1) (tCons (tVar 8) (tCons (tTup (tCons (tC (.int 0)) (tCons (tC (.int 0)) tNil))) tNil))) hr hear Hh.hm Hh.hk Hh.lk Hh.hcg Hh.hb TB hT hu (by rfl) (lamS_by (by decide +kernel)) rfl (fun _ _ _ _ _ => rfl) (fun A' outer' s' H' E f' c' hr' => pe_meth (pv 1) M.cl mD FD (hr'.mono (show 4 ≤ 8 by decide)) bD .nil (passes_call (takes_of (E := E) rfl rfl rfl rfl) fun _ _ _ _ h => h) (pa_cons (pv 8) (pa_cons (pe_tup (pa_cons pe_int (pa_cons pe_int pa_nil))) pa_nil)))) pa_nil)))
      (pss_cons (ps_expr (pe_bm PySem.F.plainAttrs_list PySem.F.slot_list_append PySem.F.type_list_append mt_append (pv 10) (pa_cons (pe_hear (T := T3) (t := fun E => tMeth C "led" (spBBad2 K C CW CR CO) [] E (tVar 1) (tCons (tVar 8) (tCons (tC .non) tNil))) hr hear Hh.hm Hh.hk Hh.lk Hh.hcg Hh.hb TB hT hu (by rfl) (lamS_by (by decide +kernel)) rfl (fun _ _ _ _ _ => rfl) (fun A' outer' s' H' E f' c' hr' => pe_meth (pv 1) M.cl mD FD (hr'.mono (show 4 ≤ 8 by decide)) bD .nil (passes_call (takes_of (E := E) rfl rfl rfl rfl) fun _ _ _ _ h => h) (pa_cons (pv 8) (pa_cons pe_non pa_nil)))) pa_nil)))
      (pss_one (ps_if (pt_cmpR (op_neD hr.units) (pv 10) (pe_op op_rep (pe_lst (pa_cons (pe_tup (pa_cons pe_str (pa_cons (pv 9) pa_nil))) pa_nil)) pe_int) (nomark _)) (pss_one (ps_never)) pss_nil))))))))
      (pss_one (ps_ret pe_bl)))))), ?_⟩
    refine ⟨_, rfl, _, rfl, _, z.length, rfl, ⟨len_small (by omega), rfl⟩, _, _, rfl, rfl, c, p, (z.length : Int) + 1, n, rfl, by omega, by omega, by omega, rs.pen, fun r H1 r0 r1 pen1 x1 => ?_⟩
    obtain ⟨at_i, rfl⟩ : ∃ m : Nat, r = (m : Int) := ⟨r.toNat, by omega⟩
    have g1 := (Gr.start rs.pen rs.tabs).ink (m := n + 1) ⟨x1, pen1⟩
    have hS1 := g1.at_ hS Sp
    -- another letter
    refine ⟨abc, rfl, fun B hB => ?_⟩
    have Bp := g1.pen.ne1 hB
    refine lcSel walk_str (fun i H' acc => Same H1 H' ∧ acc = ((abc.cps.toList.take i).filter fun c => !decide (c ∈ es.map (·.1))).map sg) (by rw [sizeLine_eq]; decide) ⟨Same.new hB, rfl⟩ (fun _ _ _ _ _ => trivial) (fun _ _ _ _ y => y.1) ?_ ?_
    · rintro i x H' acc Q' Qf hi hDl hla ⟨s4, rfl⟩ ⟨_, c, hc, rfl⟩ hq hf
      have tk : abc.cps.toList.take (i + 1) = abc.cps.toList.take i ++ [c] := by
        rw [List.take_add_one, Array.getElem?_toList, hc]; rfl
      refine ⟨_, rfl, _, rfl, S, _, rfl, .inl (SqL.of (s4 _ _ hS1)), rfl, flatSgs _, _, rfl, ?_⟩
      have e : inV (V.str ⟨#[c]⟩) ((es.map (·.1)).map sg) = decide (c ∈ es.map (·.1)) := inV_sg c _
      rw [e]
      by_cases m : c ∈ es.map (·.1)
      · rw [decide_eq_true m]
        refine iteF (hf _ hDl ⟨s4, ?_⟩)
        rw [tk, List.filter_append, List.filter_cons_of_neg (by simpa using m), List.filter_nil, List.append_nil]
      · rw [decide_eq_false m]
        refine iteT ⟨_, rfl, hq _ _ hDl ⟨Same.putNew hB s4, ?_⟩⟩
        rw [tk, List.filter_append, List.filter_cons_of_pos (by simpa using m), List.filter_nil, List.map_append]
        rfl
    rintro H2 acc hB2 hla ⟨s2, rfl⟩
    have l4 : es.length ≤ 4 := by obtain ⟨_, _, _, _, l4, _⟩ := rs.po; exact l4
    have csl : (es.map (·.1)).length = es.length := by simp
    have len22 := filter_out_len (es.map (·.1)) abc.cps.toList abc_nodup
    rw [show abc.cps.toList.length = 26 from by decide +kernel] at len22
    have g2 := g1.same s2
    refine ⟨_, rfl, c, p, 9, n + 1, rfl, by decide, by decide, by omega, g2.pen, fun r H3 r0' r1' pen3 x3 => ?_⟩
    obtain ⟨rn, rfl⟩ : ∃ m : Nat, r = (m : Int) := ⟨r.toNat, by omega⟩
    have g3 := g2.ink (m := n + 1 + 1) ⟨x3, pen3⟩
    have hB3 := x3 _ _ Bp hB2
    rw [List.take_of_length_le (by decide +kernel)] at hB3
    obtain ⟨oc, hoc⟩ : ∃ oc, (abc.cps.toList.filter fun c => !decide (c ∈ es.map (·.1)))[rn]? = some oc := ⟨_, List.getElem?_eq_getElem (by omega)⟩
    have ocn : oc ∉ es.map (·.1) := by
      have := (List.mem_filter.mp (List.mem_of_getElem? hoc)).2
      simpa using this
    have rs3 := rs.gr g3
    have bigA : (65 : Nat) ∉ es.map (·.1) := fun h => by
      obtain ⟨e, he, e2⟩ := List.mem_map.mp h
      have := rs.po.abc e he
      rw [e2] at this
      exact absurd this (by decide +kernel)
    refine ⟨B, _, (rn : Int), sg oc, rfl, rfl, SqL.of hB3, at_int (by rw [List.getElem?_map, hoc]; rfl), ?_⟩
    clear hB3 hB Bp hB2 hla hoc hS1 hS x1 x3 pen1 pen3 s2 len22 csl
    -- the odd values
    have h1 := cutS_length z none (some (at_i : Int))
    have h2 := cutS_length z (some (at_i : Int)) none
    have sl : (⟨#[oc]⟩ : Str).length = 1 := rfl
    have cl : (cutS z none (some (at_i : Int))).length = at_i := by
      show (cutS z none (some (at_i : Int))).cps.size = at_i
      have zl' : z.cps.toList.length = z.length := by simp [Str.length]
      unfold cutS
      rw [List.size_toArray, List.length_take, HT.sIx_nat, show HT.sIx z.length 0 none = 0 from rfl, List.length_drop, zl']
      omega
    have od1 : ∀ G, OddV es p G (.str (cutS z none (some (at_i : Int)) ++ ⟨#[oc]⟩ ++ cutS z (some (at_i : Int)) none)) (at_i : Int) := fun G => by
      have := oddText (p := p) (G := G) (a := cutS z none (some (at_i : Int))) (s := ⟨#[oc]⟩) (b := cutS z (some (at_i : Int)) none) (c := oc) (fun d hd => wd d (cut_sub hd)) rfl ocn (by omega) (by omega)
      rw [cl] at this
      exact this
    have od2 : ∀ G, OddV es p G (.str (z ++ ("A" : Str) ++ ⟨#[oc]⟩)) (z.length : Int) := fun G => oddText (c := 65) wd rfl bigA (by omega) (by rw [sl]; omega)
    refine ⟨_, rfl, _, rfl, _, rfl, z, rfl, len_small (by omega), _, rfl, _, _, rfl, rfl, by rw [sl, sizeLine_eq]; omega, _, rfl, _, rfl, _, rfl, z, rfl, len_small (by omega), _, _, rfl, rfl, by rw [app_len', sl, sizeLine_eq]; omega, _, rfl, by show 2 ≤ sizeLine; decide, fun t1 ht => ?_⟩
    have sn : Same H3 (upd H3 t1 (HO.tup [V.str (cutS z none (some (at_i : Int)) ++ ⟨#[oc]⟩ ++ cutS z (some (at_i : Int)) none), V.int (at_i : Int)])) := Same.new ht
    have en : (upd H3 t1 (HO.tup [V.str (cutS z none (some (at_i : Int)) ++ ⟨#[oc]⟩ ++ cutS z (some (at_i : Int)) none), V.int (at_i : Int)])) t1 = some (HO.tup [V.str (cutS z none (some (at_i : Int)) ++ ⟨#[oc]⟩ ++ cutS z (some (at_i : Int)) none), V.int (at_i : Int)]) := upd_same
    replace rs3 := rs3.same sn
    replace g3 := g3.same sn
    have f1 : OdT es p (upd H3 t1 (HO.tup [V.str (cutS z none (some (at_i : Int)) ++ ⟨#[oc]⟩ ++ cutS z (some (at_i : Int)) none), V.int (at_i : Int)])) (.ref t1) := ⟨t1, _, _, rfl, en, od1 _⟩
    generalize upd H3 t1 (HO.tup [V.str (cutS z none (some (at_i : Int)) ++ ⟨#[oc]⟩ ++ cutS z (some (at_i : Int)) none), V.int (at_i : Int)]) = G1 at sn en rs3 g3 f1 ⊢
    clear sn en ht
    refine ⟨_, rfl, _, _, rfl, rfl, by rw [sizeLine_eq]; show z.length + 1 ≤ _; omega, _, rfl, _, _, rfl, rfl, by rw [app_len', sl, sizeLine_eq]; show z.length + 1 + 1 ≤ _; omega, _, rfl, _, z.length, rfl, ⟨len_small (by omega), rfl⟩, by show 2 ≤ sizeLine; decide, fun t2 ht => ?_⟩
    have sn : Same G1 (upd G1 t2 (HO.tup [V.str (z ++ ("A" : Str) ++ ⟨#[oc]⟩), V.int (z.length : Int)])) := Same.new ht
    have en : (upd G1 t2 (HO.tup [V.str (z ++ ("A" : Str) ++ ⟨#[oc]⟩), V.int (z.length : Int)])) t2 = some (HO.tup [V.str (z ++ ("A" : Str) ++ ⟨#[oc]⟩), V.int (z.length : Int)]) := upd_same
    replace rs3 := rs3.same sn
    replace g3 := g3.same sn
    replace f1 := f1.same sn
    have f2 : OdT es p (upd G1 t2 (HO.tup [V.str (z ++ ("A" : Str) ++ ⟨#[oc]⟩), V.int (z.length : Int)])) (.ref t2) := ⟨t2, _, _, rfl, en, od2 _⟩
    generalize upd G1 t2 (HO.tup [V.str (z ++ ("A" : Str) ++ ⟨#[oc]⟩), V.int (z.length : Int)]) = G2 at sn en rs3 g3 f1 f2 ⊢
    clear sn en ht
    refine ⟨by show 2 ≤ sizeLine; decide, fun t3 ht => ?_⟩
    have sn : Same G2 (upd G2 t3 (HO.tup [V.non, V.int 0])) := Same.new ht
    have en : (upd G2 t3 (HO.tup [V.non, V.int 0])) t3 = some (HO.tup [V.non, V.int 0]) := upd_same
    replace rs3 := rs3.same sn
    replace g3 := g3.same sn
    replace f1 := f1.same sn
    replace f2 := f2.same sn
    have f3 : OdT es p (upd G2 t3 (HO.tup [V.non, V.int 0])) (.ref t3) := ⟨t3, _, _, rfl, en, .inr ⟨.inl rfl, rfl⟩⟩
    generalize upd G2 t3 (HO.tup [V.non, V.int 0]) = G3 at sn en rs3 g3 f1 f2 f3 ⊢
    clear sn en ht
    refine ⟨_, rfl, by show 1 ≤ sizeLine; decide, fun l4 ht => ?_⟩
    have lp4 := rs3.pen.ne1 ht
    have sn : Same G3 (upd G3 l4 (HO.lst [V.str z])) := Same.new ht
    have en : (upd G3 l4 (HO.lst [V.str z])) l4 = some (HO.lst [V.str z]) := upd_same
    replace rs3 := rs3.same sn
    replace g3 := g3.same sn
    replace f1 := f1.same sn
    replace f2 := f2.same sn
    replace f3 := f3.same sn
    have e4 : (upd G3 l4 (HO.lst [V.str z])) l4 = some (.lst [.str z]) := en
    generalize upd G3 l4 (HO.lst [V.str z]) = G4 at sn en rs3 g3 f1 f2 f3 e4 ⊢
    clear sn en ht
    refine ⟨by show 2 ≤ sizeLine; decide, fun t4 ht => ?_⟩
    have sn : Same G4 (upd G4 t4 (HO.tup [V.ref l4, V.int 0])) := Same.new ht
    have en : (upd G4 t4 (HO.tup [V.ref l4, V.int 0])) t4 = some (HO.tup [V.ref l4, V.int 0]) := upd_same
    replace rs3 := rs3.same sn
    replace g3 := g3.same sn
    replace f1 := f1.same sn
    replace f2 := f2.same sn
    replace f3 := f3.same sn
    replace e4 := sn _ _ e4
    have f4 : OdT es p (upd G4 t4 (HO.tup [V.ref l4, V.int 0])) (.ref t4) := ⟨t4, _, _, rfl, en, .inr ⟨.inr (.inr ⟨l4, _, rfl, lp4, e4⟩), rfl⟩⟩
    generalize upd G4 t4 (HO.tup [V.ref l4, V.int 0]) = G5 at sn en rs3 g3 f1 f2 f3 e4 f4 ⊢
    clear sn en ht
    refine ⟨by show 4 ≤ sizeLine; decide, fun Od ht => ?_⟩
    have sn : Same G5 (upd G5 Od (HO.lst [V.ref t1, V.ref t2, V.ref t3, V.ref t4])) := Same.new ht
    have en : (upd G5 Od (HO.lst [V.ref t1, V.ref t2, V.ref t3, V.ref t4])) Od = some (HO.lst [V.ref t1, V.ref t2, V.ref t3, V.ref t4]) := upd_same
    replace rs3 := rs3.same sn
    replace g3 := g3.same sn
    replace f1 := f1.same sn
    replace f2 := f2.same sn
    replace f3 := f3.same sn
    replace f4 := f4.same sn
    have eO : (upd G5 Od (HO.lst [V.ref t1, V.ref t2, V.ref t3, V.ref t4])) Od = some (.lst [V.ref t1, V.ref t2, V.ref t3, V.ref t4]) := en
    generalize upd G5 Od (HO.lst [V.ref t1, V.ref t2, V.ref t3, V.ref t4]) = G6 at sn en rs3 g3 f1 f2 f3 f4 eO ⊢
    clear sn en ht
    refine ⟨_, rfl, by show 2 ≤ sizeLine; decide, fun t5 ht => ?_⟩
    have sn : Same G6 (upd G6 t5 (HO.tup [V.int 7, V.int 0])) := Same.new ht
    have en : (upd G6 t5 (HO.tup [V.int 7, V.int 0])) t5 = some (HO.tup [V.int 7, V.int 0]) := upd_same
    replace rs3 := rs3.same sn
    replace g3 := g3.same sn
    replace f1 := f1.same sn
    replace f2 := f2.same sn
    replace f3 := f3.same sn
    replace f4 := f4.same sn
    replace eO := sn _ _ eO
    have f5 : OdT es p (upd G6 t5 (HO.tup [V.int 7, V.int 0])) (.ref t5) := ⟨t5, _, _, rfl, en, .inr ⟨.inr (.inl rfl), rfl⟩⟩
    generalize upd G6 t5 (HO.tup [V.int 7, V.int 0]) = G7 at sn en rs3 g3 f1 f2 f3 f4 eO f5 ⊢
    clear sn en ht
    refine ⟨by show 1 ≤ sizeLine; decide, fun l5 ht => ?_⟩
    have sn : Same G7 (upd G7 l5 (HO.lst [V.ref t5])) := Same.new ht
    have en : (upd G7 l5 (HO.lst [V.ref t5])) l5 = some (HO.lst [V.ref t5]) := upd_same
    replace rs3 := rs3.same sn
    replace g3 := g3.same sn
    replace f1 := f1.same sn
    replace f2 := f2.same sn
    replace f3 := f3.same sn
    replace f4 := f4.same sn
    replace eO := sn _ _ eO
    replace f5 := f5.same sn
    have e5 : (upd G7 l5 (HO.lst [V.ref t5])) l5 = some (.lst [V.ref t5]) := en
    generalize upd G7 l5 (HO.lst [V.ref t5]) = G8 at sn en rs3 g3 f1 f2 f3 f4 eO f5 e5 ⊢
    clear sn en ht
    refine ⟨Od, l5, _, _, rfl, rfl, eO, e5, by show 4 + 1 ≤ sizeLine; decide, fun Of ht => ?_⟩
    have Ofp := rs3.pen.ne1 ht
    have sn : Same G8 (upd G8 Of (HO.lst ([V.ref t1, V.ref t2, V.ref t3, V.ref t4] ++ [V.ref t5]))) := Same.new ht
    have en : (upd G8 Of (HO.lst ([V.ref t1, V.ref t2, V.ref t3, V.ref t4] ++ [V.ref t5]))) Of = some (HO.lst ([V.ref t1, V.ref t2, V.ref t3, V.ref t4] ++ [V.ref t5])) := upd_same
    replace rs3 := rs3.same sn
    replace g3 := g3.same sn
    replace f1 := f1.same sn
    replace f2 := f2.same sn
    replace f3 := f3.same sn
    replace f4 := f4.same sn
    replace eO := sn _ _ eO
    replace f5 := f5.same sn
    replace e5 := sn _ _ e5
    have eF : (upd G8 Of (HO.lst ([V.ref t1, V.ref t2, V.ref t3, V.ref t4] ++ [V.ref t5]))) Of = some (.lst [V.ref t1, V.ref t2, V.ref t3, V.ref t4, V.ref t5]) := en
    generalize upd G8 Of (HO.lst ([V.ref t1, V.ref t2, V.ref t3, V.ref t4] ++ [V.ref t5])) = G9 at sn en rs3 g3 f1 f2 f3 f4 eO f5 e5 eF ⊢
    clear sn en ht
    clear eO e5 e4
    have all5 : ∀ u ∈ ([.ref t1, .ref t2, .ref t3, .ref t4, .ref t5] : List V), OdT es p G9 u := by
      intro u hu
      simp only [List.mem_cons, List.not_mem_nil, or_false] at hu
      rcases hu with rfl | rfl | rfl | rfl | rfl
      · exact f1
      · exact f2
      · exact f3
      · exact f4
      · exact f5
    refine ⟨Of, rfl, ⟨_, SqL.of eF⟩, ?_⟩
    clear f1 f2 f3 f4 f5
    refine for_it (walk_list (xs := [.ref t1, .ref t2, .ref t3, .ref t4, .ref t5])) (fun i σ' G => ∃ y8 y9 y10, σ' = [some (.ref p), some (.ref b), some (.ref S), some (.str z), some (.int (at_i : Int)), some (sg oc), none, some (.ref Od), y8, y9, y10] ∧ Gr T3 c p (n + 1 + 1) G9 G) ⟨_, _, _, rfl, Gr.start rs3.pen rs3.tabs⟩ (fun i σ' G _ y => by obtain ⟨_, _, _, _, g⟩ := y; exact SqL.of (g.at_ eF Ofp)) ?_ ?_
    · rintro i x σ' G' G hi ⟨y8, y9, y10, rfl, gi⟩ ⟨eG, hx⟩
      subst eG
      have rsi := rs3.gr gi
      obtain ⟨t, v, due, rfl, ht, ov⟩ := (all5 x (List.mem_of_getElem? hx)).gr rs3.pen gi
      refine ⟨t, _, rfl, SqT.of ht, rfl, _, _, rfl, _, _, rfl, rfl, ?_⟩
      clear hx ht
      refine heard_row (i := due) rsi.pen rsi.tabs (fun G1 Qn E g1 rz => ?_) fun Ga q1 ga h1 => ?_
      · skip
        have rs1 := rsi.gr g1
        obtain ⟨dx, bq, br, bxs, bys, hb, _⟩ := rs1.bk
        exact ⟨_, rfl, b, rfl, _, rfl, ⟨_, _, hb⟩, b, es, ds, v, due, rfl, rs1.bk, (ov.gr g1).bad, rz _ (Same.refl _)⟩
      have rsa := rsi.gr ga
      have ova := ov.gr ga
      have gia := gi.trans ga
      clear rsi ov gi ga
      refine ⟨by show 1 ≤ sizeLine; decide, fun D hD => ?_⟩
      have Dp := rsa.pen.ne1 hD
      have Dc := rsa.pen.ne2 hD
      have sD : Same Ga (upd Ga D (.lst [.ref q1])) := Same.new hD
      have eD : upd Ga D (.lst [.ref q1]) D = some (.lst [.ref q1]) := upd_same
      have g := (Gr.start rsa.pen rsa.tabs).same sD
      replace h1 := sD _ _ h1
      generalize upd Ga D (.lst [.ref q1]) = G1 at g eD h1 ⊢
      clear sD
      refine ⟨_, rfl, .inl ⟨rfl, _, SqL.of eD⟩, ?_⟩
      have rsb := rsa.gr g
      have ovb := ova.gr g
      refine heard_row (i := due) rsb.pen rsb.tabs (fun G1 Qn E g1 rz => ?_) fun Gc q2 gc h2 => ?_
      · skip
        have rs1 := rsb.gr g1
        obtain ⟨dx, bq, br, bxs, bys, hb, _⟩ := rs1.bk
        exact ⟨_, rfl, b, dx, _, rfl, hb, bf_no rfl rfl, _, rfl, b, es, ds, v, due, rfl, rs1.bk, (ovb.gr g1).bad, rz _ (Same.refl _)⟩
      have eDc := gc.at_ eD Dp
      refine ⟨D, _, _, rfl, rfl, eDc, by show 1 < sizeLine; decide, ?_⟩
      replace g := Gr.putNew (o := .lst ([.ref q1] ++ [.ref q2])) (g.trans gc) hD eDc Dp Dc
      replace eD : upd Gc D (.lst ([.ref q1] ++ [.ref q2])) D = some (.lst [.ref q1, .ref q2]) := upd_same
      replace h1 := row_put (zs := [.ref q1] ++ [.ref q2]) (row_gr h1 rsb.pen gc) eDc
      replace h2 := row_put (zs := [.ref q1] ++ [.ref q2]) h2 eDc
      generalize upd Gc D (.lst ([.ref q1] ++ [.ref q2])) = G2 at g eD h1 h2 ⊢
      clear rsb ovb gc eDc
      refine ⟨_, rfl, .inl ⟨rfl, _, SqL.of eD⟩, ?_⟩
      have rsb := rsa.gr g
      have ovb := ova.gr g
      refine heard_row (i := due) rsb.pen rsb.tabs (fun G1 Qn E g1 rz => ?_) fun Gc q3 gc h3 => ?_
      · skip
        have rs1 := rsb.gr g1
        obtain ⟨dx, bq, br, bxs, bys, hb, _⟩ := rs1.bk
        exact ⟨_, rfl, b, dx, _, rfl, hb, bf_no rfl rfl, _, rfl, b, es, ds, v, due, rfl, rs1.bk, (ovb.gr g1).bad, rz _ (Same.refl _)⟩
      have eDc := gc.at_ eD Dp
      refine ⟨D, _, _, rfl, rfl, eDc, by show 2 < sizeLine; decide, ?_⟩
      replace g := Gr.putNew (o := .lst ([.ref q1, .ref q2] ++ [.ref q3])) (g.trans gc) hD eDc Dp Dc
      replace eD : upd Gc D (.lst ([.ref q1, .ref q2] ++ [.ref q3])) D = some (.lst [.ref q1, .ref q2, .ref q3]) := upd_same
      replace h1 := row_put (zs := [.ref q1, .ref q2] ++ [.ref q3]) (row_gr h1 rsb.pen gc) eDc
      replace h2 := row_put (zs := [.ref q1, .ref q2] ++ [.ref q3]) (row_gr h2 rsb.pen gc) eDc
      replace h3 := row_put (zs := [.ref q1, .ref q2] ++ [.ref q3]) h3 eDc
      generalize upd Gc D (.lst ([.ref q1, .ref q2] ++ [.ref q3])) = G3 at g eD h1 h2 h3 ⊢
      clear rsb ovb gc eDc
      refine ⟨_, rfl, .inl ⟨rfl, _, SqL.of eD⟩, ?_⟩
      have rsb := rsa.gr g
      have ovb := ova.gr g
      refine heard_row (i := due) rsb.pen rsb.tabs (fun G1 Qn E g1 rz => ?_) fun Gc q4 gc h4 => ?_
      · skip
        have rs1 := rsb.gr g1
        obtain ⟨dx, bq, br, bxs, bys, hb, _⟩ := rs1.bk
        exact ⟨_, rfl, b, dx, _, rfl, hb, bf_no rfl rfl, _, rfl, by show 2 ≤ sizeLine; decide, fun t0 ht0 => ⟨b, es, ds, v, .ref t0, due, rfl, rs1.bk.same (Same.new ht0), ((ovb.gr g1).same (Same.new ht0)).bad, rz _ (Same.new ht0)⟩⟩
      have eDc := gc.at_ eD Dp
      refine ⟨D, _, _, rfl, rfl, eDc, by show 3 < sizeLine; decide, ?_⟩
      replace g := Gr.putNew (o := .lst ([.ref q1, .ref q2, .ref q3] ++ [.ref q4])) (g.trans gc) hD eDc Dp Dc
      replace eD : upd Gc D (.lst ([.ref q1, .ref q2, .ref q3] ++ [.ref q4])) D = some (.lst [.ref q1, .ref q2, .ref q3, .ref q4]) := upd_same
      replace h1 := row_put (zs := [.ref q1, .ref q2, .ref q3] ++ [.ref q4]) (row_gr h1 rsb.pen gc) eDc
      replace h2 := row_put (zs := [.ref q1, .ref q2, .ref q3] ++ [.ref q4]) (row_gr h2 rsb.pen gc) eDc
      replace h3 := row_put (zs := [.ref q1, .ref q2, .ref q3] ++ [.ref q4]) (row_gr h3 rsb.pen gc) eDc
      replace h4 := row_put (zs := [.ref q1, .ref q2, .ref q3] ++ [.ref q4]) h4 eDc
      generalize upd Gc D (.lst ([.ref q1, .ref q2, .ref q3] ++ [.ref q4])) = G4 at g eD h1 h2 h3 h4 ⊢
      clear rsb ovb gc eDc
      refine ⟨_, rfl, .inl ⟨rfl, _, SqL.of eD⟩, ?_⟩
      have rsb := rsa.gr g
      have ovb := ova.gr g
      refine heard_row (i := due) rsb.pen rsb.tabs (fun G1 Qn E g1 rz => ?_) fun Gc q5 gc h5 => ?_
      · skip
        have rs1 := rsb.gr g1
        obtain ⟨dx, bq, br, bxs, bys, hb, _⟩ := rs1.bk
        exact ⟨_, rfl, b, dx, _, rfl, hb, bf_no rfl rfl, _, rfl, b, es, ds, v, .non, due, rfl, rs1.bk, (ovb.gr g1).bad, rz _ (Same.refl _)⟩
      have eDc := gc.at_ eD Dp
      refine ⟨D, _, _, rfl, rfl, eDc, by show 4 < sizeLine; decide, ?_⟩
      replace g := Gr.putNew (o := .lst ([.ref q1, .ref q2, .ref q3, .ref q4] ++ [.ref q5])) (g.trans gc) hD eDc Dp Dc
      replace eD : upd Gc D (.lst ([.ref q1, .ref q2, .ref q3, .ref q4] ++ [.ref q5])) D = some (.lst [.ref q1, .ref q2, .ref q3, .ref q4, .ref q5]) := upd_same
      replace h1 := row_put (zs := [.ref q1, .ref q2, .ref q3, .ref q4] ++ [.ref q5]) (row_gr h1 rsb.pen gc) eDc
      replace h2 := row_put (zs := [.ref q1, .ref q2, .ref q3, .ref q4] ++ [.ref q5]) (row_gr h2 rsb.pen gc) eDc
      replace h3 := row_put (zs := [.ref q1, .ref q2, .ref q3, .ref q4] ++ [.ref q5]) (row_gr h3 rsb.pen gc) eDc
      replace h4 := row_put (zs := [.ref q1, .ref q2, .ref q3, .ref q4] ++ [.ref q5]) (row_gr h4 rsb.pen gc) eDc
      replace h5 := row_put (zs := [.ref q1, .ref q2, .ref q3, .ref q4] ++ [.ref q5]) h5 eDc
      generalize upd Gc D (.lst ([.ref q1, .ref q2, .ref q3, .ref q4] ++ [.ref q5])) = G5 at g eD h1 h2 h3 h4 h5 ⊢
      clear rsb ovb gc eDc
      refine ⟨_, rfl, _, rfl, by show 2 ≤ sizeLine; decide, fun ta hta => ⟨by show 1 ≤ sizeLine; decide, fun la hla => ⟨la, (5 : Int), _, rfl, rfl, upd_same, by decide, by decide, by show 1 * 5 ≤ sizeLine; decide, fun lb hlb => ?_⟩⟩⟩
      have sa := Same.new (o := .tup [.str "row", .int due]) hta
      have sb := Same.new (o := .lst [.ref ta]) hla
      have sc := Same.new (o := .lst (List.replicate (5 : Int).toNat [V.ref ta]).flatten) hlb
      have s3 := Same.trans sa (Same.trans sb sc)
      have eta := sc _ _ (sb _ _ (upd_same (H := G5) (a := ta) (o := .tup [.str "row", .int due])))
      refine ⟨.list [rowD due, rowD due, rowD due, rowD due, rowD due], .list [rowD due, rowD due, rowD due, rowD due, rowD due], .lst (SqL.of (s3 _ _ eD)) (.cons (dp_row (s3 _ _ h1)) (.cons (dp_row (s3 _ _ h2)) (.cons (dp_row (s3 _ _ h3)) (.cons (dp_row (s3 _ _ h4)) (.cons (dp_row (s3 _ _ h5)) .nil))))),
        .lst (SqL.of upd_same) (.cons (dp_row eta) (.cons (dp_row eta) (.cons (dp_row eta) (.cons (dp_row eta) (.cons (dp_row eta) .nil))))), shaped_rows due, shaped_rows due, _, rfl, ?_⟩
      rw [eqv_rows]
      exact iteF ⟨_, _, _, rfl, (gia.trans g).same s3⟩
    · rintro σ' G ⟨y8, y9, y10, rfl, gi⟩
      exact k G (g3.trans gi)
end
end Kx
set_option Elab.async false
set_option maxRecDepth 100000
set_option autoImplicit false
set_option pp.maxSteps 400
set_option pp.deepTerms false
/-! the law -/
namespace Kx
open PySem L2 PySem.Spec PyProof.Rows Rg Er Ru Tn LamX ClX
abbrev sLaw : Stmt := top 60
theorem moves_empty {ds : List RD} (h : ∀ d ∈ ds, 1 ≤ d.1.length) : movesN ds "" = [] := by
  refine List.eq_nil_iff_forall_not_mem.mpr fun x hx => ?_
  obtain ⟨_, lt, f⟩ := mem_moves.mp hx
  unfold fitI at f
  obtain ⟨d, hd⟩ : ∃ d, ds[x.2]? = some d := ⟨_, List.getElem?_eq_getElem lt⟩
  rw [hd] at f
  dsimp only at f
  unfold fN at f
  rw [fit_no fun q => ?_] at f
  · cases f
  · have q1 := q.1
    have := h d (List.mem_of_getElem? hd)
    have z0 : (("" : Str)).length = 0 := rfl
    omega
theorem ne_nilM {K : PySem.W.Frag} {σ : L2.St} {G : Hp} {M : Addr} {Q : VK} (h : MvsAt G M []) (k : ∀ G2, Same G G2 → Q (.bl false) G2) : tLst tNil σ G fun y H => rNeD K (.ref M) y H Q := by
  refine ⟨Nat.zero_le _, fun Z hZ => ?_⟩
  have s : Same G (upd G Z (.lst [])) := Same.new hZ
  obtain ⟨xs, a1, a2⟩ := h.same s
  refine ⟨.list (([] : List (Nat × Nat)).map mvD), .list [], .lst (SqL.of a1) (dp_tws a2), .lst (SqL.of upd_same) .nil, shaped_mvs _, rfl, ?_⟩
  exact k _ s
theorem ne_nilS {K : PySem.W.Frag} {σ : L2.St} {G : Hp} {M : Addr} {Q : VK} (h : G M = some (.lst [])) (k : ∀ G2, Same G G2 → Q (.bl false) G2) : tLst tNil σ G fun y H => rNeD K (.ref M) y H Q := by
  refine ⟨Nat.zero_le _, fun Z hZ => ?_⟩
  have s : Same G (upd G Z (.lst [])) := Same.new hZ
  exact ⟨.list [], .list [], .lst (SqL.of (s _ _ h)) .nil, .lst (SqL.of upd_same) .nil, rfl, rfl, k _ s⟩
def spLaw (K : PySem.W.Frag) (T : List (Addr × Str)) : Sp := fun vs H Q _ => ∃ (a : Addr) (ns : List Int), vs = [.ref a] ∧ SqL K H a (ns.map V.int) ∧ ns.length ≤ 63 ∧ Tabs T H ∧ ∀ H', Q (.bl true) H'
section
variable {P : Program} {w : World} {K : PySem.W.Frag} {mg : Str → Option Value} {base : Heap}
abbrev nLaw : List Str := ["_law_script", "_law_pen_here", "_law_turn", "_law_pairs_here", "_law_signs", "_law_pair", "_law_rules_here", "_law_book_here", "_law_k", "_law_there"]
theorem scLaw : FnScope nLaw ["_law_script"] (defScope sLaw) := ⟨rfl, rfl, rfl, by decide +kernel, rfl, by decide +kernel, by decide +kernel⟩
set_option maxHeartbeats 0 in
theorem ok_law {C CW CR CM CO f f1 f2 f3 f4 f5 f6 f7 : Addr} {T3 : List (Addr × Str)} {fd fd1 fd2 fd3 fd4 fd5 fd6 fd7 : FuncData} (F : L2.Fun K "law" "law" sLaw f fd) (T : Txt mg) (B : BF7 P w K mg base C CW CR CM CO)
    (G1 : FnOk P w K mg base CX0 1 f1 fd1 ["_law_script"] (spPen K)) (m1 : mg "_law_pen" = some (.ref f1)) (k1 : PySem.W.keepIn K (.ref f1) = true) (b1 : L2.Binds K fd1 ["_law_script"] [])
    (G2 : FnOk P w K mg base CX0 3 f2 fd2 ["_law_pen_here"] spPairs) (m2 : mg "_law_pairs" = some (.ref f2)) (k2 : PySem.W.keepIn K (.ref f2) = true) (b2 : L2.Binds K fd2 ["_law_pen_here"] [])
    (G3 : FnOk P w K mg base CX0 5 f3 fd3 ["_law_pen_here", "_law_pairs_here", "_law_cap"] spRules) (m3 : mg "_law_rules" = some (.ref f3)) (k3 : PySem.W.keepIn K (.ref f3) = true) (b3 : L2.Binds K fd3 ["_law_pen_here", "_law_pairs_here", "_law_cap"] [])
    (G4 : FnOk P w K mg base CX0 7 f4 fd4 ["_law_pairs_here", "_law_rules_here"] (spLBook C CW CR)) (m4 : mg "_law_book" = some (.ref f4)) (k4 : PySem.W.keepIn K (.ref f4) = true) (b4 : L2.Binds K fd4 ["_law_pairs_here", "_law_rules_here"] [])
    (G5 : FnOk P w K mg base CX0 4 f5 fd5 ["_law_pen_here", "_law_signs", "_law_rules_here"] spLRow) (m5 : mg "_law_row" = some (.ref f5)) (k5 : PySem.W.keepIn K (.ref f5) = true) (b5 : L2.Binds K fd5 ["_law_pen_here", "_law_signs", "_law_rules_here"] [])
    (G6 : FnG P w K mg base CX0 11 f6 fd6 ["_law_pen_here", "_law_book_here", "_law_pairs_here", "_law_rules_here", "_law_there"] (spLRight T3 C CW CR)) (m6 : mg "_law_right" = some (.ref f6)) (k6 : PySem.W.keepIn K (.ref f6) = true) (b6 : L2.Binds K fd6 ["_law_pen_here", "_law_book_here", "_law_pairs_here", "_law_rules_here", "_law_there"] [])
    (G7 : FnG P w K mg base CX0 11 f7 fd7 ["_law_pen_here", "_law_book_here", "_law_signs", "_law_there"] (spLRef T3 C CW CR)) (m7 : mg "_law_refused" = some (.ref f7)) (k7 : PySem.W.keepIn K (.ref f7) = true) (b7 : L2.Binds K fd7 ["_law_pen_here", "_law_book_here", "_law_signs", "_law_there"] []) :
    FnG P w K mg base CX0 12 f fd ["_law_script"] (spLaw K T3) := by
  obtain ⟨M, ⟨gC, fdC, co, FC, _, bC⟩, ⟨gF, fdF, mF, FF, _, bF⟩, ⟨gL, fdL, mL, FL, _, bL⟩, _, _⟩ := B
  have RC := fnR_of FC bC
  refine funG F scLaw (fun vs H Q E h => ?_) (fun cdv A outer s H vs Q E hg hr h => ?_)
  · obtain ⟨a, ns, rfl, _⟩ := h
    rfl
  · obtain ⟨a, ns, rfl, hs, hl, tabs, k⟩ := h
    have nd := scLaw.nd
    have hg' : (A.deeper (envOfC "law" (defScope sLaw) s.heap.objs.size f cdv)).guards = some [] := hg
    have hr1 := hr.mono (show 1 ≤ 11 by decide)
    have hr3 := hr.mono (show 3 ≤ 11 by decide)
    have hr4 := hr.mono (show 4 ≤ 11 by decide)
    have hr5 := hr.mono (show 5 ≤ 11 by decide)
    have hr7 := hr.mono (show 7 ≤ 11 by decide)
    refine ⟨_, (pss_cons (ps_set (i := 1) nd rfl (.inl rfl) (pe_call G1 hr1 (by rfl) m1 k1 b1 .nil pass0 (pa_cons (pv 0) pa_nil)))
      (pss_cons (ps_for PassesOwn.never rfl (pi_range1 (by rfl) T.range (pa_cons pe_int pa_nil)) (pg_name (i := 2) nd rfl (Or.inl rfl)) (pss_cons (ps_set (i := 3) nd rfl (.inl rfl) (pe_call G2 hr3 (by rfl) m2 k2 b2 .nil pass0 (pa_cons (pv 1) pa_nil)))
      (pss_cons (ps_setLc (i := 4) (own := [("_law_pair", 5)]) (g := gName 5) (tt := tYes) (te := tOp (rIxT K) (tVar 5) (tC (.int 0))) rfl nd rfl rfl (sw_true rfl rfl rfl (by decide +kernel)) (pi_list (pv 3)) (blkOk_by (own := [("_law_pair", 5)]) (N := nLaw) (sc := defScope sLaw) (by decide +kernel)) (fun _ _ _ _ _ => (pg_name (i := 5) nd rfl (Or.inl rfl))) (fun _ _ _ _ _ => pts_nil) (fun _ _ _ _ _ => (bIxT (pv 5) pe_int)))
      (pss_cons (ps_set (i := 6) nd rfl (.inl rfl) (pe_call G3 hr5 (by rfl) m3 k3 b3 .nil pass0 (pa_cons (pv 1) (pa_cons (pv 3) (pa_cons pe_int pa_nil)))))
      (pss_cons (ps_set (i := 7) nd rfl (.inl rfl) (pe_call G4 hr7 (by rfl) m4 k4 b4 .nil pass0 (pa_cons (pv 3) (pa_cons (pv 6) pa_nil))))
      (pss_cons (ps_for PassesOwn.never rfl (pi_range1 (by rfl) T.range (pa_cons pe_int pa_nil)) (pg_name (i := 8) nd rfl (Or.inl rfl)) (pss_cons (ps_set (i := 9) nd rfl (.inl rfl) (pe_call G5 hr4 (by rfl) m5 k5 b5 .nil pass0 (pa_cons (pv 1) (pa_cons (pv 4) (pa_cons (pv 6) pa_nil)))))
      (pss_one (ps_if (PW.pt (pw_or (pt_not (pt_val (pe_callG hg' G6 hr (by rfl) m6 k6 b6 pass0 (pa_cons (pv 1) (pa_cons (pv 7) (pa_cons (pv 3) (pa_cons (pv 6) (pa_cons (pv 9) pa_nil)))))))) (pw_or1 (pt_not (pt_val (pe_callG hg' G7 hr (by rfl) m7 k7 b7 pass0 (pa_cons (pv 1) (pa_cons (pv 7) (pa_cons (pv 4) (pa_cons (pv 9) pa_nil)))))))))) (pss_one (ps_never)) pss_nil))))
      (pss_one (ps_if (PW.pt (pw_or (pt_cmpR (op_neD hr.units) (StX.pe_callO (pv 7) co RC hr4 pass0 (pa_cons pe_str pa_nil)) (pe_lst pa_nil) (nomark _)) (pw_or (pt_not (pt_val (pe_meth (pv 7) M.cl mF FF hr3 bF .nil pass0 (pa_cons pe_str pa_nil)))) (pw_or1 (pt_cmpR (op_neD hr.units) (pe_meth (pv 7) M.cl mL FL hr5 bL .nil pass0 (pa_cons pe_str pa_nil)) (pe_lst pa_nil) (nomark _)))))) (pss_one (ps_never)) pss_nil))))))))
      (pss_one (ps_ret pe_bl)))), ?_⟩
    refine ⟨_, rfl, a, ns, rfl, hs, hl, fun c p H1 s1 pen => ?_⟩
    have tabs1 := tabs.ext s1
    clear hs hl tabs s1
    refine ⟨3, rfl, by decide, by decide, ?_⟩
    refine for_it walk_range (fun i σ' G => ∃ y2 y3 y4 y6 y7 y8 y9, σ' = [some (.ref a), some (.ref p), y2, y3, y4, none, y6, y7, y8, y9] ∧ PenAt c (1000 * i) G p ∧ Tabs T3 G) ⟨_, _, _, _, _, _, _, rfl, pen, tabs1⟩ (fun _ _ _ _ _ => trivial) ?_ ?_
    rotate_left
    · rintro σ' G ⟨y2, y3, y4, y6, y7, y8, y9, rfl, _, _⟩
      exact k G
    rintro i x σ' G' G hi ⟨y2, y3, y4, y6, y7, y8, y9, rfl, penG, tabs⟩ ⟨eG, ex⟩
    subst eG
    have hi' : i < 3 := hi
    clear pen tabs1
    refine ⟨_, rfl, c, p, 1000 * i, rfl, by omega, penG, fun L G1 ps es Lp hL pd l1 l4 nde pos ink => ?_⟩
    have g1 := (Gr.start penG tabs).ink ink
    clear ink
    refine ⟨_, rfl, L, rfl, ⟨_, SqL.of hL⟩, fun S hS0 => lcHeads hL pd (by omega) (fun _ => rfl) hS0 fun G2 s2 hS => ?_⟩
    have Sp := g1.pen.ne1 hS0
    have g2 := g1.same s2
    have po : PairsOf G2 L es := ⟨ps, s2 _ _ hL, pd.mono fun _ _ _ q => q.same s2, l1, l4, nde⟩
    have abcs := po.abc
    clear hL pd hS0 s2 g1
    refine ⟨_, rfl, _, rfl, c, p, L, 1000 * i + 20, 4, es, rfl, by decide, by omega, g2.pen, Lp, po, pos, fun F0 G3 ds F0p its good ndd d4 ink => ?_⟩
    have g3 := (Gr.start g2.pen g2.tabs).ink ink
    replace po := po.gr g2.pen Lp g3
    replace hS := g3.at_ hS Sp
    clear ink
    refine ⟨_, rfl, _, rfl, L, F0, es, ds, rfl, po, its, good, ndd, by omega, fun G4 b s4 bk => ?_⟩
    have rs0 : RS T3 C CW CR c p L F0 b (1000 * i + 20 + 300) es ds G4 := ⟨g3.pen.ext s4, (g3.same s4).tabs, Lp, F0p, po.gr g3.pen Lp ((Gr.start g3.pen g3.tabs).same s4), its.same s4, bk⟩
    replace hS := s4 _ _ hS
    clear g2 g3 po its bk s4 penG tabs
    have okds : ∀ it ∈ ds.map Itm.rule, OkIt it := fun it h => by
      obtain ⟨d, hd, rfl⟩ := List.mem_map.mp h
      exact (good d hd).ok abcs
    have o1 : ∀ d ∈ ds, 1 ≤ d.1.length := fun d hd => (good d hd).2.2.1
    have d8 : ds.length ≤ 8 := by omega
    have csl : (es.map (·.1)).length = es.length := by simp
    refine ⟨3, rfl, by decide, by decide, ?_⟩
    refine for_it walk_range (fun j σ' G => ∃ y8 y9, σ' = [some (.ref a), some (.ref p), some x, some (.ref L), some (.ref S), none, some (.ref F0), some (.ref b), y8, y9] ∧ RS T3 C CW CR c p L F0 b (1000 * i + 20 + 300 + 100 * j) es ds G ∧ G S = some (.lst ((es.map (·.1)).map sg))) ⟨_, _, rfl, rs0, hS⟩ (fun _ _ _ _ _ => trivial) ?_ ?_
    · clear rs0 hS
      rintro j x2 σ' G' G hj ⟨y8, y9, rfl, rs, hS⟩ ⟨eG, ex⟩
      subst eG
      have hj' : j < 3 := hj
      refine ⟨_, rfl, _, rfl, _, rfl, c, p, S, F0, 1000 * i + 20 + 300 + 100 * j, es.map (·.1), ds, rfl, by omega, rs.pen, Sp, hS, by omega, by omega, F0p, rs.its, okds, fun d hd => ⟨(good d hd).1, (good d hd).2.2.2.1⟩, d8, fun z G2 zs z9 ink => ?_⟩
      have g1 := (Gr.start rs.pen rs.tabs).ink ink
      replace rs := rs.gr g1
      replace hS := g1.at_ hS Sp
      clear ink g1
      refine ⟨_, rfl, _, rfl, _, rfl, _, rfl, _, rfl, c, p, L, F0, b, _, es, ds, z, rfl, by omega, rs, good, d8, zs, z9, fun G3 g3 => ⟨true, rfl, iteF ?_⟩⟩
      replace rs := rs.gr g3
      replace hS := g3.at_ hS Sp
      clear g3
      refine ⟨_, rfl, _, rfl, _, rfl, _, rfl, c, p, L, F0, b, S, _, es, ds, z, rfl, by omega, rs, Sp, hS, zs, z9, fun G3 g3 => ⟨true, rfl, iteF ?_⟩⟩
      replace rs := rs.gr g3
      replace hS := g3.at_ hS Sp
      exact ⟨_, _, rfl, rs.gr ((Gr.start rs.pen rs.tabs).mono (by omega)), hS⟩
    · clear rs0 hS
      rintro σ' G ⟨y8, y9, rfl, rs, hS⟩
      have row : RowOf es "" := ⟨fun c hc => (by cases hc), by decide⟩
      have em := moves_empty o1
      obtain ⟨dx, bq, br, bxs, bys, hb, _⟩ := rs.bk
      refine ⟨_, rfl, b, rfl, .inr ⟨_, _, hb⟩, b, es, ds, "", rfl, rs.bk, o1, d8, row, fun q G1 s1 nq mv => ?_⟩
      rw [em] at mv
      refine ne_nilM mv fun G2 s2 => ⟨_, rfl, iteF ?_⟩
      have s12 := Same.trans s1 s2
      replace rs := rs.same s12
      replace hb := s12 _ _ hb
      clear mv s1 s2 s12 nq
      refine ⟨_, rfl, b, dx, _, rfl, hb, bf_no rfl rfl, b, es, ds, "", rfl, rs.bk, o1, row, _, rfl, ?_⟩
      rw [has_moves, em, decide_eq_true rfl]
      refine iteF ?_
      refine ⟨_, rfl, b, dx, _, rfl, hb, bf_no rfl rfl, b, es, ds, "", rfl, rs.bk, o1, d8, row, fun q G1 s1 nq hq => ?_⟩
      rw [em] at hq
      refine ne_nilS hq fun G2 s2 => ⟨_, rfl, iteF ?_⟩
      have rs2 := rs.same (Same.trans s1 s2)
      exact ⟨_, _, _, _, _, _, _, rfl, rs2.pen.mono (by omega), rs2.tabs⟩
end
end Kx
set_option Elab.async false
set_option maxRecDepth 100000
set_option autoImplicit false
namespace Kx
open PySem L2 PySem.Spec PyProof.Rows Rg Er Ru LamX Tn ClX
/-- in this heap nothing is tracked but the script at a and the tables ts -/
structure Bare1 (K : PySem.W.Frag) (a : Addr) (ts : List Addr) (H : Hp) : Prop where
  few : ∀ b, H b ≠ none → (b = a ∧ K.lookup a = none) ∨ b ∈ ts
  kind : ∀ b u, H b = some u → (∃ ob xs, u = .frz ob (.lst xs)) ∨ b ∈ ts
  tabs : ∀ b ∈ ts, H b = some (.tbl #[])
section
variable {P : Program} {w : World} {K : PySem.W.Frag} {mg mb : Str → Option Value} {a : Addr} {s₁ : Shared} {vs : List Value} {cs : List (Addr × Addr)} {H : Hp}
/-- what is no script and no table is not tracked -/
theorem Bare1.off {ts : List Addr} {b : Addr} (B : Bare1 K a ts H) (h1 : b = a → K.lookup a = none → False) (h2 : b ∉ ts) : H b = none := Decidable.by_contra fun q => by
  rcases B.few b q with ⟨e, n⟩ | e
  · exact h1 e n
  · exact h2 e
/-- the heap at the start -/
def start1 (K : PySem.W.Frag) (a : Addr) (ts : List Addr) (vs : List Value) (ns : List Int) : Hp := fun b =>
  if b ∈ ts then some (.tbl #[]) else if b = a ∧ K.lookup a = none then some (.frz { cls := .type "list", data := .seq vs.toArray } (.lst (ns.map V.int))) else none
theorem start1_bare {ts : List Addr} {ns : List Int} : Bare1 K a ts (start1 K a ts vs ns) := by
  refine ⟨fun b q => ?_, fun b u q => ?_, fun b hb => if_pos hb⟩
  · by_cases hb : b ∈ ts
    · exact .inr hb
    · by_cases h2 : b = a ∧ K.lookup a = none
      · exact .inl h2
      · exact absurd (by unfold start1; rw [if_neg hb, if_neg h2]) q
  · by_cases hb : b ∈ ts
    · exact .inr hb
    · unfold start1 at q
      rw [if_neg hb] at q
      split at q
      · cases q; exact .inl ⟨_, _, rfl⟩
      · cases q
theorem lawGT {k : Nat} {fa : Addr} {fd : FuncData} {x : Str} {sp : Sp} {ns : List Int}
    (KX : K.In s₁.heap) (hns : s₁.heap.Ns mainGlobals mg) (hb : s₁.heap.Ns builtinsNs mb) (hbb : ∀ x : Str, x ≠ "__name__" → mb x = bootBuiltins x) (hlim : s₁.heap.NoLimit) (hg : s₁.gens = #[])
    (tab : ∀ p ∈ cs, s₁.heap.get? p.2 = some (PySem.W.tabObj #[]) ∧ K.lookup p.2 = none ∧ PySem.W.CodeHd s₁.heap p.1 p.2)
    (bmn : ∃ (bm : Addr) (ob : Obj), mg "__builtins__" = some (.ref bm) ∧ bm ≠ builtinsNs ∧ s₁.heap.get? bm = some ob ∧ ob.cls = .type "module" ∧ ob.dict = some builtinsNs ∧ ob.data = .plain)
    (ha : s₁.heap.get? a = some { cls := .type "list", data := .seq vs.toArray }) (hi : IntsAre vs ns) (hl : ns.length ≤ sizeLine) (hr : Room k callerA)
    (F : ∀ base : Heap, K.In base → base.Ns mainGlobals mg → (∀ p ∈ cs, TabB base mg p.1 p.2) → FnG P w K mg base CX0 k fa fd [x] sp) (bind : ∀ (s : Shared) (u : Value), BindsTo s fd ⟨[u], []⟩ [(x, u)])
    (want : ∀ H : Hp, (∀ p ∈ cs, H p.2 = some (.tbl #[])) → SqL K H a (ns.map V.int) → sp [.ref a] H (fun v _ => v = .bl true) fun _ _ _ => False) :
    codeAny (model P w) callerA (.call (.ref fa) ⟨[.ref a], []⟩) (fun r s' => r = .ok (.ret (.bool true)) ∧ OldK s₁.heap s'.heap ∧ s'.os = s₁.os ∧ AllBare s'.gens) s₁ := by
  have inT : ∀ {b : Addr}, b ∈ cs.map (·.2) → ∃ p ∈ cs, p.2 = b := fun {b} hb => List.mem_map.mp hb
  have emp : ∀ {b : Addr} {o : Obj}, b ∈ cs.map (·.2) → s₁.heap.get? b = some o → o = PySem.W.tabObj #[] := fun {b o} hb e => by
    obtain ⟨p, hp, rfl⟩ := inT hb
    exact Option.some.inj (e.symm.trans (tab p hp).1)
  have isA : ∀ {o : Obj}, s₁.heap.get? a = some o → o = { cls := .type "list", data := .seq vs.toArray } := fun {o} e => Option.some.inj (e.symm.trans ha)
  have aT : a ∉ cs.map (·.2) := fun z => by cases (emp z ha)
  have B := start1_bare (K := K) (a := a) (ts := cs.map (·.2)) (vs := vs) (ns := ns)
  have hok : HOk P w (start1 K a (cs.map (·.2)) vs ns) s₁.heap := fun b u z => by
    unfold start1 at z
    split at z
    · rename_i hb
      cases z
      obtain ⟨p, hp, rfl⟩ := inT hb
      exact (tab p hp).1
    · split at z
      · rename_i hb
        obtain ⟨rfl, _⟩ := hb
        cases z
        exact ⟨ha, by rw [List.length_map]; exact hl, vs, _, vals_ints hi, ha⟩
      · cases z
  have seq : SqL K (start1 K a (cs.map (·.2)) vs ns) a (ns.map V.int) := by
    cases q : K.lookup a with
    | none => exact .inl (.inr ⟨{ cls := .type "list", data := .seq vs.toArray }, by unfold start1; rw [if_neg aT, if_pos ⟨rfl, q⟩]⟩)
    | some o =>
      cases isA (KX a o q)
      exact .inr ⟨_, vs.toArray, _, q, rfl, rfl, rfl, by rw [List.size_toArray, hi.length]; exact hl, by simpa using vals_ints hi⟩
  generalize start1 K a (cs.map (·.2)) vs ns = H at B hok seq
  have stay : ∀ {b : Addr} {o : Obj}, s₁.heap.get? b = some o → (o.cls = .type "list" → False) → (o.cls = .none → False) → (hidT s₁.heap H).get? b = some o := fun {b o} e h1 h2 => hidT_get e (B.off (fun q _ => by
    subst q
    exact h1 (by rw [isA e])) fun z => h2 (by rw [emp z e]))
  have dicts : ∀ {b : Addr} {m : Str → Option Value}, s₁.heap.Ns b m → (hidT s₁.heap H).Ns b m := by
    rintro b m ⟨o, es, ep, e, d, r⟩
    refine ⟨o, es, ep, hidT_get e (B.off (fun q _ => ?_) fun z => ?_), d, r⟩
    · subst q
      rw [isA e] at d
      cases d
    · rw [emp z e] at d
      cases d
  have KB : K.In (hidT s₁.heap H) := fun b o e => hidT_get (KX b o e) (B.off (fun q n => by
    subst q
    cases n.symm.trans e) fun z => by
    obtain ⟨p, hp, rfl⟩ := inT z
    cases (tab p hp).2.1.symm.trans e)
  have noG : ∀ {o : Obj} {b : Addr}, s₁.heap.get? b = some o → (∀ es ep, o.data ≠ .dict es ep) → mainGlobals ≠ b := fun {o b} e q z => by
    subst z
    obtain ⟨o', es, ep, e', d, _⟩ := hns
    cases e.symm.trans e'
    exact q _ _ d
  have TB : ∀ p ∈ cs, TabB (hidT s₁.heap H) mg p.1 p.2 := fun p hp => by
    obtain ⟨t1, _, t3⟩ := tab p hp
    obtain ⟨o, us, file, tf, flags, tg, inF, text, tt, e1, e2, rest⟩ := t3
    obtain ⟨bm, ob, b1, b2, b3, b4, b5, b6⟩ := bmn
    refine ⟨⟨o, us, file, tf, flags, tg, inF, text, tt, stay e1 (by rw [e2]; exact fun z => nomatch z) (by rw [e2]; exact fun z => nomatch z), e2, rest⟩, ⟨bm, ob, b1, b2, ?_, ?_, stay b3 (by rw [b4]; intro z; injection z with z; exact absurd z (by decide)) (by rw [b4]; exact fun z => nomatch z), b4, b5, b6⟩, noG t1 fun _ _ z => nomatch z⟩
    · exact fun z => noG b3 (by rw [b6]; exact fun _ _ z => nomatch z) z.symm
    · rintro rfl
      cases b3.symm.trans t1
      cases b4
  have none0 : ∀ b, b ∉ frs ([] : List Env) := fun b => by unfold frs; simp
  have M : Mod K mg (hidT s₁.heap H) := ⟨KB, dicts hns, ⟨mb, dicts hb, hbb⟩, let ⟨mc, h1, h2⟩ := hlim; ⟨mc, dicts h1, h2⟩⟩
  have e0 : Env0 P w K mg (hidT s₁.heap H) callerA [] s₁ H := ⟨rfl, M, fun b o e => of_hidT e, Nat.le_of_eq (hidT_size _ _), trivial, fun b q => absurd q (none0 b), hok, .of_eq hg⟩
  have tabs0 : ∀ p ∈ cs, H p.2 = some (.tbl #[]) := fun p hp => B.tabs _ (List.mem_map.mpr ⟨p, hp, rfl⟩)
  refine codeAny_mono ((F _ KB (dicts hns) TB).run callerA [] s₁ H ⟨[.ref a], []⟩ [.ref a] [.ref a] _ _ rfl hr e0 (bind s₁ (.ref a)) (.cons rfl .nil) (want H tabs0 seq)) fun r s' got => ?_
  rcases r with er | fl
  · exact False.elim got
  cases fl <;> first | exact False.elim got | skip
  obtain ⟨v, H', os, bare, un, hok', r', q⟩ := got
  subst q
  cases r'
  have kept : ∀ b o, b ∉ cs.map (·.2) → s₁.heap.get? b = some o → s'.heap.get? b = some o := fun b o nb e => by
    cases z : H b with
    | none => exact un.keep b o e z (none0 b) (by simp)
    | some u =>
      rcases B.kind b u z with ⟨ob, xs, rfl⟩ | m
      · obtain ⟨e1, _⟩ := hok b _ z
        obtain ⟨e2, _⟩ := hok' b _ (un.frzs b ob _ z)
        cases e1.symm.trans e
        exact e2
      · exact absurd m nb
  have more : ∀ b, b ∈ cs.map (·.2) → ∃ ps, s'.heap.get? b = some (PySem.W.tabObj ps) := fun b m => by
    obtain ⟨ps, z⟩ := un.tbls b #[] (B.tabs b m)
    exact ⟨_, hok' b _ z⟩
  refine ⟨rfl, ⟨fun b o e => ?_, fun b o e => ?_⟩, os, bare⟩
  · by_cases m : b ∈ cs.map (·.2)
    · obtain ⟨p, hp, rfl⟩ := inT m
      obtain ⟨ps, z⟩ := more _ m
      cases emp m e
      exact .inr (.inl ⟨((tab p hp).2.2.tab (tab p hp).1).isCodeTable, rfl, #[], ps, rfl, by rw [Array.empty_append]; exact z⟩)
    · exact .inl (kept b o m e)
  · by_cases m : b ∈ cs.map (·.2)
    · obtain ⟨ps, z⟩ := more _ m
      exact ⟨_, z⟩
    · exact ⟨o, kept b o m e⟩
end
/-- the tables of the codes of the defs named, as the head finds them -/
theorem walkGTs {l : PySem.W.OpenLaw} {n k : Nat} {q : Program} {loose : List Str} {XP : (Str → Option Value) → Heap → Prop} {YP : World → Heap → Prop} {d : DefRec} {K : Params → PySem.W.Frag} {sp : List (Addr × Addr) → World → Sp} {x : Str} (names : List Str)
    (hn : l.most = some n) (hn2 : n ≤ sizeLine) (hdf : d.params.defaults = []) (hr : Room k callerA) (hrec : ∀ y ∈ names, ((recsOf q).any fun e => e.name == y) = true) (hY : ∀ (w : World) (h : Heap), YP w h → (K w.params).In h)
    (F : ∀ (w : World) (mg : Str → Option Value) (fa : Addr) (h : Heap), (K w.params).In h → h.Ns mainGlobals mg → mg d.name = some (.ref fa) → (∀ y ∈ names, ∀ fy, mg y = some (.ref fy) → OwnTab (K w.params) fy h) →
      ∃ (fd : FuncData) (cs : List (Addr × Addr)), (∀ p ∈ cs, h.get? p.2 = some (PySem.W.tabObj #[]) ∧ (K w.params).lookup p.2 = none ∧ PySem.W.CodeHd h p.1 p.2) ∧ (∀ (s : Shared) (u : Value), BindsTo s fd ⟨[u], []⟩ [(x, u)]) ∧
        ∀ base : Heap, (K w.params).In base → base.Ns mainGlobals mg → (∀ p ∈ cs, TabB base mg p.1 p.2) → FnG l.prog w (K w.params) mg base CX0 k fa fd [x] (sp cs w))
    (want : ∀ (cs : List (Addr × Addr)) (w : World) (H : Hp) (a : Addr) (ns : List Int), ns.length ≤ n → (∀ z ∈ ns, Builtin.Int.intBits z ≤ 1048576) → (∀ p ∈ cs, H p.2 = some (.tbl #[])) → SqL (K w.params) H a (ns.map V.int) → sp cs w [.ref a] H (fun v _ => v = .bl true) fun _ _ _ => False) :
    PySem.W.WalkO q loose XP YP l.row.toRowW d [] (fun f vs => PySem.call f vs) := by
  refine Att.attach_callB hn hdf fun w s₀ s₁ mg mb fa o pm cd doc a vs ns G Y ho hd hcd hmg hobj hints hlen hbits hg => ?_
  have KX := hY w _ Y
  have own : ∀ y ∈ names, ∀ fy, mg y = some (.ref fy) → OwnTab (K w.params) fy s₁.heap := fun y hy fy my c T o1 f1 e dd us sl k1 k2 k3 k4 k5 => by
    obtain ⟨dL, hm, same⟩ := List.any_eq_true.mp (hrec y hy)
    obtain ⟨_, o2, f2, _, _, g1, g2, g3, g4, _, ⟨⟨_, _, g5, _, g6, g7⟩, at_⟩⟩ := G.T.tab dL hm
    rw [beq_iff_eq.mp same, my] at g1
    cases g1
    cases (KX _ _ k1).symm.trans g2
    cases k2.symm.trans g3
    cases k3.symm.trans g4
    cases (KX _ _ k4).symm.trans g5
    cases g6
    cases k5.symm.trans g7
    exact at_
  obtain ⟨fd, cs, ht, hb, hF⟩ := F w mg fa _ KX G.T.g hmg own
  exact lawGT KX G.T.g G.T.b G.T.builtins G.T.nolimit hg ht G.T.bmain hobj hints (Nat.le_trans hlen hn2) hr hF hb fun H tabs seq => want cs w H a ns hlen hbits tabs seq
/-- the tables by the names of the defs whose codes they hold -/
def tabsOf (names : List Str) (cs : List (Addr × Addr)) : List (Addr × Str) := (cs.map (·.2)).zip (names.map lamQ)
theorem tabs_of {names : List Str} {cs : List (Addr × Addr)} {H : Hp} (h : ∀ p ∈ cs, H p.2 = some (.tbl #[])) : Tabs (tabsOf names cs) H := fun t ht => by
  obtain ⟨t1, t2⟩ := t
  obtain ⟨p, hp, e⟩ := List.mem_map.mp (List.of_mem_zip ht).1
  have := h p hp
  rw [e] at this
  exact TabS.nil this
end Kx
set_option Elab.async false
set_option maxRecDepth 100000
set_option autoImplicit false
namespace Kx
open PySem L2 PySem.Spec PyProof.Rows Rg Er Ru LamX Tn ClX
theorem free_of {ns : List (Str × NameKind)} (h : ns.all (fun y => decide (y.2 ≠ .free) || y.1 == "__class__") = true) : ∀ x, ns.lookup x = some .free → x = "__class__" := by
  intro x e
  have m : (x, NameKind.free) ∈ ns := by
    induction ns with
    | nil => cases e
    | cons y r ih =>
      obtain ⟨y1, y2⟩ := y
      by_cases q : (x == y1) = true
      · simp only [List.lookup, q] at e
        rw [beq_iff_eq.mp q]
        cases e
        exact List.mem_cons_self
      · have q' : (x == y1) = false := by simpa using q
        simp only [List.lookup, q'] at e
        exact List.mem_cons_of_mem _ (ih (by
          rw [List.all_cons, Bool.and_eq_true] at h
          exact h.2) e)
  have := List.all_eq_true.mp h _ m
  simpa using this
abbrev sInit_S : Stmt := inClass (top 4) 0
abbrev sInit_O : Stmt := inClass (top 5) 0
abbrev sInit_Q : Stmt := inClass (top 6) 0
abbrev sInit_B : Stmt := inClass (top 7) 0
abbrev sInit_H : Stmt := inClass (top 8) 0
abbrev sInit_U : Stmt := inClass (top 9) 0
abbrev sInit_M : Stmt := inClass (top 10) 0
theorem esS : ErrS ["self", "part"] (defScope sInit_S) := ⟨rfl, by decide +kernel, by decide +kernel, by decide +kernel, rfl, rfl, free_of (by decide +kernel), rfl, rfl, rfl⟩
theorem esO : ErrS ["self", "at"] (defScope sInit_O) := ⟨rfl, by decide +kernel, by decide +kernel, by decide +kernel, rfl, rfl, free_of (by decide +kernel), rfl, rfl, rfl⟩
theorem esQ : ErrS ["self", "part"] (defScope sInit_Q) := ⟨rfl, by decide +kernel, by decide +kernel, by decide +kernel, rfl, rfl, free_of (by decide +kernel), rfl, rfl, rfl⟩
theorem esB : ErrS ["self", "at"] (defScope sInit_B) := ⟨rfl, by decide +kernel, by decide +kernel, by decide +kernel, rfl, rfl, free_of (by decide +kernel), rfl, rfl, rfl⟩
theorem esH : ErrS ["self", "at"] (defScope sInit_H) := ⟨rfl, by decide +kernel, by decide +kernel, by decide +kernel, rfl, rfl, free_of (by decide +kernel), rfl, rfl, rfl⟩
theorem esU : ErrS ["self", "old", "new"] (defScope sInit_U) := ⟨rfl, by decide +kernel, by decide +kernel, by decide +kernel, rfl, rfl, free_of (by decide +kernel), rfl, rfl, rfl⟩
theorem esM : ErrS ["self", "part"] (defScope sInit_M) := ⟨rfl, by decide +kernel, by decide +kernel, by decide +kernel, rfl, rfl, free_of (by decide +kernel), rfl, rfl, rfl⟩
section
variable {P : Program} {w : World} {K : PySem.W.Frag} {mg : Str → Option Value} {base : Heap}
theorem ok_initS {C f cda cc : Addr} {oc dV kV doc pm ct : Value} {od an : Option Addr} {osl : Array (Option Value)} (T : ErrC P K C f cc cda) (O : OexC K C) (no0 : PySem.W.findIn K (.ref C) "part" = some none)
    (lk : K.lookup f = some ⟨oc, od, .func (PySem.W.ksFn "__init__" "BadSigns.__init__" (defArgs sInit_S) (defBody sInit_S) (defScope sInit_S) dV kV doc pm an (.ref cda) ct cc), osl⟩) (hcd : PySem.W.codeIn K (.ref cda) "BadSigns.__init__" = true) (gs : mg "super" = none) :
    FnOk P w K mg base CX0 1 f (PySem.W.ksFn "__init__" "BadSigns.__init__" (defArgs sInit_S) (defBody sInit_S) (defScope sInit_S) dV kV doc pm an (.ref cda) ct cc) ["self", "part"] (spErr1 C "part") := by
  refine ok_err T esS lk hcd gs rfl rfl rfl (fun vs H Q E h => ?_) (fun vs H Q E h => ?_) (fun A outer s H vs Q E h => rest1 esS O no0 rfl rfl A outer s H vs Q E h) (fun _ => rfl) (fun _ => rfl) (fun _ => rfl)
  · obtain ⟨a, v, rfl, _⟩ := h
    rfl
  · obtain ⟨a, v, rfl, ea, _⟩ := h
    exact ⟨a, _, rfl, ea⟩
theorem ok_initO {C f cda cc : Addr} {oc dV kV doc pm ct : Value} {od an : Option Addr} {osl : Array (Option Value)} (T : ErrC P K C f cc cda) (O : OexC K C) (no0 : PySem.W.findIn K (.ref C) "at" = some none)
    (lk : K.lookup f = some ⟨oc, od, .func (PySem.W.ksFn "__init__" "BadRow.__init__" (defArgs sInit_O) (defBody sInit_O) (defScope sInit_O) dV kV doc pm an (.ref cda) ct cc), osl⟩) (hcd : PySem.W.codeIn K (.ref cda) "BadRow.__init__" = true) (gs : mg "super" = none) :
    FnOk P w K mg base CX0 1 f (PySem.W.ksFn "__init__" "BadRow.__init__" (defArgs sInit_O) (defBody sInit_O) (defScope sInit_O) dV kV doc pm an (.ref cda) ct cc) ["self", "at"] (spErr1 C "at") := by
  refine ok_err T esO lk hcd gs rfl rfl rfl (fun vs H Q E h => ?_) (fun vs H Q E h => ?_) (fun A outer s H vs Q E h => rest1 esO O no0 rfl rfl A outer s H vs Q E h) (fun _ => rfl) (fun _ => rfl) (fun _ => rfl)
  · obtain ⟨a, v, rfl, _⟩ := h
    rfl
  · obtain ⟨a, v, rfl, ea, _⟩ := h
    exact ⟨a, _, rfl, ea⟩
theorem ok_initQ {C f cda cc : Addr} {oc dV kV doc pm ct : Value} {od an : Option Addr} {osl : Array (Option Value)} (T : ErrC P K C f cc cda) (O : OexC K C) (no0 : PySem.W.findIn K (.ref C) "part" = some none)
    (lk : K.lookup f = some ⟨oc, od, .func (PySem.W.ksFn "__init__" "BadRule.__init__" (defArgs sInit_Q) (defBody sInit_Q) (defScope sInit_Q) dV kV doc pm an (.ref cda) ct cc), osl⟩) (hcd : PySem.W.codeIn K (.ref cda) "BadRule.__init__" = true) (gs : mg "super" = none) :
    FnOk P w K mg base CX0 1 f (PySem.W.ksFn "__init__" "BadRule.__init__" (defArgs sInit_Q) (defBody sInit_Q) (defScope sInit_Q) dV kV doc pm an (.ref cda) ct cc) ["self", "part"] (spErr1 C "part") := by
  refine ok_err T esQ lk hcd gs rfl rfl rfl (fun vs H Q E h => ?_) (fun vs H Q E h => ?_) (fun A outer s H vs Q E h => rest1 esQ O no0 rfl rfl A outer s H vs Q E h) (fun _ => rfl) (fun _ => rfl) (fun _ => rfl)
  · obtain ⟨a, v, rfl, _⟩ := h
    rfl
  · obtain ⟨a, v, rfl, ea, _⟩ := h
    exact ⟨a, _, rfl, ea⟩
theorem ok_initB {C f cda cc : Addr} {oc dV kV doc pm ct : Value} {od an : Option Addr} {osl : Array (Option Value)} (T : ErrC P K C f cc cda) (O : OexC K C) (no0 : PySem.W.findIn K (.ref C) "at" = some none)
    (lk : K.lookup f = some ⟨oc, od, .func (PySem.W.ksFn "__init__" "BadBook.__init__" (defArgs sInit_B) (defBody sInit_B) (defScope sInit_B) dV kV doc pm an (.ref cda) ct cc), osl⟩) (hcd : PySem.W.codeIn K (.ref cda) "BadBook.__init__" = true) (gs : mg "super" = none) :
    FnOk P w K mg base CX0 1 f (PySem.W.ksFn "__init__" "BadBook.__init__" (defArgs sInit_B) (defBody sInit_B) (defScope sInit_B) dV kV doc pm an (.ref cda) ct cc) ["self", "at"] (spErr1 C "at") := by
  refine ok_err T esB lk hcd gs rfl rfl rfl (fun vs H Q E h => ?_) (fun vs H Q E h => ?_) (fun A outer s H vs Q E h => rest1 esB O no0 rfl rfl A outer s H vs Q E h) (fun _ => rfl) (fun _ => rfl) (fun _ => rfl)
  · obtain ⟨a, v, rfl, _⟩ := h
    rfl
  · obtain ⟨a, v, rfl, ea, _⟩ := h
    exact ⟨a, _, rfl, ea⟩
theorem ok_initH {C f cda cc : Addr} {oc dV kV doc pm ct : Value} {od an : Option Addr} {osl : Array (Option Value)} (T : ErrC P K C f cc cda) (O : OexC K C) (no0 : PySem.W.findIn K (.ref C) "at" = some none)
    (lk : K.lookup f = some ⟨oc, od, .func (PySem.W.ksFn "__init__" "Heavier.__init__" (defArgs sInit_H) (defBody sInit_H) (defScope sInit_H) dV kV doc pm an (.ref cda) ct cc), osl⟩) (hcd : PySem.W.codeIn K (.ref cda) "Heavier.__init__" = true) (gs : mg "super" = none) :
    FnOk P w K mg base CX0 1 f (PySem.W.ksFn "__init__" "Heavier.__init__" (defArgs sInit_H) (defBody sInit_H) (defScope sInit_H) dV kV doc pm an (.ref cda) ct cc) ["self", "at"] (spErr1 C "at") := by
  refine ok_err T esH lk hcd gs rfl rfl rfl (fun vs H Q E h => ?_) (fun vs H Q E h => ?_) (fun A outer s H vs Q E h => rest1 esH O no0 rfl rfl A outer s H vs Q E h) (fun _ => rfl) (fun _ => rfl) (fun _ => rfl)
  · obtain ⟨a, v, rfl, _⟩ := h
    rfl
  · obtain ⟨a, v, rfl, ea, _⟩ := h
    exact ⟨a, _, rfl, ea⟩
theorem ok_initU {C f cda cc : Addr} {oc dV kV doc pm ct : Value} {od an : Option Addr} {osl : Array (Option Value)} (T : ErrC P K C f cc cda) (O : OexC K C) (no0 : PySem.W.findIn K (.ref C) "old" = some none) (no1 : PySem.W.findIn K (.ref C) "new" = some none)
    (lk : K.lookup f = some ⟨oc, od, .func (PySem.W.ksFn "__init__" "Unlessened.__init__" (defArgs sInit_U) (defBody sInit_U) (defScope sInit_U) dV kV doc pm an (.ref cda) ct cc), osl⟩) (hcd : PySem.W.codeIn K (.ref cda) "Unlessened.__init__" = true) (gs : mg "super" = none) :
    FnOk P w K mg base CX0 1 f (PySem.W.ksFn "__init__" "Unlessened.__init__" (defArgs sInit_U) (defBody sInit_U) (defScope sInit_U) dV kV doc pm an (.ref cda) ct cc) ["self", "old", "new"] (spErr2 C "old" "new") := by
  refine ok_err T esU lk hcd gs rfl rfl rfl (fun vs H Q E h => ?_) (fun vs H Q E h => ?_) (fun A outer s H vs Q E h => rest2 esU O no0 no1 rfl rfl rfl rfl A outer s H vs Q E h) (fun _ => rfl) (fun _ => rfl) (fun _ => rfl)
  · obtain ⟨a, v, u, rfl, _⟩ := h
    rfl
  · obtain ⟨a, v, u, rfl, ea, _⟩ := h
    exact ⟨a, _, rfl, ea⟩
theorem ok_initM {C f cda cc : Addr} {oc dV kV doc pm ct : Value} {od an : Option Addr} {osl : Array (Option Value)} (T : ErrC P K C f cc cda) (O : OexC K C) (no0 : PySem.W.findIn K (.ref C) "part" = some none)
    (lk : K.lookup f = some ⟨oc, od, .func (PySem.W.ksFn "__init__" "BadMove.__init__" (defArgs sInit_M) (defBody sInit_M) (defScope sInit_M) dV kV doc pm an (.ref cda) ct cc), osl⟩) (hcd : PySem.W.codeIn K (.ref cda) "BadMove.__init__" = true) (gs : mg "super" = none) :
    FnOk P w K mg base CX0 1 f (PySem.W.ksFn "__init__" "BadMove.__init__" (defArgs sInit_M) (defBody sInit_M) (defScope sInit_M) dV kV doc pm an (.ref cda) ct cc) ["self", "part"] (spErr1 C "part") := by
  refine ok_err T esM lk hcd gs rfl rfl rfl (fun vs H Q E h => ?_) (fun vs H Q E h => ?_) (fun A outer s H vs Q E h => rest1 esM O no0 rfl rfl A outer s H vs Q E h) (fun _ => rfl) (fun _ => rfl) (fun _ => rfl)
  · obtain ⟨a, v, rfl, _⟩ := h
    rfl
  · obtain ⟨a, v, rfl, ea, _⟩ := h
    exact ⟨a, _, rfl, ea⟩
end
abbrev N3 : List Str := ["_law_right", "_law_refused"]
set_option maxHeartbeats 0 in
theorem all_mk {l : PySem.W.OpenLaw} {w : World} {K : PySem.W.Frag} {h : Heap} {mg : Str → Option Value} {fa C CW CR : Addr} {tk : Tok} (X : K.In h) (G : h.Ns mainGlobals mg) (hfa : mg "law" = some (.ref fa)) (own : ∀ y ∈ N3, ∀ fy, mg y = some (.ref fy) → OwnTab K fy h)
    {ES : Addr} {nm_S q_S : Str} {N_S : Addr} {bs_S bm_S : List Value} {sn_S : List Str} {sub_S : List Value} {ab_S : Bool} {col_S : Option Bool} {dd_S : Option Addr} {w0_S w1_S w2_S w3_S w5_S : Option Value} {fe_S cc_S cda_S : Addr} {oce_S kVe_S doce_S pme_S cte_S : Value} {ode_S ane_S : Option Addr} {osle_S : Array (Option Value)} {cl_S ccl_S : Value} {cld_S cdd_S : Option Addr} {csl_S ccs_S : Array (Option Value)} {vs_S : Array Value} {file_S : Str} {tf_S : Tok}
    {EO : Addr} {nm_O q_O : Str} {N_O : Addr} {bs_O bm_O : List Value} {sn_O : List Str} {sub_O : List Value} {ab_O : Bool} {col_O : Option Bool} {dd_O : Option Addr} {w0_O w1_O w2_O w3_O w5_O : Option Value} {fe_O cc_O cda_O : Addr} {oce_O kVe_O doce_O pme_O cte_O : Value} {ode_O ane_O : Option Addr} {osle_O : Array (Option Value)} {cl_O ccl_O : Value} {cld_O cdd_O : Option Addr} {csl_O ccs_O : Array (Option Value)} {vs_O : Array Value} {file_O : Str} {tf_O : Tok}
    {EQ : Addr} {nm_Q q_Q : Str} {N_Q : Addr} {bs_Q bm_Q : List Value} {sn_Q : List Str} {sub_Q : List Value} {ab_Q : Bool} {col_Q : Option Bool} {dd_Q : Option Addr} {w0_Q w1_Q w2_Q w3_Q w5_Q : Option Value} {fe_Q cc_Q cda_Q : Addr} {oce_Q kVe_Q doce_Q pme_Q cte_Q : Value} {ode_Q ane_Q : Option Addr} {osle_Q : Array (Option Value)} {cl_Q ccl_Q : Value} {cld_Q cdd_Q : Option Addr} {csl_Q ccs_Q : Array (Option Value)} {vs_Q : Array Value} {file_Q : Str} {tf_Q : Tok}
    {EB : Addr} {nm_B q_B : Str} {N_B : Addr} {bs_B bm_B : List Value} {sn_B : List Str} {sub_B : List Value} {ab_B : Bool} {col_B : Option Bool} {dd_B : Option Addr} {w0_B w1_B w2_B w3_B w5_B : Option Value} {fe_B cc_B cda_B : Addr} {oce_B kVe_B doce_B pme_B cte_B : Value} {ode_B ane_B : Option Addr} {osle_B : Array (Option Value)} {cl_B ccl_B : Value} {cld_B cdd_B : Option Addr} {csl_B ccs_B : Array (Option Value)} {vs_B : Array Value} {file_B : Str} {tf_B : Tok}
    {EH : Addr} {nm_H q_H : Str} {N_H : Addr} {bs_H bm_H : List Value} {sn_H : List Str} {sub_H : List Value} {ab_H : Bool} {col_H : Option Bool} {dd_H : Option Addr} {w0_H w1_H w2_H w3_H w5_H : Option Value} {fe_H cc_H cda_H : Addr} {oce_H kVe_H doce_H pme_H cte_H : Value} {ode_H ane_H : Option Addr} {osle_H : Array (Option Value)} {cl_H ccl_H : Value} {cld_H cdd_H : Option Addr} {csl_H ccs_H : Array (Option Value)} {vs_H : Array Value} {file_H : Str} {tf_H : Tok}
    {EU : Addr} {nm_U q_U : Str} {N_U : Addr} {bs_U bm_U : List Value} {sn_U : List Str} {sub_U : List Value} {ab_U : Bool} {col_U : Option Bool} {dd_U : Option Addr} {w0_U w1_U w2_U w3_U w5_U : Option Value} {fe_U cc_U cda_U : Addr} {oce_U kVe_U doce_U pme_U cte_U : Value} {ode_U ane_U : Option Addr} {osle_U : Array (Option Value)} {cl_U ccl_U : Value} {cld_U cdd_U : Option Addr} {csl_U ccs_U : Array (Option Value)} {vs_U : Array Value} {file_U : Str} {tf_U : Tok}
    {EM : Addr} {nm_M q_M : Str} {N_M : Addr} {bs_M bm_M : List Value} {sn_M : List Str} {sub_M : List Value} {ab_M : Bool} {col_M : Option Bool} {dd_M : Option Addr} {w0_M w1_M w2_M w3_M w5_M : Option Value} {fe_M cc_M cda_M : Addr} {oce_M kVe_M doce_M pme_M cte_M : Value} {ode_M ane_M : Option Addr} {osle_M : Array (Option Value)} {cl_M ccl_M : Value} {cld_M cdd_M : Option Addr} {csl_M ccs_M : Array (Option Value)} {vs_M : Array Value} {file_M : Str} {tf_M : Tok}
    {f_isint : Addr} {od_isint an_isint : Option Addr} {sl_isint : Array (Option Value)} {oc_isint kV_isint dc_isint pm_isint cd_isint ct_isint : Value}
    {f_fromto : Addr} {od_fromto an_fromto : Option Addr} {sl_fromto : Array (Option Value)} {oc_fromto kV_fromto dc_fromto pm_fromto cd_fromto ct_fromto : Value}
    {f_isletr : Addr} {od_isletr an_isletr : Option Addr} {sl_isletr : Array (Option Value)} {oc_isletr kV_isletr dc_isletr pm_isletr cd_isletr ct_isletr : Value}
    {f_letrs : Addr} {od_letrs an_letrs : Option Addr} {sl_letrs : Array (Option Value)} {oc_letrs kV_letrs dc_letrs pm_letrs cd_letrs ct_letrs : Value}
    {f_wrong : Addr} {od_wrong an_wrong : Option Addr} {sl_wrong : Array (Option Value)} {oc_wrong kV_wrong dc_wrong pm_wrong cd_wrong ct_wrong : Value}
    {f_chk : Addr} {od_chk an_chk : Option Addr} {sl_chk : Array (Option Value)} {oc_chk kV_chk dc_chk pm_chk cd_chk ct_chk : Value}
    {f_weigh : Addr} {od_weigh an_weigh : Option Addr} {sl_weigh : Array (Option Value)} {oc_weigh kV_weigh dc_weigh pm_weigh cd_weigh ct_weigh : Value}
    {f_mfrom : Addr} {od_mfrom an_mfrom : Option Addr} {sl_mfrom : Array (Option Value)} {oc_mfrom kV_mfrom dc_mfrom pm_mfrom cd_mfrom ct_mfrom : Value}
    {f_hasmv : Addr} {od_hasmv an_hasmv : Option Addr} {sl_hasmv : Array (Option Value)} {oc_hasmv kV_hasmv dc_hasmv pm_hasmv cd_hasmv ct_hasmv : Value}
    {f_rowsb : Addr} {od_rowsb an_rowsb : Option Addr} {sl_rowsb : Array (Option Value)} {oc_rowsb kV_rowsb dc_rowsb pm_rowsb cd_rowsb ct_rowsb : Value}
    {f_rowof : Addr} {od_rowof an_rowof : Option Addr} {sl_rowof : Array (Option Value)} {oc_rowof kV_rowof dc_rowof pm_rowof cd_rowof ct_rowof : Value}
    {f_hasfm : Addr} {od_hasfm an_hasfm : Option Addr} {sl_hasfm : Array (Option Value)} {oc_hasfm kV_hasfm dc_hasfm pm_hasfm cd_hasfm ct_hasfm : Value}
    {f_rowbm : Addr} {od_rowbm an_rowbm : Option Addr} {sl_rowbm : Array (Option Value)} {oc_rowbm kV_rowbm dc_rowbm pm_rowbm cd_rowbm ct_rowbm : Value}
    {f_ispair : Addr} {od_ispair an_ispair : Option Addr} {sl_ispair : Array (Option Value)} {oc_ispair kV_ispair dc_ispair pm_ispair cd_ispair ct_ispair : Value}
    {f_isrul : Addr} {od_isrul an_isrul : Option Addr} {sl_isrul : Array (Option Value)} {oc_isrul kV_isrul dc_isrul pm_isrul cd_isrul ct_isrul : Value}
    {f_pen : Addr} {od_pen an_pen : Option Addr} {sl_pen : Array (Option Value)} {oc_pen kV_pen dc_pen pm_pen cd_pen ct_pen : Value}
    {f_draw : Addr} {od_draw an_draw : Option Addr} {sl_draw : Array (Option Value)} {oc_draw kV_draw dc_draw pm_draw cd_draw ct_draw : Value}
    {f_pick : Addr} {od_pick an_pick : Option Addr} {sl_pick : Array (Option Value)} {oc_pick kV_pick dc_pick pm_pick cd_pick ct_pick : Value}
    {f_text : Addr} {od_text an_text : Option Addr} {sl_text : Array (Option Value)} {oc_text kV_text dc_text pm_text cd_text ct_text : Value}
    {f_prs : Addr} {od_prs an_prs : Option Addr} {sl_prs : Array (Option Value)} {oc_prs kV_prs dc_prs pm_prs cd_prs ct_prs : Value}
    {f_wgt : Addr} {od_wgt an_wgt : Option Addr} {sl_wgt : Array (Option Value)} {oc_wgt kV_wgt dc_wgt pm_wgt cd_wgt ct_wgt : Value}
    {f_rul : Addr} {od_rul an_rul : Option Addr} {sl_rul : Array (Option Value)} {oc_rul kV_rul dc_rul pm_rul cd_rul ct_rul : Value}
    {f_ruls : Addr} {od_ruls an_ruls : Option Addr} {sl_ruls : Array (Option Value)} {oc_ruls kV_ruls dc_ruls pm_ruls cd_ruls ct_ruls : Value}
    {f_made : Addr} {od_made an_made : Option Addr} {sl_made : Array (Option Value)} {oc_made kV_made dc_made pm_made cd_made ct_made : Value}
    {f_book : Addr} {od_book an_book : Option Addr} {sl_book : Array (Option Value)} {oc_book kV_book dc_book pm_book cd_book ct_book : Value}
    {f_fits : Addr} {od_fits an_fits : Option Addr} {sl_fits : Array (Option Value)} {oc_fits kV_fits dc_fits pm_fits cd_fits ct_fits : Value}
    {f_moves : Addr} {od_moves an_moves : Option Addr} {sl_moves : Array (Option Value)} {oc_moves kV_moves dc_moves pm_moves cd_moves ct_moves : Value}
    {f_led : Addr} {od_led an_led : Option Addr} {sl_led : Array (Option Value)} {oc_led kV_led dc_led pm_led cd_led ct_led : Value}
    {f_row : Addr} {od_row an_row : Option Addr} {sl_row : Array (Option Value)} {oc_row kV_row dc_row pm_row cd_row ct_row : Value}
    {f_hrd : Addr} {od_hrd an_hrd : Option Addr} {sl_hrd : Array (Option Value)} {oc_hrd kV_hrd dc_hrd pm_hrd cd_hrd ct_hrd : Value}
    {f_mdue : Addr} {od_mdue an_mdue : Option Addr} {sl_mdue : Array (Option Value)} {oc_mdue kV_mdue dc_mdue pm_mdue cd_mdue ct_mdue : Value}
    {f_odd : Addr} {od_odd an_odd : Option Addr} {sl_odd : Array (Option Value)} {oc_odd kV_odd dc_odd pm_odd cd_odd ct_odd : Value}
    {f_right cd_right tab_right : Addr} {od_right an_right odt_right : Option Addr} {sl_right slt_right : Array (Option Value)} {oc_right kV_right dc_right pm_right ct_right oct_right : Value} {vst_right : Array Value}
    {f_refd cd_refd tab_refd : Addr} {od_refd an_refd odt_refd : Option Addr} {sl_refd slt_refd : Array (Option Value)} {oc_refd kV_refd dc_refd pm_refd ct_refd oct_refd : Value} {vst_refd : Array Value}
    {f_law : Addr} {od_law an_law : Option Addr} {sl_law : Array (Option Value)} {oc_law kV_law dc_law pm_law cd_law ct_law : Value}
    {f_rinit : Addr} {od_rinit an_rinit : Option Addr} {sl_rinit : Array (Option Value)} {oc_rinit dc_rinit pm_rinit cd_rinit ct_rinit : Value}
    {kd_rinit : Addr}
    {f_winit : Addr} {od_winit an_winit : Option Addr} {sl_winit : Array (Option Value)} {oc_winit kV_winit dc_winit pm_winit cd_winit ct_winit : Value}
    {f_wof : Addr} {od_wof an_wof : Option Addr} {sl_wof : Array (Option Value)} {oc_wof kV_wof dc_wof pm_wof cd_wof ct_wof : Value}
    {p_wof : Addr} {r_wof : List Value}
    {f_wsig : Addr} {od_wsig an_wsig : Option Addr} {sl_wsig : Array (Option Value)} {oc_wsig kV_wsig dc_wsig pm_wsig cd_wsig ct_wsig : Value}
    {p_wsig : Addr} {r_wsig : List Value}
    {f_req : Addr} {od_req an_req : Option Addr} {sl_req : Array (Option Value)} {oc_req kV_req dc_req pm_req cd_req ct_req : Value}
    {f_rallp : Addr} {od_rallp an_rallp : Option Addr} {sl_rallp : Array (Option Value)} {oc_rallp kV_rallp dc_rallp pm_rallp cd_rallp ct_rallp : Value}
    {f_rfirst : Addr} {od_rfirst an_rfirst : Option Addr} {sl_rfirst : Array (Option Value)} {oc_rfirst kV_rfirst dc_rfirst pm_rfirst cd_rfirst ct_rfirst : Value}
    {f_rfits : Addr} {od_rfits an_rfits : Option Addr} {sl_rfits : Array (Option Value)} {oc_rfits kV_rfits dc_rfits pm_rfits cd_rfits ct_rfits : Value}
    {f_rcall : Addr} {od_rcall an_rcall : Option Addr} {sl_rcall : Array (Option Value)} {oc_rcall kV_rcall dc_rcall pm_rcall cd_rcall ct_rcall : Value}
    {f_binit : Addr} {od_binit an_binit : Option Addr} {sl_binit : Array (Option Value)} {oc_binit kV_binit dc_binit pm_binit cd_binit ct_binit : Value}
    {f_bof : Addr} {od_bof an_bof : Option Addr} {sl_bof : Array (Option Value)} {oc_bof kV_bof dc_bof pm_bof cd_bof ct_bof : Value}
    {p_bof : Addr} {r_bof : List Value}
    {f_bcall : Addr} {od_bcall an_bcall : Option Addr} {sl_bcall : Array (Option Value)} {oc_bcall kV_bcall dc_bcall pm_bcall cd_bcall ct_bcall : Value}
    {f_bfin : Addr} {od_bfin an_bfin : Option Addr} {sl_bfin : Array (Option Value)} {oc_bfin kV_bfin dc_bfin pm_bfin cd_bfin ct_bfin : Value}
    {f_bledto : Addr} {od_bledto an_bledto : Option Addr} {sl_bledto : Array (Option Value)} {oc_bledto kV_bledto dc_bledto pm_bledto cd_bledto ct_bledto : Value}
    {f_bled : Addr} {od_bled an_bled : Option Addr} {sl_bled : Array (Option Value)} {oc_bled kV_bled dc_bled pm_bled cd_bled ct_bled : Value}
    {tM tN : Tok}
    (a_CW : PySem.W.nsIn K mainGlobals "Weights" = some (some (.ref CW)))
    (a_CR : PySem.W.nsIn K mainGlobals "Rule" = some (some (.ref CR)))
    (a_C : PySem.W.nsIn K mainGlobals "Book" = some (some (.ref C)))
    (aES : PySem.W.nsIn K mainGlobals "BadSigns" = some (some (.ref ES)))
    (xL_S : K.lookup ES = some (excClassObj nm_S q_S ES N_S bs_S bm_S true sn_S sub_S ab_S col_S dd_S w0_S w1_S w2_S w3_S w5_S "ValueError.__new__"))
    (rv_S : PySem.HandSPX.refsVE bm_S = true)
    (sa_S : PySem.W.findIn K (.ref ES) "__setattr__" = some (some (.builtin "object.__setattr__")))
    (ex_S : PySem.W.subIn K (.ref ES) (.type "BaseException") = some true)
    (ty_S : PySem.W.typeIn K (.ref ES) = some (.type "type"))
    (kC_S : PySem.W.keepIn K (.ref ES) = true)
    (ini_S : PySem.W.findIn K (.ref ES) "__init__" = some (some (.ref fe_S)))
    (ti_S : PySem.W.typeIn K (.ref fe_S) = some (.type "function"))
    (le_S : K.lookup fe_S = some ⟨oce_S, ode_S, .func (PySem.W.ksFn "__init__" "BadSigns.__init__" (defArgs sInit_S) (defBody sInit_S) (defScope sInit_S) .none kVe_S doce_S pme_S ane_S (.ref cda_S) cte_S cc_S), osle_S⟩)
    (ce_S : PySem.W.codeIn K (.ref cda_S) "BadSigns.__init__" = true)
    (no_part_S : PySem.W.findIn K (.ref ES) "part" = some none)
    (su_S : PySem.W.ks_superIn K ES ES "__init__" = some (some (.builtin veInit)))
    (ve_S : PySem.W.subIn K (.ref ES) (.type "ValueError") = some true)
    (se_S : PySem.W.mroIn K ES (.ref ES) = some true)
    (cel_S : K.lookup cc_S = some ⟨cl_S, cld_S, .cell (some (.ref ES)), csl_S⟩)
    (cod_S : K.lookup cda_S = some ⟨ccl_S, cdd_S, .fields vs_S, ccs_S⟩)
    (v2_S : vs_S[2]? = some (.str file_S tf_S))
    (fl_S : ((l.prog.main.file : Str) == file_S) = true)
    (aEO : PySem.W.nsIn K mainGlobals "BadRow" = some (some (.ref EO)))
    (xL_O : K.lookup EO = some (excClassObj nm_O q_O EO N_O bs_O bm_O true sn_O sub_O ab_O col_O dd_O w0_O w1_O w2_O w3_O w5_O "ValueError.__new__"))
    (rv_O : PySem.HandSPX.refsVE bm_O = true)
    (sa_O : PySem.W.findIn K (.ref EO) "__setattr__" = some (some (.builtin "object.__setattr__")))
    (ex_O : PySem.W.subIn K (.ref EO) (.type "BaseException") = some true)
    (ty_O : PySem.W.typeIn K (.ref EO) = some (.type "type"))
    (kC_O : PySem.W.keepIn K (.ref EO) = true)
    (ga_O : PySem.W.findIn K (.ref EO) "__getattribute__" = some (some (.builtin "BaseException.__getattribute__")))
    (gg_O : PySem.W.findIn K (.ref EO) "__getattr__" = some none)
    (hdc_O : PySem.W.hasDictIn K EO = true)
    (ini_O : PySem.W.findIn K (.ref EO) "__init__" = some (some (.ref fe_O)))
    (ti_O : PySem.W.typeIn K (.ref fe_O) = some (.type "function"))
    (le_O : K.lookup fe_O = some ⟨oce_O, ode_O, .func (PySem.W.ksFn "__init__" "BadRow.__init__" (defArgs sInit_O) (defBody sInit_O) (defScope sInit_O) .none kVe_O doce_O pme_O ane_O (.ref cda_O) cte_O cc_O), osle_O⟩)
    (ce_O : PySem.W.codeIn K (.ref cda_O) "BadRow.__init__" = true)
    (no_at_O : PySem.W.findIn K (.ref EO) "at" = some none)
    (su_O : PySem.W.ks_superIn K EO EO "__init__" = some (some (.builtin veInit)))
    (ve_O : PySem.W.subIn K (.ref EO) (.type "ValueError") = some true)
    (se_O : PySem.W.mroIn K EO (.ref EO) = some true)
    (cel_O : K.lookup cc_O = some ⟨cl_O, cld_O, .cell (some (.ref EO)), csl_O⟩)
    (cod_O : K.lookup cda_O = some ⟨ccl_O, cdd_O, .fields vs_O, ccs_O⟩)
    (v2_O : vs_O[2]? = some (.str file_O tf_O))
    (fl_O : ((l.prog.main.file : Str) == file_O) = true)
    (em_O : PySem.W.exmOne K (.ref EO) (.ref EO) = some true)
    (aEQ : PySem.W.nsIn K mainGlobals "BadRule" = some (some (.ref EQ)))
    (xL_Q : K.lookup EQ = some (excClassObj nm_Q q_Q EQ N_Q bs_Q bm_Q true sn_Q sub_Q ab_Q col_Q dd_Q w0_Q w1_Q w2_Q w3_Q w5_Q "ValueError.__new__"))
    (rv_Q : PySem.HandSPX.refsVE bm_Q = true)
    (sa_Q : PySem.W.findIn K (.ref EQ) "__setattr__" = some (some (.builtin "object.__setattr__")))
    (ex_Q : PySem.W.subIn K (.ref EQ) (.type "BaseException") = some true)
    (ty_Q : PySem.W.typeIn K (.ref EQ) = some (.type "type"))
    (kC_Q : PySem.W.keepIn K (.ref EQ) = true)
    (ini_Q : PySem.W.findIn K (.ref EQ) "__init__" = some (some (.ref fe_Q)))
    (ti_Q : PySem.W.typeIn K (.ref fe_Q) = some (.type "function"))
    (le_Q : K.lookup fe_Q = some ⟨oce_Q, ode_Q, .func (PySem.W.ksFn "__init__" "BadRule.__init__" (defArgs sInit_Q) (defBody sInit_Q) (defScope sInit_Q) .none kVe_Q doce_Q pme_Q ane_Q (.ref cda_Q) cte_Q cc_Q), osle_Q⟩)
    (ce_Q : PySem.W.codeIn K (.ref cda_Q) "BadRule.__init__" = true)
    (no_part_Q : PySem.W.findIn K (.ref EQ) "part" = some none)
    (su_Q : PySem.W.ks_superIn K EQ EQ "__init__" = some (some (.builtin veInit)))
    (ve_Q : PySem.W.subIn K (.ref EQ) (.type "ValueError") = some true)
    (se_Q : PySem.W.mroIn K EQ (.ref EQ) = some true)
    (cel_Q : K.lookup cc_Q = some ⟨cl_Q, cld_Q, .cell (some (.ref EQ)), csl_Q⟩)
    (cod_Q : K.lookup cda_Q = some ⟨ccl_Q, cdd_Q, .fields vs_Q, ccs_Q⟩)
    (v2_Q : vs_Q[2]? = some (.str file_Q tf_Q))
    (fl_Q : ((l.prog.main.file : Str) == file_Q) = true)
    (aEB : PySem.W.nsIn K mainGlobals "BadBook" = some (some (.ref EB)))
    (xL_B : K.lookup EB = some (excClassObj nm_B q_B EB N_B bs_B bm_B true sn_B sub_B ab_B col_B dd_B w0_B w1_B w2_B w3_B w5_B "ValueError.__new__"))
    (rv_B : PySem.HandSPX.refsVE bm_B = true)
    (sa_B : PySem.W.findIn K (.ref EB) "__setattr__" = some (some (.builtin "object.__setattr__")))
    (ex_B : PySem.W.subIn K (.ref EB) (.type "BaseException") = some true)
    (ty_B : PySem.W.typeIn K (.ref EB) = some (.type "type"))
    (kC_B : PySem.W.keepIn K (.ref EB) = true)
    (ini_B : PySem.W.findIn K (.ref EB) "__init__" = some (some (.ref fe_B)))
    (ti_B : PySem.W.typeIn K (.ref fe_B) = some (.type "function"))
    (le_B : K.lookup fe_B = some ⟨oce_B, ode_B, .func (PySem.W.ksFn "__init__" "BadBook.__init__" (defArgs sInit_B) (defBody sInit_B) (defScope sInit_B) .none kVe_B doce_B pme_B ane_B (.ref cda_B) cte_B cc_B), osle_B⟩)
    (ce_B : PySem.W.codeIn K (.ref cda_B) "BadBook.__init__" = true)
    (no_at_B : PySem.W.findIn K (.ref EB) "at" = some none)
    (su_B : PySem.W.ks_superIn K EB EB "__init__" = some (some (.builtin veInit)))
    (ve_B : PySem.W.subIn K (.ref EB) (.type "ValueError") = some true)
    (se_B : PySem.W.mroIn K EB (.ref EB) = some true)
    (cel_B : K.lookup cc_B = some ⟨cl_B, cld_B, .cell (some (.ref EB)), csl_B⟩)
    (cod_B : K.lookup cda_B = some ⟨ccl_B, cdd_B, .fields vs_B, ccs_B⟩)
    (v2_B : vs_B[2]? = some (.str file_B tf_B))
    (fl_B : ((l.prog.main.file : Str) == file_B) = true)
    (aEH : PySem.W.nsIn K mainGlobals "Heavier" = some (some (.ref EH)))
    (xL_H : K.lookup EH = some (excClassObj nm_H q_H EH N_H bs_H bm_H true sn_H sub_H ab_H col_H dd_H w0_H w1_H w2_H w3_H w5_H "ValueError.__new__"))
    (rv_H : PySem.HandSPX.refsVE bm_H = true)
    (sa_H : PySem.W.findIn K (.ref EH) "__setattr__" = some (some (.builtin "object.__setattr__")))
    (ex_H : PySem.W.subIn K (.ref EH) (.type "BaseException") = some true)
    (ty_H : PySem.W.typeIn K (.ref EH) = some (.type "type"))
    (kC_H : PySem.W.keepIn K (.ref EH) = true)
    (ini_H : PySem.W.findIn K (.ref EH) "__init__" = some (some (.ref fe_H)))
    (ti_H : PySem.W.typeIn K (.ref fe_H) = some (.type "function"))
    (le_H : K.lookup fe_H = some ⟨oce_H, ode_H, .func (PySem.W.ksFn "__init__" "Heavier.__init__" (defArgs sInit_H) (defBody sInit_H) (defScope sInit_H) .none kVe_H doce_H pme_H ane_H (.ref cda_H) cte_H cc_H), osle_H⟩)
    (ce_H : PySem.W.codeIn K (.ref cda_H) "Heavier.__init__" = true)
    (no_at_H : PySem.W.findIn K (.ref EH) "at" = some none)
    (su_H : PySem.W.ks_superIn K EH EH "__init__" = some (some (.builtin veInit)))
    (ve_H : PySem.W.subIn K (.ref EH) (.type "ValueError") = some true)
    (se_H : PySem.W.mroIn K EH (.ref EH) = some true)
    (cel_H : K.lookup cc_H = some ⟨cl_H, cld_H, .cell (some (.ref EH)), csl_H⟩)
    (cod_H : K.lookup cda_H = some ⟨ccl_H, cdd_H, .fields vs_H, ccs_H⟩)
    (v2_H : vs_H[2]? = some (.str file_H tf_H))
    (fl_H : ((l.prog.main.file : Str) == file_H) = true)
    (aEU : PySem.W.nsIn K mainGlobals "Unlessened" = some (some (.ref EU)))
    (xL_U : K.lookup EU = some (excClassObj nm_U q_U EU N_U bs_U bm_U true sn_U sub_U ab_U col_U dd_U w0_U w1_U w2_U w3_U w5_U "ValueError.__new__"))
    (rv_U : PySem.HandSPX.refsVE bm_U = true)
    (sa_U : PySem.W.findIn K (.ref EU) "__setattr__" = some (some (.builtin "object.__setattr__")))
    (ex_U : PySem.W.subIn K (.ref EU) (.type "BaseException") = some true)
    (ty_U : PySem.W.typeIn K (.ref EU) = some (.type "type"))
    (kC_U : PySem.W.keepIn K (.ref EU) = true)
    (ini_U : PySem.W.findIn K (.ref EU) "__init__" = some (some (.ref fe_U)))
    (ti_U : PySem.W.typeIn K (.ref fe_U) = some (.type "function"))
    (le_U : K.lookup fe_U = some ⟨oce_U, ode_U, .func (PySem.W.ksFn "__init__" "Unlessened.__init__" (defArgs sInit_U) (defBody sInit_U) (defScope sInit_U) .none kVe_U doce_U pme_U ane_U (.ref cda_U) cte_U cc_U), osle_U⟩)
    (ce_U : PySem.W.codeIn K (.ref cda_U) "Unlessened.__init__" = true)
    (no_old_U : PySem.W.findIn K (.ref EU) "old" = some none)
    (no_new_U : PySem.W.findIn K (.ref EU) "new" = some none)
    (su_U : PySem.W.ks_superIn K EU EU "__init__" = some (some (.builtin veInit)))
    (ve_U : PySem.W.subIn K (.ref EU) (.type "ValueError") = some true)
    (se_U : PySem.W.mroIn K EU (.ref EU) = some true)
    (cel_U : K.lookup cc_U = some ⟨cl_U, cld_U, .cell (some (.ref EU)), csl_U⟩)
    (cod_U : K.lookup cda_U = some ⟨ccl_U, cdd_U, .fields vs_U, ccs_U⟩)
    (v2_U : vs_U[2]? = some (.str file_U tf_U))
    (fl_U : ((l.prog.main.file : Str) == file_U) = true)
    (aEM : PySem.W.nsIn K mainGlobals "BadMove" = some (some (.ref EM)))
    (xL_M : K.lookup EM = some (excClassObj nm_M q_M EM N_M bs_M bm_M true sn_M sub_M ab_M col_M dd_M w0_M w1_M w2_M w3_M w5_M "ValueError.__new__"))
    (rv_M : PySem.HandSPX.refsVE bm_M = true)
    (sa_M : PySem.W.findIn K (.ref EM) "__setattr__" = some (some (.builtin "object.__setattr__")))
    (ex_M : PySem.W.subIn K (.ref EM) (.type "BaseException") = some true)
    (ty_M : PySem.W.typeIn K (.ref EM) = some (.type "type"))
    (kC_M : PySem.W.keepIn K (.ref EM) = true)
    (ga_M : PySem.W.findIn K (.ref EM) "__getattribute__" = some (some (.builtin "BaseException.__getattribute__")))
    (gg_M : PySem.W.findIn K (.ref EM) "__getattr__" = some none)
    (hdc_M : PySem.W.hasDictIn K EM = true)
    (ini_M : PySem.W.findIn K (.ref EM) "__init__" = some (some (.ref fe_M)))
    (ti_M : PySem.W.typeIn K (.ref fe_M) = some (.type "function"))
    (le_M : K.lookup fe_M = some ⟨oce_M, ode_M, .func (PySem.W.ksFn "__init__" "BadMove.__init__" (defArgs sInit_M) (defBody sInit_M) (defScope sInit_M) .none kVe_M doce_M pme_M ane_M (.ref cda_M) cte_M cc_M), osle_M⟩)
    (ce_M : PySem.W.codeIn K (.ref cda_M) "BadMove.__init__" = true)
    (no_part_M : PySem.W.findIn K (.ref EM) "part" = some none)
    (su_M : PySem.W.ks_superIn K EM EM "__init__" = some (some (.builtin veInit)))
    (ve_M : PySem.W.subIn K (.ref EM) (.type "ValueError") = some true)
    (se_M : PySem.W.mroIn K EM (.ref EM) = some true)
    (cel_M : K.lookup cc_M = some ⟨cl_M, cld_M, .cell (some (.ref EM)), csl_M⟩)
    (cod_M : K.lookup cda_M = some ⟨ccl_M, cdd_M, .fields vs_M, ccs_M⟩)
    (v2_M : vs_M[2]? = some (.str file_M tf_M))
    (fl_M : ((l.prog.main.file : Str) == file_M) = true)
    (em_M : PySem.W.exmOne K (.ref EM) (.ref EM) = some true)
    (emOM : PySem.W.exmOne K (.ref EO) (.ref EM) = some false)
    (ay : PySem.W.nsIn K cStatics "thirdparty.any" = some none)
    (tp : (l.prog.main.scope.names.lookup ("super" : Str)).isSome = false)
    (cg : PySem.W.specialIn K (.builtin "object.__class__") "__get__" = some (some (.builtin "getset_descriptor.__get__")))
    (ct : PySem.W.takesIn K (.builtin "object.__class__") = some true)
    (a_isint : PySem.W.nsIn K mainGlobals "is_integer" = some (some (.ref f_isint)))
    (l_isint : K.lookup f_isint = some ⟨oc_isint, od_isint, .func (PySem.W.fnOf "is_integer" "is_integer" (defArgs sIsInt) (defBody sIsInt) (defScope sIsInt) .none kV_isint dc_isint pm_isint an_isint cd_isint ct_isint), sl_isint⟩)
    (c_isint : PySem.W.codeIn K cd_isint "is_integer" = true)
    (k_isint : PySem.W.keepIn K (.ref f_isint) = true)
    (a_fromto : PySem.W.nsIn K mainGlobals "is_from_to" = some (some (.ref f_fromto)))
    (l_fromto : K.lookup f_fromto = some ⟨oc_fromto, od_fromto, .func (PySem.W.fnOf "is_from_to" "is_from_to" (defArgs sFromTo) (defBody sFromTo) (defScope sFromTo) .none kV_fromto dc_fromto pm_fromto an_fromto cd_fromto ct_fromto), sl_fromto⟩)
    (c_fromto : PySem.W.codeIn K cd_fromto "is_from_to" = true)
    (k_fromto : PySem.W.keepIn K (.ref f_fromto) = true)
    (a_isletr : PySem.W.nsIn K mainGlobals "is_letter" = some (some (.ref f_isletr)))
    (l_isletr : K.lookup f_isletr = some ⟨oc_isletr, od_isletr, .func (PySem.W.fnOf "is_letter" "is_letter" (defArgs sIsLetter) (defBody sIsLetter) (defScope sIsLetter) .none kV_isletr dc_isletr pm_isletr an_isletr cd_isletr ct_isletr), sl_isletr⟩)
    (c_isletr : PySem.W.codeIn K cd_isletr "is_letter" = true)
    (k_isletr : PySem.W.keepIn K (.ref f_isletr) = true)
    (a_letrs : PySem.W.nsIn K mainGlobals "are_letters" = some (some (.ref f_letrs)))
    (l_letrs : K.lookup f_letrs = some ⟨oc_letrs, od_letrs, .func (PySem.W.fnOf "are_letters" "are_letters" (defArgs sAreLetters) (defBody sAreLetters) (defScope sAreLetters) .none kV_letrs dc_letrs pm_letrs an_letrs cd_letrs ct_letrs), sl_letrs⟩)
    (c_letrs : PySem.W.codeIn K cd_letrs "are_letters" = true)
    (k_letrs : PySem.W.keepIn K (.ref f_letrs) = true)
    (a_wrong : PySem.W.nsIn K mainGlobals "wrong_at" = some (some (.ref f_wrong)))
    (l_wrong : K.lookup f_wrong = some ⟨oc_wrong, od_wrong, .func (PySem.W.fnOf "wrong_at" "wrong_at" (defArgs sWrong) (defBody sWrong) (defScope sWrong) .none kV_wrong dc_wrong pm_wrong an_wrong cd_wrong ct_wrong), sl_wrong⟩)
    (c_wrong : PySem.W.codeIn K cd_wrong "wrong_at" = true)
    (k_wrong : PySem.W.keepIn K (.ref f_wrong) = true)
    (a_chk : PySem.W.nsIn K mainGlobals "check_row" = some (some (.ref f_chk)))
    (l_chk : K.lookup f_chk = some ⟨oc_chk, od_chk, .func (PySem.W.fnOf "check_row" "check_row" (defArgs sCheckRow) (defBody sCheckRow) (defScope sCheckRow) .none kV_chk dc_chk pm_chk an_chk cd_chk ct_chk), sl_chk⟩)
    (c_chk : PySem.W.codeIn K cd_chk "check_row" = true)
    (k_chk : PySem.W.keepIn K (.ref f_chk) = true)
    (a_weigh : PySem.W.nsIn K mainGlobals "weigh" = some (some (.ref f_weigh)))
    (l_weigh : K.lookup f_weigh = some ⟨oc_weigh, od_weigh, .func (PySem.W.fnOf "weigh" "weigh" (defArgs sWeigh) (defBody sWeigh) (defScope sWeigh) .none kV_weigh dc_weigh pm_weigh an_weigh cd_weigh ct_weigh), sl_weigh⟩)
    (c_weigh : PySem.W.codeIn K cd_weigh "weigh" = true)
    (k_weigh : PySem.W.keepIn K (.ref f_weigh) = true)
    (a_mfrom : PySem.W.nsIn K mainGlobals "moves_from" = some (some (.ref f_mfrom)))
    (l_mfrom : K.lookup f_mfrom = some ⟨oc_mfrom, od_mfrom, .func (PySem.W.fnOf "moves_from" "moves_from" (defArgs sMF) (defBody sMF) (defScope sMF) .none kV_mfrom dc_mfrom pm_mfrom an_mfrom cd_mfrom ct_mfrom), sl_mfrom⟩)
    (c_mfrom : PySem.W.codeIn K cd_mfrom "moves_from" = true)
    (k_mfrom : PySem.W.keepIn K (.ref f_mfrom) = true)
    (a_hasmv : PySem.W.nsIn K mainGlobals "has_move" = some (some (.ref f_hasmv)))
    (l_hasmv : K.lookup f_hasmv = some ⟨oc_hasmv, od_hasmv, .func (PySem.W.fnOf "has_move" "has_move" (defArgs sHasMove) (defBody sHasMove) (defScope sHasMove) .none kV_hasmv dc_hasmv pm_hasmv an_hasmv cd_hasmv ct_hasmv), sl_hasmv⟩)
    (c_hasmv : PySem.W.codeIn K cd_hasmv "has_move" = true)
    (k_hasmv : PySem.W.keepIn K (.ref f_hasmv) = true)
    (a_rowsb : PySem.W.nsIn K mainGlobals "rows_behind" = some (some (.ref f_rowsb)))
    (l_rowsb : K.lookup f_rowsb = some ⟨oc_rowsb, od_rowsb, .func (PySem.W.fnOf "rows_behind" "rows_behind" (defArgs sRB) (defBody sRB) (defScope sRB) .none kV_rowsb dc_rowsb pm_rowsb an_rowsb cd_rowsb ct_rowsb), sl_rowsb⟩)
    (c_rowsb : PySem.W.codeIn K cd_rowsb "rows_behind" = true)
    (k_rowsb : PySem.W.keepIn K (.ref f_rowsb) = true)
    (a_rowof : PySem.W.nsIn K mainGlobals "row_of_move" = some (some (.ref f_rowof)))
    (l_rowof : K.lookup f_rowof = some ⟨oc_rowof, od_rowof, .func (PySem.W.fnOf "row_of_move" "row_of_move" (defArgs sRowOf) (defBody sRowOf) (defScope sRowOf) .none kV_rowof dc_rowof pm_rowof an_rowof cd_rowof ct_rowof), sl_rowof⟩)
    (c_rowof : PySem.W.codeIn K cd_rowof "row_of_move" = true)
    (k_rowof : PySem.W.keepIn K (.ref f_rowof) = true)
    (a_hasfm : PySem.W.nsIn K mainGlobals "has_form_of_move" = some (some (.ref f_hasfm)))
    (l_hasfm : K.lookup f_hasfm = some ⟨oc_hasfm, od_hasfm, .func (PySem.W.fnOf "has_form_of_move" "has_form_of_move" (defArgs sHasForm) (defBody sHasForm) (defScope sHasForm) .none kV_hasfm dc_hasfm pm_hasfm an_hasfm cd_hasfm ct_hasfm), sl_hasfm⟩)
    (c_hasfm : PySem.W.codeIn K cd_hasfm "has_form_of_move" = true)
    (k_hasfm : PySem.W.keepIn K (.ref f_hasfm) = true)
    (a_rowbm : PySem.W.nsIn K mainGlobals "row_behind_move" = some (some (.ref f_rowbm)))
    (l_rowbm : K.lookup f_rowbm = some ⟨oc_rowbm, od_rowbm, .func (PySem.W.fnOf "row_behind_move" "row_behind_move" (defArgs sRowBM) (defBody sRowBM) (defScope sRowBM) .none kV_rowbm dc_rowbm pm_rowbm an_rowbm cd_rowbm ct_rowbm), sl_rowbm⟩)
    (c_rowbm : PySem.W.codeIn K cd_rowbm "row_behind_move" = true)
    (k_rowbm : PySem.W.keepIn K (.ref f_rowbm) = true)
    (a_ispair : PySem.W.nsIn K mainGlobals "is_pair" = some (some (.ref f_ispair)))
    (l_ispair : K.lookup f_ispair = some ⟨oc_ispair, od_ispair, .func (PySem.W.fnOf "is_pair" "is_pair" (defArgs sIsPair) (defBody sIsPair) (defScope sIsPair) .none kV_ispair dc_ispair pm_ispair an_ispair cd_ispair ct_ispair), sl_ispair⟩)
    (c_ispair : PySem.W.codeIn K cd_ispair "is_pair" = true)
    (k_ispair : PySem.W.keepIn K (.ref f_ispair) = true)
    (a_isrul : PySem.W.nsIn K mainGlobals "is_rule_of" = some (some (.ref f_isrul)))
    (l_isrul : K.lookup f_isrul = some ⟨oc_isrul, od_isrul, .func (PySem.W.fnOf "is_rule_of" "is_rule_of" (defArgs sIsRule) (defBody sIsRule) (defScope sIsRule) .none kV_isrul dc_isrul pm_isrul an_isrul cd_isrul ct_isrul), sl_isrul⟩)
    (c_isrul : PySem.W.codeIn K cd_isrul "is_rule_of" = true)
    (k_isrul : PySem.W.keepIn K (.ref f_isrul) = true)
    (a_pen : PySem.W.nsIn K mainGlobals "_law_pen" = some (some (.ref f_pen)))
    (l_pen : K.lookup f_pen = some ⟨oc_pen, od_pen, .func (PySem.W.fnOf "_law_pen" "_law_pen" (defArgs sPen) (defBody sPen) (defScope sPen) .none kV_pen dc_pen pm_pen an_pen cd_pen ct_pen), sl_pen⟩)
    (c_pen : PySem.W.codeIn K cd_pen "_law_pen" = true)
    (k_pen : PySem.W.keepIn K (.ref f_pen) = true)
    (a_draw : PySem.W.nsIn K mainGlobals "_law_draw" = some (some (.ref f_draw)))
    (l_draw : K.lookup f_draw = some ⟨oc_draw, od_draw, .func (PySem.W.fnOf "_law_draw" "_law_draw" (defArgs sDraw) (defBody sDraw) (defScope sDraw) .none kV_draw dc_draw pm_draw an_draw cd_draw ct_draw), sl_draw⟩)
    (c_draw : PySem.W.codeIn K cd_draw "_law_draw" = true)
    (k_draw : PySem.W.keepIn K (.ref f_draw) = true)
    (a_pick : PySem.W.nsIn K mainGlobals "_law_pick" = some (some (.ref f_pick)))
    (l_pick : K.lookup f_pick = some ⟨oc_pick, od_pick, .func (PySem.W.fnOf "_law_pick" "_law_pick" (defArgs sPick) (defBody sPick) (defScope sPick) .none kV_pick dc_pick pm_pick an_pick cd_pick ct_pick), sl_pick⟩)
    (c_pick : PySem.W.codeIn K cd_pick "_law_pick" = true)
    (k_pick : PySem.W.keepIn K (.ref f_pick) = true)
    (a_text : PySem.W.nsIn K mainGlobals "_law_text" = some (some (.ref f_text)))
    (l_text : K.lookup f_text = some ⟨oc_text, od_text, .func (PySem.W.fnOf "_law_text" "_law_text" (defArgs sText) (defBody sText) (defScope sText) .none kV_text dc_text pm_text an_text cd_text ct_text), sl_text⟩)
    (c_text : PySem.W.codeIn K cd_text "_law_text" = true)
    (k_text : PySem.W.keepIn K (.ref f_text) = true)
    (a_prs : PySem.W.nsIn K mainGlobals "_law_pairs" = some (some (.ref f_prs)))
    (l_prs : K.lookup f_prs = some ⟨oc_prs, od_prs, .func (PySem.W.fnOf "_law_pairs" "_law_pairs" (defArgs sPairs) (defBody sPairs) (defScope sPairs) .none kV_prs dc_prs pm_prs an_prs cd_prs ct_prs), sl_prs⟩)
    (c_prs : PySem.W.codeIn K cd_prs "_law_pairs" = true)
    (k_prs : PySem.W.keepIn K (.ref f_prs) = true)
    (a_wgt : PySem.W.nsIn K mainGlobals "_law_weight" = some (some (.ref f_wgt)))
    (l_wgt : K.lookup f_wgt = some ⟨oc_wgt, od_wgt, .func (PySem.W.fnOf "_law_weight" "_law_weight" (defArgs sWeight) (defBody sWeight) (defScope sWeight) .none kV_wgt dc_wgt pm_wgt an_wgt cd_wgt ct_wgt), sl_wgt⟩)
    (c_wgt : PySem.W.codeIn K cd_wgt "_law_weight" = true)
    (k_wgt : PySem.W.keepIn K (.ref f_wgt) = true)
    (a_rul : PySem.W.nsIn K mainGlobals "_law_rule" = some (some (.ref f_rul)))
    (l_rul : K.lookup f_rul = some ⟨oc_rul, od_rul, .func (PySem.W.fnOf "_law_rule" "_law_rule" (defArgs sRule) (defBody sRule) (defScope sRule) .none kV_rul dc_rul pm_rul an_rul cd_rul ct_rul), sl_rul⟩)
    (c_rul : PySem.W.codeIn K cd_rul "_law_rule" = true)
    (k_rul : PySem.W.keepIn K (.ref f_rul) = true)
    (a_ruls : PySem.W.nsIn K mainGlobals "_law_rules" = some (some (.ref f_ruls)))
    (l_ruls : K.lookup f_ruls = some ⟨oc_ruls, od_ruls, .func (PySem.W.fnOf "_law_rules" "_law_rules" (defArgs sRules) (defBody sRules) (defScope sRules) .none kV_ruls dc_ruls pm_ruls an_ruls cd_ruls ct_ruls), sl_ruls⟩)
    (c_ruls : PySem.W.codeIn K cd_ruls "_law_rules" = true)
    (k_ruls : PySem.W.keepIn K (.ref f_ruls) = true)
    (a_made : PySem.W.nsIn K mainGlobals "_law_made" = some (some (.ref f_made)))
    (l_made : K.lookup f_made = some ⟨oc_made, od_made, .func (PySem.W.fnOf "_law_made" "_law_made" (defArgs sMade) (defBody sMade) (defScope sMade) .none kV_made dc_made pm_made an_made cd_made ct_made), sl_made⟩)
    (c_made : PySem.W.codeIn K cd_made "_law_made" = true)
    (k_made : PySem.W.keepIn K (.ref f_made) = true)
    (a_book : PySem.W.nsIn K mainGlobals "_law_book" = some (some (.ref f_book)))
    (l_book : K.lookup f_book = some ⟨oc_book, od_book, .func (PySem.W.fnOf "_law_book" "_law_book" (defArgs sLBook) (defBody sLBook) (defScope sLBook) .none kV_book dc_book pm_book an_book cd_book ct_book), sl_book⟩)
    (c_book : PySem.W.codeIn K cd_book "_law_book" = true)
    (k_book : PySem.W.keepIn K (.ref f_book) = true)
    (a_fits : PySem.W.nsIn K mainGlobals "_law_fits" = some (some (.ref f_fits)))
    (l_fits : K.lookup f_fits = some ⟨oc_fits, od_fits, .func (PySem.W.fnOf "_law_fits" "_law_fits" (defArgs sLFits) (defBody sLFits) (defScope sLFits) .none kV_fits dc_fits pm_fits an_fits cd_fits ct_fits), sl_fits⟩)
    (c_fits : PySem.W.codeIn K cd_fits "_law_fits" = true)
    (k_fits : PySem.W.keepIn K (.ref f_fits) = true)
    (a_moves : PySem.W.nsIn K mainGlobals "_law_moves" = some (some (.ref f_moves)))
    (l_moves : K.lookup f_moves = some ⟨oc_moves, od_moves, .func (PySem.W.fnOf "_law_moves" "_law_moves" (defArgs sLMoves) (defBody sLMoves) (defScope sLMoves) .none kV_moves dc_moves pm_moves an_moves cd_moves ct_moves), sl_moves⟩)
    (c_moves : PySem.W.codeIn K cd_moves "_law_moves" = true)
    (k_moves : PySem.W.keepIn K (.ref f_moves) = true)
    (a_led : PySem.W.nsIn K mainGlobals "_law_led" = some (some (.ref f_led)))
    (l_led : K.lookup f_led = some ⟨oc_led, od_led, .func (PySem.W.fnOf "_law_led" "_law_led" (defArgs sLLed) (defBody sLLed) (defScope sLLed) .none kV_led dc_led pm_led an_led cd_led ct_led), sl_led⟩)
    (c_led : PySem.W.codeIn K cd_led "_law_led" = true)
    (k_led : PySem.W.keepIn K (.ref f_led) = true)
    (a_row : PySem.W.nsIn K mainGlobals "_law_row" = some (some (.ref f_row)))
    (l_row : K.lookup f_row = some ⟨oc_row, od_row, .func (PySem.W.fnOf "_law_row" "_law_row" (defArgs sLRow) (defBody sLRow) (defScope sLRow) .none kV_row dc_row pm_row an_row cd_row ct_row), sl_row⟩)
    (c_row : PySem.W.codeIn K cd_row "_law_row" = true)
    (k_row : PySem.W.keepIn K (.ref f_row) = true)
    (a_hrd : PySem.W.nsIn K mainGlobals "_law_heard" = some (some (.ref f_hrd)))
    (l_hrd : K.lookup f_hrd = some ⟨oc_hrd, od_hrd, .func (PySem.W.fnOf "_law_heard" "_law_heard" (defArgs sHeard) (defBody sHeard) (defScope sHeard) .none kV_hrd dc_hrd pm_hrd an_hrd cd_hrd ct_hrd), sl_hrd⟩)
    (c_hrd : PySem.W.codeIn K cd_hrd "_law_heard" = true)
    (k_hrd : PySem.W.keepIn K (.ref f_hrd) = true)
    (a_mdue : PySem.W.nsIn K mainGlobals "_law_move_due" = some (some (.ref f_mdue)))
    (l_mdue : K.lookup f_mdue = some ⟨oc_mdue, od_mdue, .func (PySem.W.fnOf "_law_move_due" "_law_move_due" (defArgs sMDue) (defBody sMDue) (defScope sMDue) .none kV_mdue dc_mdue pm_mdue an_mdue cd_mdue ct_mdue), sl_mdue⟩)
    (c_mdue : PySem.W.codeIn K cd_mdue "_law_move_due" = true)
    (k_mdue : PySem.W.keepIn K (.ref f_mdue) = true)
    (a_odd : PySem.W.nsIn K mainGlobals "_law_odd_moves" = some (some (.ref f_odd)))
    (l_odd : K.lookup f_odd = some ⟨oc_odd, od_odd, .func (PySem.W.fnOf "_law_odd_moves" "_law_odd_moves" (defArgs sOdd) (defBody sOdd) (defScope sOdd) .none kV_odd dc_odd pm_odd an_odd cd_odd ct_odd), sl_odd⟩)
    (c_odd : PySem.W.codeIn K cd_odd "_law_odd_moves" = true)
    (k_odd : PySem.W.keepIn K (.ref f_odd) = true)
    (a_right : PySem.W.nsIn K mainGlobals "_law_right" = some (some (.ref f_right)))
    (l_right : K.lookup f_right = some ⟨oc_right, od_right, .func (PySem.W.fnOf "_law_right" "_law_right" (defArgs sLRight) (defBody sLRight) (defScope sLRight) .none kV_right dc_right pm_right an_right (.ref cd_right) ct_right), sl_right⟩)
    (c_right : PySem.W.codeIn K (.ref cd_right) "_law_right" = true)
    (k_right : PySem.W.keepIn K (.ref f_right) = true)
    (lct_right : K.lookup cd_right = some ⟨oct_right, odt_right, .fields vst_right, slt_right⟩)
    (v11_right : vst_right[11]? = some (.ref tab_right))
    (hct_right : PySem.W.codeHdIn K cd_right tab_right = true)
    (ntb_right : K.lookup tab_right = none)
    (a_refd : PySem.W.nsIn K mainGlobals "_law_refused" = some (some (.ref f_refd)))
    (l_refd : K.lookup f_refd = some ⟨oc_refd, od_refd, .func (PySem.W.fnOf "_law_refused" "_law_refused" (defArgs sLRef) (defBody sLRef) (defScope sLRef) .none kV_refd dc_refd pm_refd an_refd (.ref cd_refd) ct_refd), sl_refd⟩)
    (c_refd : PySem.W.codeIn K (.ref cd_refd) "_law_refused" = true)
    (k_refd : PySem.W.keepIn K (.ref f_refd) = true)
    (lct_refd : K.lookup cd_refd = some ⟨oct_refd, odt_refd, .fields vst_refd, slt_refd⟩)
    (v11_refd : vst_refd[11]? = some (.ref tab_refd))
    (hct_refd : PySem.W.codeHdIn K cd_refd tab_refd = true)
    (ntb_refd : K.lookup tab_refd = none)
    (a_law : PySem.W.nsIn K mainGlobals "law" = some (some (.ref f_law)))
    (l_law : K.lookup f_law = some ⟨oc_law, od_law, .func (PySem.W.fnOf "law" "law" (defArgs sLaw) (defBody sLaw) (defScope sLaw) .none kV_law dc_law pm_law an_law cd_law ct_law), sl_law⟩)
    (c_law : PySem.W.codeIn K cd_law "law" = true)
    (k_law : PySem.W.keepIn K (.ref f_law) = true)
    (d_right_refd : tab_right ≠ tab_refd)
    (a_rinit : PySem.W.findIn K (.ref CR) "__init__" = some (some (.ref f_rinit)))
    (i_rinit : PySem.W.isFn K (.ref f_rinit) = true)
    (l_rinit : K.lookup f_rinit = some ⟨oc_rinit, od_rinit, .func (PySem.W.fnOf "__init__" "Rule.__init__" (defArgs sRInit) (defBody sRInit) (defScope sRInit) .none (.ref kd_rinit) dc_rinit pm_rinit an_rinit cd_rinit ct_rinit), sl_rinit⟩)
    (c_rinit : PySem.W.codeIn K cd_rinit "Rule.__init__" = true)
    (k_rinit : PySem.W.keepIn K (.ref f_rinit) = true)
    (kl_rinit : PySem.W.nsIn K kd_rinit "left" = some (some (.bool false)))
    (kr_rinit : PySem.W.nsIn K kd_rinit "right" = some (some (.bool false)))
    (a_winit : PySem.W.findIn K (.ref CW) "__init__" = some (some (.ref f_winit)))
    (i_winit : PySem.W.isFn K (.ref f_winit) = true)
    (l_winit : K.lookup f_winit = some ⟨oc_winit, od_winit, .func (PySem.W.fnOf "__init__" "Weights.__init__" (defArgs sWInit) (defBody sWInit) (defScope sWInit) .none kV_winit dc_winit pm_winit an_winit cd_winit ct_winit), sl_winit⟩)
    (c_winit : PySem.W.codeIn K cd_winit "Weights.__init__" = true)
    (k_winit : PySem.W.keepIn K (.ref f_winit) = true)
    (a_wof : PySem.W.findIn K (.ref CW) "of" = some (some (.ref p_wof)))
    (q_wof : PySem.W.recIn K p_wof "classmethod" = some (.ref f_wof :: r_wof))
    (fc_wof : PySem.W.findCls K (.ref CW) (.type "type") "of" = some (.get (.builtin "classmethod.__get__") (.ref p_wof) .none (.ref CW)))
    (fi_wof : PySem.W.fnIn K f_wof = true)
    (l_wof : K.lookup f_wof = some ⟨oc_wof, od_wof, .func (PySem.W.fnOf "of" "Weights.of" (defArgs sWOf) (defBody sWOf) (defScope sWOf) .none kV_wof dc_wof pm_wof an_wof cd_wof ct_wof), sl_wof⟩)
    (c_wof : PySem.W.codeIn K cd_wof "Weights.of" = true)
    (k_wof : PySem.W.keepIn K (.ref f_wof) = true)
    (a_wsig : PySem.W.findIn K (.ref CW) "signs" = some (some (.ref p_wsig)))
    (g_wsig : PySem.W.specialIn K (.ref p_wsig) "__get__" = some (some (.builtin "property.__get__")))
    (t_wsig : PySem.W.takesIn K (.ref p_wsig) = some true)
    (q_wsig : PySem.W.recIn K p_wsig "property" = some (.ref f_wsig :: r_wsig))
    (l_wsig : K.lookup f_wsig = some ⟨oc_wsig, od_wsig, .func (PySem.W.fnOf "signs" "Weights.signs" (defArgs sWSigns) (defBody sWSigns) (defScope sWSigns) .none kV_wsig dc_wsig pm_wsig an_wsig cd_wsig ct_wsig), sl_wsig⟩)
    (c_wsig : PySem.W.codeIn K cd_wsig "Weights.signs" = true)
    (k_wsig : PySem.W.keepIn K (.ref f_wsig) = true)
    (a_req : PySem.W.findIn K (.ref CR) "__eq__" = some (some (.ref f_req)))
    (i_req : PySem.W.isFn K (.ref f_req) = true)
    (l_req : K.lookup f_req = some ⟨oc_req, od_req, .func (PySem.W.fnOf "__eq__" "Rule.__eq__" (defArgs sREq) (defBody sREq) (defScope sREq) .none kV_req dc_req pm_req an_req cd_req ct_req), sl_req⟩)
    (c_req : PySem.W.codeIn K cd_req "Rule.__eq__" = true)
    (k_req : PySem.W.keepIn K (.ref f_req) = true)
    (a_rallp : PySem.W.findIn K (.ref CR) "all_places" = some (some (.ref f_rallp)))
    (i_rallp : PySem.W.isFn K (.ref f_rallp) = true)
    (l_rallp : K.lookup f_rallp = some ⟨oc_rallp, od_rallp, .func (PySem.W.fnOf "all_places" "Rule.all_places" (defArgs sAllP) (defBody sAllP) (defScope sAllP) .none kV_rallp dc_rallp pm_rallp an_rallp cd_rallp ct_rallp), sl_rallp⟩)
    (c_rallp : PySem.W.codeIn K cd_rallp "Rule.all_places" = true)
    (k_rallp : PySem.W.keepIn K (.ref f_rallp) = true)
    (a_rfirst : PySem.W.findIn K (.ref CR) "first_place" = some (some (.ref f_rfirst)))
    (i_rfirst : PySem.W.isFn K (.ref f_rfirst) = true)
    (l_rfirst : K.lookup f_rfirst = some ⟨oc_rfirst, od_rfirst, .func (PySem.W.fnOf "first_place" "Rule.first_place" (defArgs sFirstP) (defBody sFirstP) (defScope sFirstP) .none kV_rfirst dc_rfirst pm_rfirst an_rfirst cd_rfirst ct_rfirst), sl_rfirst⟩)
    (c_rfirst : PySem.W.codeIn K cd_rfirst "Rule.first_place" = true)
    (k_rfirst : PySem.W.keepIn K (.ref f_rfirst) = true)
    (a_rfits : PySem.W.findIn K (.ref CR) "fits" = some (some (.ref f_rfits)))
    (i_rfits : PySem.W.isFn K (.ref f_rfits) = true)
    (l_rfits : K.lookup f_rfits = some ⟨oc_rfits, od_rfits, .func (PySem.W.fnOf "fits" "Rule.fits" (defArgs sFits) (defBody sFits) (defScope sFits) .none kV_rfits dc_rfits pm_rfits an_rfits cd_rfits ct_rfits), sl_rfits⟩)
    (c_rfits : PySem.W.codeIn K cd_rfits "Rule.fits" = true)
    (k_rfits : PySem.W.keepIn K (.ref f_rfits) = true)
    (a_rcall : PySem.W.findIn K (.ref CR) "__call__" = some (some (.ref f_rcall)))
    (i_rcall : PySem.W.isFn K (.ref f_rcall) = true)
    (j_rcall : PySem.W.fnIn K f_rcall = true)
    (l_rcall : K.lookup f_rcall = some ⟨oc_rcall, od_rcall, .func (PySem.W.fnOf "__call__" "Rule.__call__" (defArgs sCall) (defBody sCall) (defScope sCall) .none kV_rcall dc_rcall pm_rcall an_rcall cd_rcall ct_rcall), sl_rcall⟩)
    (c_rcall : PySem.W.codeIn K cd_rcall "Rule.__call__" = true)
    (k_rcall : PySem.W.keepIn K (.ref f_rcall) = true)
    (a_binit : PySem.W.findIn K (.ref C) "__init__" = some (some (.ref f_binit)))
    (i_binit : PySem.W.isFn K (.ref f_binit) = true)
    (l_binit : K.lookup f_binit = some ⟨oc_binit, od_binit, .func (PySem.W.fnOf "__init__" "Book.__init__" (defArgs sBInit) (defBody sBInit) (defScope sBInit) .none kV_binit dc_binit pm_binit an_binit cd_binit ct_binit), sl_binit⟩)
    (c_binit : PySem.W.codeIn K cd_binit "Book.__init__" = true)
    (k_binit : PySem.W.keepIn K (.ref f_binit) = true)
    (a_bof : PySem.W.findIn K (.ref C) "of" = some (some (.ref p_bof)))
    (q_bof : PySem.W.recIn K p_bof "classmethod" = some (.ref f_bof :: r_bof))
    (fc_bof : PySem.W.findCls K (.ref C) (.type "type") "of" = some (.get (.builtin "classmethod.__get__") (.ref p_bof) .none (.ref C)))
    (fi_bof : PySem.W.fnIn K f_bof = true)
    (l_bof : K.lookup f_bof = some ⟨oc_bof, od_bof, .func (PySem.W.fnOf "of" "Book.of" (defArgs sBOf) (defBody sBOf) (defScope sBOf) .none kV_bof dc_bof pm_bof an_bof cd_bof ct_bof), sl_bof⟩)
    (c_bof : PySem.W.codeIn K cd_bof "Book.of" = true)
    (k_bof : PySem.W.keepIn K (.ref f_bof) = true)
    (a_bcall : PySem.W.findIn K (.ref C) "__call__" = some (some (.ref f_bcall)))
    (i_bcall : PySem.W.isFn K (.ref f_bcall) = true)
    (j_bcall : PySem.W.fnIn K f_bcall = true)
    (l_bcall : K.lookup f_bcall = some ⟨oc_bcall, od_bcall, .func (PySem.W.fnOf "__call__" "Book.__call__" (defArgs sBCall) (defBody sBCall) (defScope sBCall) .none kV_bcall dc_bcall pm_bcall an_bcall cd_bcall ct_bcall), sl_bcall⟩)
    (c_bcall : PySem.W.codeIn K cd_bcall "Book.__call__" = true)
    (k_bcall : PySem.W.keepIn K (.ref f_bcall) = true)
    (a_bfin : PySem.W.findIn K (.ref C) "finished" = some (some (.ref f_bfin)))
    (i_bfin : PySem.W.isFn K (.ref f_bfin) = true)
    (l_bfin : K.lookup f_bfin = some ⟨oc_bfin, od_bfin, .func (PySem.W.fnOf "finished" "Book.finished" (defArgs sBFin) (defBody sBFin) (defScope sBFin) .none kV_bfin dc_bfin pm_bfin an_bfin cd_bfin ct_bfin), sl_bfin⟩)
    (c_bfin : PySem.W.codeIn K cd_bfin "Book.finished" = true)
    (k_bfin : PySem.W.keepIn K (.ref f_bfin) = true)
    (a_bledto : PySem.W.findIn K (.ref C) "led_to" = some (some (.ref f_bledto)))
    (i_bledto : PySem.W.isFn K (.ref f_bledto) = true)
    (l_bledto : K.lookup f_bledto = some ⟨oc_bledto, od_bledto, .func (PySem.W.fnOf "led_to" "Book.led_to" (defArgs sBLedTo) (defBody sBLedTo) (defScope sBLedTo) .none kV_bledto dc_bledto pm_bledto an_bledto cd_bledto ct_bledto), sl_bledto⟩)
    (c_bledto : PySem.W.codeIn K cd_bledto "Book.led_to" = true)
    (k_bledto : PySem.W.keepIn K (.ref f_bledto) = true)
    (a_bled : PySem.W.findIn K (.ref C) "led" = some (some (.ref f_bled)))
    (i_bled : PySem.W.isFn K (.ref f_bled) = true)
    (l_bled : K.lookup f_bled = some ⟨oc_bled, od_bled, .func (PySem.W.fnOf "led" "Book.led" (defArgs sBLed) (defBody sBLed) (defScope sBLed) .none kV_bled dc_bled pm_bled an_bled cd_bled ct_bled), sl_bled⟩)
    (c_bled : PySem.W.codeIn K cd_bled "Book.led" = true)
    (k_bled : PySem.W.keepIn K (.ref f_bled) = true)
    (pg_W : PySem.W.plainGet K CW Str.empty = true)
    (hdi_W : PySem.W.hasDictIn K CW = true)
    (po_W : PySem.W.plainOver K CW = true)
    (sat_W : PySem.W.findIn K (.ref CW) "__setattr__" = some (some (.builtin "object.__setattr__")))
    (mk_W : PySem.W.makesIn K CW = true)
    (kc_W : PySem.W.keepIn K (.ref CW) = true)
    (ca_W : PySem.W.findIn K (.ref CW) "__class__" = some (some (.builtin "object.__class__")))
    (ob_W : PySem.W.mroIn K CW (.type "object") = some true)
    (n__signs_W : PySem.W.findIn K (.ref CW) "_signs" = some none)
    (n_pairs_W : PySem.W.findIn K (.ref CW) "pairs" = some none)
    (rd_W : PySem.W.readsIn K CW (.type "type") = true)
    (gt_W : PySem.W.specialIn K (.ref CW) "__getattribute__" = some (some (.builtin "type.__getattribute__")))
    (kk_W : PySem.W.kitOne K (.ref CW) (.ref CW) = some true)
    (pg_R : PySem.W.plainGet K CR Str.empty = true)
    (hdi_R : PySem.W.hasDictIn K CR = true)
    (po_R : PySem.W.plainOver K CR = true)
    (sat_R : PySem.W.findIn K (.ref CR) "__setattr__" = some (some (.builtin "object.__setattr__")))
    (mk_R : PySem.W.makesIn K CR = true)
    (kc_R : PySem.W.keepIn K (.ref CR) = true)
    (ca_R : PySem.W.findIn K (.ref CR) "__class__" = some (some (.builtin "object.__class__")))
    (ob_R : PySem.W.mroIn K CR (.type "object") = some true)
    (n_old_R : PySem.W.findIn K (.ref CR) "old" = some none)
    (n_new_R : PySem.W.findIn K (.ref CR) "new" = some none)
    (n_left_R : PySem.W.findIn K (.ref CR) "left" = some none)
    (n_right_R : PySem.W.findIn K (.ref CR) "right" = some none)
    (rd_R : PySem.W.readsIn K CR (.type "type") = true)
    (gt_R : PySem.W.specialIn K (.ref CR) "__getattribute__" = some (some (.builtin "type.__getattribute__")))
    (kk_R : PySem.W.kitOne K (.ref CR) (.ref CR) = some true)
    (pg_B : PySem.W.plainGet K C Str.empty = true)
    (hdi_B : PySem.W.hasDictIn K C = true)
    (po_B : PySem.W.plainOver K C = true)
    (sat_B : PySem.W.findIn K (.ref C) "__setattr__" = some (some (.builtin "object.__setattr__")))
    (mk_B : PySem.W.makesIn K C = true)
    (kc_B : PySem.W.keepIn K (.ref C) = true)
    (ca_B : PySem.W.findIn K (.ref C) "__class__" = some (some (.builtin "object.__class__")))
    (ob_B : PySem.W.mroIn K C (.type "object") = some true)
    (n_weights_B : PySem.W.findIn K (.ref C) "weights" = some none)
    (n_rules_B : PySem.W.findIn K (.ref C) "rules" = some none)
    (rd_B : PySem.W.readsIn K C (.type "type") = true)
    (gt_B : PySem.W.specialIn K (.ref C) "__getattribute__" = some (some (.builtin "type.__getattribute__")))
    (aMost : PySem.W.findIn K (.ref CR) "LONGEST" = some (some (.int 4 tM)))
    (fMost : PySem.W.findCls K (.ref CR) (.type "type") "LONGEST" = some (.val (.int 4 tM)))
    (aMostB : PySem.W.findIn K (.ref C) "MOST" = some (some (.int 8 tN)))
    (fMostB : PySem.W.findCls K (.ref C) (.type "type") "MOST" = some (.val (.int 8 tN)))
    (aL : PySem.W.nsIn K mainGlobals "LETTERS" = some (some (.str "abcdefghijklmnopqrstuvwxyz" tk)))
    (z_len : PySem.W.nsIn K mainGlobals "len" = some none)
    (z_int : PySem.W.nsIn K mainGlobals "int" = some none)
    (z_abs : PySem.W.nsIn K mainGlobals "abs" = some none)
    (z_list : PySem.W.nsIn K mainGlobals "list" = some none)
    (z_tuple : PySem.W.nsIn K mainGlobals "tuple" = some none)
    (z_range : PySem.W.nsIn K mainGlobals "range" = some none)
    (z_repr : PySem.W.nsIn K mainGlobals "repr" = some none)
    (z_isinstance : PySem.W.nsIn K mainGlobals "isinstance" = some none)
    (z_all : PySem.W.nsIn K mainGlobals "all" = some none)
    (z_set : PySem.W.nsIn K mainGlobals "set" = some none)
    (z_bool : PySem.W.nsIn K mainGlobals "bool" = some none)
    (z_str : PySem.W.nsIn K mainGlobals "str" = some none)
    (z_super : PySem.W.nsIn K mainGlobals "super" = some none)
    (z_enumerate : PySem.W.nsIn K mainGlobals "enumerate" = some none)
    (z_dict : PySem.W.nsIn K mainGlobals "dict" = some none)
    (z_sum : PySem.W.nsIn K mainGlobals "sum" = some none)
    (z_sorted : PySem.W.nsIn K mainGlobals "sorted" = some none)
    : ∃ (fd : FuncData) (cs : List (Addr × Addr)), (∀ p ∈ cs, h.get? p.2 = some (PySem.W.tabObj #[]) ∧ K.lookup p.2 = none ∧ PySem.W.CodeHd h p.1 p.2) ∧ (∀ (s : Shared) (v : Value), BindsTo s fd ⟨[v], []⟩ [("_law_script", v)]) ∧
      ∀ base : Heap, K.In base → base.Ns mainGlobals mg → (∀ p ∈ cs, TabB base mg p.1 p.2) → FnG l.prog w K mg base CX0 12 fa fd ["_law_script"] (spLaw K (tabsOf N3 cs)) := by
  have e := hfa.symm.trans (PySem.W.mg_of X G a_law)
  cases e
  have T : Txt mg := ⟨PySem.W.mg_none_of X G z_len, PySem.W.mg_none_of X G z_int, PySem.W.mg_none_of X G z_abs, PySem.W.mg_none_of X G z_list, PySem.W.mg_none_of X G z_tuple, PySem.W.mg_none_of X G z_range, PySem.W.mg_none_of X G z_repr, PySem.W.mg_none_of X G z_isinstance, PySem.W.mg_none_of X G z_all, PySem.W.mg_none_of X G z_set⟩
  have zB := PySem.W.mg_none_of X G z_bool
  have zS := PySem.W.mg_none_of X G z_str
  have zP := PySem.W.mg_none_of X G z_super
  have zE := PySem.W.mg_none_of X G z_enumerate
  have zD := PySem.W.mg_none_of X G z_dict
  have zM := PySem.W.mg_none_of X G z_sum
  have zQ := PySem.W.mg_none_of X G z_sorted
  have mL : mg "LETTERS" = some (.str abc tk) := PySem.W.mg_of X G aL
  have g_CW := PySem.W.mg_of X G a_CW
  have cl_CW : Cls K CW := ⟨pg_W, hdi_W, po_W, sat_W⟩
  have I_CW : InsT K CW := ⟨cl_CW, ca_W, cg, ct, ob_W⟩
  have rdd_CW : ClX.CRead K CW (.type "type") := ⟨rd_W, gt_W⟩
  have g_CR := PySem.W.mg_of X G a_CR
  have cl_CR : Cls K CR := ⟨pg_R, hdi_R, po_R, sat_R⟩
  have I_CR : InsT K CR := ⟨cl_CR, ca_R, cg, ct, ob_R⟩
  have rdd_CR : ClX.CRead K CR (.type "type") := ⟨rd_R, gt_R⟩
  have g_C := PySem.W.mg_of X G a_C
  have cl_C : Cls K C := ⟨pg_B, hdi_B, po_B, sat_B⟩
  have I_C : InsT K C := ⟨cl_C, ca_B, cg, ct, ob_B⟩
  have rdd_C : ClX.CRead K C (.type "type") := ⟨rd_B, gt_B⟩
  have MW : WT K CW := ⟨cl_CW, n__signs_W, n_pairs_W⟩
  have MR : RT K mg CR := ⟨cl_CR, n_old_R, n_new_R, n_left_R, n_right_R, g_CR, _, _, rdd_CR, ⟨fMost, ⟨_, rfl⟩⟩⟩
  have MB : BT K C := ⟨cl_C, n_weights_B, n_rules_B, rdd_C, _, ⟨fMostB, ⟨_, rfl⟩⟩⟩
  have O_S : OexC K ES := ⟨⟨_, _, _, _, _, _, _, _, _, _, _, _, _, _, _, xL_S, rv_S⟩, sa_S, ex_S, ty_S, kC_S⟩
  have R_S : ErrC l.prog K ES fe_S cc_S cda_S := ⟨⟨_, _, _, _, _, _, _, _, _, _, _, _, _, _, _, xL_S, rv_S⟩, su_S, ay, ve_S, se_S, ⟨_, _, _, cel_S⟩, ⟨_, _, _, _, _, _, cod_S, v2_S, fl_S⟩, tp⟩
  have O_O : OexC K EO := ⟨⟨_, _, _, _, _, _, _, _, _, _, _, _, _, _, _, xL_O, rv_O⟩, sa_O, ex_O, ty_O, kC_O⟩
  have R_O : ErrC l.prog K EO fe_O cc_O cda_O := ⟨⟨_, _, _, _, _, _, _, _, _, _, _, _, _, _, _, xL_O, rv_O⟩, su_O, ay, ve_O, se_O, ⟨_, _, _, cel_O⟩, ⟨_, _, _, _, _, _, cod_O, v2_O, fl_O⟩, tp⟩
  have Hp_O : HearP K mg "BadRow" "at" EO := ⟨PySem.W.mg_of X G aEO, ⟨ga_O, gg_O, ex_O, hdc_O⟩, em_O, no_at_O⟩
  have O_Q : OexC K EQ := ⟨⟨_, _, _, _, _, _, _, _, _, _, _, _, _, _, _, xL_Q, rv_Q⟩, sa_Q, ex_Q, ty_Q, kC_Q⟩
  have R_Q : ErrC l.prog K EQ fe_Q cc_Q cda_Q := ⟨⟨_, _, _, _, _, _, _, _, _, _, _, _, _, _, _, xL_Q, rv_Q⟩, su_Q, ay, ve_Q, se_Q, ⟨_, _, _, cel_Q⟩, ⟨_, _, _, _, _, _, cod_Q, v2_Q, fl_Q⟩, tp⟩
  have O_B : OexC K EB := ⟨⟨_, _, _, _, _, _, _, _, _, _, _, _, _, _, _, xL_B, rv_B⟩, sa_B, ex_B, ty_B, kC_B⟩
  have R_B : ErrC l.prog K EB fe_B cc_B cda_B := ⟨⟨_, _, _, _, _, _, _, _, _, _, _, _, _, _, _, xL_B, rv_B⟩, su_B, ay, ve_B, se_B, ⟨_, _, _, cel_B⟩, ⟨_, _, _, _, _, _, cod_B, v2_B, fl_B⟩, tp⟩
  have O_H : OexC K EH := ⟨⟨_, _, _, _, _, _, _, _, _, _, _, _, _, _, _, xL_H, rv_H⟩, sa_H, ex_H, ty_H, kC_H⟩
  have R_H : ErrC l.prog K EH fe_H cc_H cda_H := ⟨⟨_, _, _, _, _, _, _, _, _, _, _, _, _, _, _, xL_H, rv_H⟩, su_H, ay, ve_H, se_H, ⟨_, _, _, cel_H⟩, ⟨_, _, _, _, _, _, cod_H, v2_H, fl_H⟩, tp⟩
  have O_U : OexC K EU := ⟨⟨_, _, _, _, _, _, _, _, _, _, _, _, _, _, _, xL_U, rv_U⟩, sa_U, ex_U, ty_U, kC_U⟩
  have R_U : ErrC l.prog K EU fe_U cc_U cda_U := ⟨⟨_, _, _, _, _, _, _, _, _, _, _, _, _, _, _, xL_U, rv_U⟩, su_U, ay, ve_U, se_U, ⟨_, _, _, cel_U⟩, ⟨_, _, _, _, _, _, cod_U, v2_U, fl_U⟩, tp⟩
  have O_M : OexC K EM := ⟨⟨_, _, _, _, _, _, _, _, _, _, _, _, _, _, _, xL_M, rv_M⟩, sa_M, ex_M, ty_M, kC_M⟩
  have R_M : ErrC l.prog K EM fe_M cc_M cda_M := ⟨⟨_, _, _, _, _, _, _, _, _, _, _, _, _, _, _, xL_M, rv_M⟩, su_M, ay, ve_M, se_M, ⟨_, _, _, cel_M⟩, ⟨_, _, _, _, _, _, cod_M, v2_M, fl_M⟩, tp⟩
  have Hp_M : HearP K mg "BadMove" "part" EM := ⟨PySem.W.mg_of X G aEM, ⟨ga_M, gg_M, ex_M, hdc_M⟩, em_M, no_part_M⟩
  have F_isint := fun_mk (st := sIsInt) l_isint c_isint k_isint
  have b_isint := F_isint.binds (ps := ["value"]) fun _ _ _ _ _ _ us hl => match us, hl with | [_], _ => rfl
  have F_fromto := fun_mk (st := sFromTo) l_fromto c_fromto k_fromto
  have b_fromto := F_fromto.binds (ps := ["value", "low", "high"]) fun _ _ _ _ _ _ us hl => match us, hl with | [_, _, _], _ => rfl
  have F_isletr := fun_mk (st := sIsLetter) l_isletr c_isletr k_isletr
  have b_isletr := F_isletr.binds (ps := ["value"]) fun _ _ _ _ _ _ us hl => match us, hl with | [_], _ => rfl
  have F_letrs := fun_mk (st := sAreLetters) l_letrs c_letrs k_letrs
  have b_letrs := F_letrs.binds (ps := ["value", "least", "most"]) fun _ _ _ _ _ _ us hl => match us, hl with | [_, _, _], _ => rfl
  have F_wrong := fun_mk (st := sWrong) l_wrong c_wrong k_wrong
  have b_wrong := F_wrong.binds (ps := ["signs", "value"]) fun _ _ _ _ _ _ us hl => match us, hl with | [_, _], _ => rfl
  have F_chk := fun_mk (st := sCheckRow) l_chk c_chk k_chk
  have b_chk := F_chk.binds (ps := ["signs", "value"]) fun _ _ _ _ _ _ us hl => match us, hl with | [_, _], _ => rfl
  have F_weigh := fun_mk (st := sWeigh) l_weigh c_weigh k_weigh
  have b_weigh := F_weigh.binds (ps := ["pairs", "row"]) fun _ _ _ _ _ _ us hl => match us, hl with | [_, _], _ => rfl
  have F_mfrom := fun_mk (st := sMF) l_mfrom c_mfrom k_mfrom
  have b_mfrom := F_mfrom.binds (ps := ["rules", "row"]) fun _ _ _ _ _ _ us hl => match us, hl with | [_, _], _ => rfl
  have F_hasmv := fun_mk (st := sHasMove) l_hasmv c_hasmv k_hasmv
  have b_hasmv := F_hasmv.binds (ps := ["rules", "row"]) fun _ _ _ _ _ _ us hl => match us, hl with | [_, _], _ => rfl
  have F_rowsb := fun_mk (st := sRB) l_rowsb c_rowsb k_rowsb
  have b_rowsb := F_rowsb.binds (ps := ["rules", "row"]) fun _ _ _ _ _ _ us hl => match us, hl with | [_, _], _ => rfl
  have F_rowof := fun_mk (st := sRowOf) l_rowof c_rowof k_rowof
  have b_rowof := F_rowof.binds (ps := ["rules", "row", "move"]) fun _ _ _ _ _ _ us hl => match us, hl with | [_, _, _], _ => rfl
  have F_hasfm := fun_mk (st := sHasForm) l_hasfm c_hasfm k_hasfm
  have b_hasfm := F_hasfm.binds (ps := ["value"]) fun _ _ _ _ _ _ us hl => match us, hl with | [_], _ => rfl
  have F_rowbm := fun_mk (st := sRowBM) l_rowbm c_rowbm k_rowbm
  have b_rowbm := F_rowbm.binds (ps := ["rules", "row", "move"]) fun _ _ _ _ _ _ us hl => match us, hl with | [_, _, _], _ => rfl
  have F_ispair := fun_mk (st := sIsPair) l_ispair c_ispair k_ispair
  have b_ispair := F_ispair.binds (ps := ["value"]) fun _ _ _ _ _ _ us hl => match us, hl with | [_], _ => rfl
  have F_isrul := fun_mk (st := sIsRule) l_isrul c_isrul k_isrul
  have b_isrul := F_isrul.binds (ps := ["weights", "value"]) fun _ _ _ _ _ _ us hl => match us, hl with | [_, _], _ => rfl
  have F_pen := fun_mk (st := sPen) l_pen c_pen k_pen
  have b_pen := F_pen.binds (ps := ["_law_script"]) fun _ _ _ _ _ _ us hl => match us, hl with | [_], _ => rfl
  have F_draw := fun_mk (st := sDraw) l_draw c_draw k_draw
  have b_draw := F_draw.binds (ps := ["_law_pen_here", "_law_many"]) fun _ _ _ _ _ _ us hl => match us, hl with | [_, _], _ => rfl
  have F_pick := fun_mk (st := sPick) l_pick c_pick k_pick
  have b_pick := F_pick.binds (ps := ["_law_pen_here", "_law_things"]) fun _ _ _ _ _ _ us hl => match us, hl with | [_, _], _ => rfl
  have F_text := fun_mk (st := sText) l_text c_text k_text
  have b_text := F_text.binds (ps := ["_law_pen_here", "_law_signs", "_law_many"]) fun _ _ _ _ _ _ us hl => match us, hl with | [_, _, _], _ => rfl
  have F_prs := fun_mk (st := sPairs) l_prs c_prs k_prs
  have b_prs := F_prs.binds (ps := ["_law_pen_here"]) fun _ _ _ _ _ _ us hl => match us, hl with | [_], _ => rfl
  have F_wgt := fun_mk (st := sWeight) l_wgt c_wgt k_wgt
  have b_wgt := F_wgt.binds (ps := ["_law_pairs_here", "_law_there"]) fun _ _ _ _ _ _ us hl => match us, hl with | [_, _], _ => rfl
  have F_rul := fun_mk (st := sRule) l_rul c_rul k_rul
  have b_rul := F_rul.binds (ps := ["_law_pen_here", "_law_pairs_here"]) fun _ _ _ _ _ _ us hl => match us, hl with | [_, _], _ => rfl
  have F_ruls := fun_mk (st := sRules) l_ruls c_ruls k_ruls
  have b_ruls := F_ruls.binds (ps := ["_law_pen_here", "_law_pairs_here", "_law_cap"]) fun _ _ _ _ _ _ us hl => match us, hl with | [_, _, _], _ => rfl
  have F_made := fun_mk (st := sMade) l_made c_made k_made
  have b_made := F_made.binds (ps := ["_law_rule_here"]) fun _ _ _ _ _ _ us hl => match us, hl with | [_], _ => rfl
  have F_book := fun_mk (st := sLBook) l_book c_book k_book
  have b_book := F_book.binds (ps := ["_law_pairs_here", "_law_rules_here"]) fun _ _ _ _ _ _ us hl => match us, hl with | [_, _], _ => rfl
  have F_fits := fun_mk (st := sLFits) l_fits c_fits k_fits
  have b_fits := F_fits.binds (ps := ["_law_rule_here", "_law_there", "_law_place"]) fun _ _ _ _ _ _ us hl => match us, hl with | [_, _, _], _ => rfl
  have F_moves := fun_mk (st := sLMoves) l_moves c_moves k_moves
  have b_moves := F_moves.binds (ps := ["_law_rules_here", "_law_there"]) fun _ _ _ _ _ _ us hl => match us, hl with | [_, _], _ => rfl
  have F_led := fun_mk (st := sLLed) l_led c_led k_led
  have b_led := F_led.binds (ps := ["_law_rules_here", "_law_there", "_law_deed"]) fun _ _ _ _ _ _ us hl => match us, hl with | [_, _, _], _ => rfl
  have F_row := fun_mk (st := sLRow) l_row c_row k_row
  have b_row := F_row.binds (ps := ["_law_pen_here", "_law_signs", "_law_rules_here"]) fun _ _ _ _ _ _ us hl => match us, hl with | [_, _, _], _ => rfl
  have F_hrd := fun_mk (st := sHeard) l_hrd c_hrd k_hrd
  have b_hrd := F_hrd.binds (ps := ["_law_asking"]) fun _ _ _ _ _ _ us hl => match us, hl with | [_], _ => rfl
  have F_mdue := fun_mk (st := sMDue) l_mdue c_mdue k_mdue
  have b_mdue := F_mdue.binds (ps := ["_law_rules_here", "_law_there", "_law_deed"]) fun _ _ _ _ _ _ us hl => match us, hl with | [_, _, _], _ => rfl
  have F_odd := fun_mk (st := sOdd) l_odd c_odd k_odd
  have b_odd := F_odd.binds (ps := ["_law_pen_here", "_law_there"]) fun _ _ _ _ _ _ us hl => match us, hl with | [_, _], _ => rfl
  have F_right := fun_mk (st := sLRight) l_right c_right k_right
  have b_right := F_right.binds (ps := ["_law_pen_here", "_law_book_here", "_law_pairs_here", "_law_rules_here", "_law_there"]) fun _ _ _ _ _ _ us hl => match us, hl with | [_, _, _, _, _], _ => rfl
  have F_refd := fun_mk (st := sLRef) l_refd c_refd k_refd
  have b_refd := F_refd.binds (ps := ["_law_pen_here", "_law_book_here", "_law_signs", "_law_there"]) fun _ _ _ _ _ _ us hl => match us, hl with | [_, _, _, _], _ => rfl
  have F_law := fun_mk (st := sLaw) l_law c_law k_law
  have b_law := F_law.binds (ps := ["_law_script"]) fun _ _ _ _ _ _ us hl => match us, hl with | [_], _ => rfl
  have F_winit := fun_mk (st := sWInit) l_winit c_winit k_winit
  have F_wof := fun_mk (st := sWOf) l_wof c_wof k_wof
  have b_wof := F_wof.binds (ps := ["cls", "pairs"]) fun _ _ _ _ _ _ us hl => match us, hl with | [_, _], _ => rfl
  have F_wsig := fun_mk (st := sWSigns) l_wsig c_wsig k_wsig
  have b_wsig := F_wsig.binds (ps := ["self"]) fun _ _ _ _ _ _ us hl => match us, hl with | [_], _ => rfl
  have F_req := fun_mk (st := sREq) l_req c_req k_req
  have b_req := F_req.binds (ps := ["self", "other"]) fun _ _ _ _ _ _ us hl => match us, hl with | [_, _], _ => rfl
  have F_rallp := fun_mk (st := sAllP) l_rallp c_rallp k_rallp
  have b_rallp := F_rallp.binds (ps := ["self", "row"]) fun _ _ _ _ _ _ us hl => match us, hl with | [_, _], _ => rfl
  have F_rfirst := fun_mk (st := sFirstP) l_rfirst c_rfirst k_rfirst
  have b_rfirst := F_rfirst.binds (ps := ["self", "row"]) fun _ _ _ _ _ _ us hl => match us, hl with | [_, _], _ => rfl
  have F_rfits := fun_mk (st := sFits) l_rfits c_rfits k_rfits
  have b_rfits := F_rfits.binds (ps := ["self", "row", "place"]) fun _ _ _ _ _ _ us hl => match us, hl with | [_, _, _], _ => rfl
  have F_rcall := fun_mk (st := sCall) l_rcall c_rcall k_rcall
  have b_rcall := F_rcall.binds (ps := ["self", "row", "place"]) fun _ _ _ _ _ _ us hl => match us, hl with | [_, _, _], _ => rfl
  have F_binit := fun_mk (st := sBInit) l_binit c_binit k_binit
  have F_bof := fun_mk (st := sBOf) l_bof c_bof k_bof
  have b_bof := F_bof.binds (ps := ["cls", "weights", "rules"]) fun _ _ _ _ _ _ us hl => match us, hl with | [_, _, _], _ => rfl
  have F_bcall := fun_mk (st := sBCall) l_bcall c_bcall k_bcall
  have b_bcall := F_bcall.binds (ps := ["self", "row"]) fun _ _ _ _ _ _ us hl => match us, hl with | [_, _], _ => rfl
  have F_bfin := fun_mk (st := sBFin) l_bfin c_bfin k_bfin
  have b_bfin := F_bfin.binds (ps := ["self", "row"]) fun _ _ _ _ _ _ us hl => match us, hl with | [_, _], _ => rfl
  have F_bledto := fun_mk (st := sBLedTo) l_bledto c_bledto k_bledto
  have b_bledto := F_bledto.binds (ps := ["self", "row"]) fun _ _ _ _ _ _ us hl => match us, hl with | [_, _], _ => rfl
  have F_bled := fun_mk (st := sBLed) l_bled c_bled k_bled
  have b_bled := F_bled.binds (ps := ["self", "row", "move"]) fun _ _ _ _ _ _ us hl => match us, hl with | [_, _, _], _ => rfl
  have m_isint := PySem.W.mg_of X G a_isint
  have m_fromto := PySem.W.mg_of X G a_fromto
  have m_isletr := PySem.W.mg_of X G a_isletr
  have m_letrs := PySem.W.mg_of X G a_letrs
  have m_wrong := PySem.W.mg_of X G a_wrong
  have m_chk := PySem.W.mg_of X G a_chk
  have m_weigh := PySem.W.mg_of X G a_weigh
  have m_mfrom := PySem.W.mg_of X G a_mfrom
  have m_hasmv := PySem.W.mg_of X G a_hasmv
  have m_rowsb := PySem.W.mg_of X G a_rowsb
  have m_rowof := PySem.W.mg_of X G a_rowof
  have m_hasfm := PySem.W.mg_of X G a_hasfm
  have m_rowbm := PySem.W.mg_of X G a_rowbm
  have m_ispair := PySem.W.mg_of X G a_ispair
  have m_isrul := PySem.W.mg_of X G a_isrul
  have m_pen := PySem.W.mg_of X G a_pen
  have m_draw := PySem.W.mg_of X G a_draw
  have m_pick := PySem.W.mg_of X G a_pick
  have m_text := PySem.W.mg_of X G a_text
  have m_prs := PySem.W.mg_of X G a_prs
  have m_wgt := PySem.W.mg_of X G a_wgt
  have m_rul := PySem.W.mg_of X G a_rul
  have m_ruls := PySem.W.mg_of X G a_ruls
  have m_made := PySem.W.mg_of X G a_made
  have m_book := PySem.W.mg_of X G a_book
  have m_fits := PySem.W.mg_of X G a_fits
  have m_moves := PySem.W.mg_of X G a_moves
  have m_led := PySem.W.mg_of X G a_led
  have m_row := PySem.W.mg_of X G a_row
  have m_hrd := PySem.W.mg_of X G a_hrd
  have m_mdue := PySem.W.mg_of X G a_mdue
  have m_odd := PySem.W.mg_of X G a_odd
  have m_right := PySem.W.mg_of X G a_right
  have m_refd := PySem.W.mg_of X G a_refd
  have m_law := PySem.W.mg_of X G a_law
  have F_rinit : FunD K "__init__" "Rule.__init__" (defArgs sRInit) (defBody sRInit) (defScope sRInit) [] [("left", .bl false), ("right", .bl false)] f_rinit (PySem.W.fnOf "__init__" "Rule.__init__" (defArgs sRInit) (defBody sRInit) (defScope sRInit) .none (.ref kd_rinit) dc_rinit pm_rinit an_rinit cd_rinit ct_rinit) := ⟨⟨_, _, _, _, _, _, _, _, _, _, rfl, l_rinit, c_rinit, .inl ⟨rfl, rfl⟩, .inr ⟨kd_rinit, rfl, fun q hq => by
    rcases List.mem_cons.mp hq with rfl | hq
    · exact ⟨_, kl_rinit, rfl⟩
    · rcases List.mem_cons.mp hq with rfl | hq
      · exact ⟨_, kr_rinit, rfl⟩
      · cases hq⟩⟩, k_rinit⟩
  obtain ⟨_, kbR⟩ := F_rinit.kbinds0 (ps := nInit) 3 ["left", "right"] [] (fun us _ ws => us ++ ws) (by simp) (fun q hq => nomatch hq) (fun r1 _ r3 => vapp r1 r3) (fun D doc pm an cdv ct us mv ws h1 h2 h3 => match us, mv, ws, h1, h2, h3 with
    | [_, _, _], [], [_, _], _, _, _ => rfl)
  have kbD : KBn K _ ["self", "row", "move"] 1 ["row", "move"] (fun us ws => us ++ ws) (fun us ws => us ++ ws) := kbMk F_bled (fun _ _ _ _ _ _ us ws l1 l2 => match us, ws, l1, l2 with | [_], [_, _], _, _ => rfl) fun a b => vapp a b
  have cmW : ClX.CMet K CW (.type "type") "of" p_wof f_wof := ⟨fc_wof, ⟨_, q_wof⟩, fi_wof⟩
  have cmB : ClX.CMet K C (.type "type") "of" p_bof f_bof := ⟨fc_bof, ⟨_, q_bof⟩, fi_bof⟩
  refine ⟨PySem.W.fnOf "law" "law" (defArgs sLaw) (defBody sLaw) (defScope sLaw) .none kV_law dc_law pm_law an_law cd_law ct_law, [(cd_right, tab_right), (cd_refd, tab_refd)], fun p hp => ?_, fun s v => .of_eq rfl, fun base _ _ TB => ?_⟩
  · simp only [List.mem_cons, List.not_mem_nil, or_false] at hp
    rcases hp with rfl | rfl
    · exact ⟨own _ (by decide) _ m_right _ _ _ _ _ _ _ _ l_right rfl rfl lct_right v11_right, ntb_right, PySem.W.codeHd_of_K X hct_right⟩
    · exact ⟨own _ (by decide) _ m_refd _ _ _ _ _ _ _ _ l_refd rfl rfl lct_refd v11_refd, ntb_refd, PySem.W.codeHd_of_K X hct_refd⟩
  have tbR := TB (cd_right, tab_right) (by simp)
  have tbF := TB (cd_refd, tab_refd) (by simp)
  show FnG _ _ _ _ _ _ _ _ _ _ (spLaw K [(tab_right, lamQ "_law_right"), (tab_refd, lamQ "_law_refused")])
  have B_S : ErrB l.prog w K mg base "BadSigns" "part" ES := ⟨O_S, PySem.W.mg_of X G aES, _, _, ["self", "part"], ini_S, ti_S, ok_initS R_S O_S no_part_S le_S ce_S zP, L2.Binds.all fun us hl => match us, hl with | [_, _], _ => rfl⟩
  have B_O : ErrB l.prog w K mg base "BadRow" "at" EO := ⟨O_O, PySem.W.mg_of X G aEO, _, _, ["self", "at"], ini_O, ti_O, ok_initO R_O O_O no_at_O le_O ce_O zP, L2.Binds.all fun us hl => match us, hl with | [_, _], _ => rfl⟩
  have B_Q : ErrB l.prog w K mg base "BadRule" "part" EQ := ⟨O_Q, PySem.W.mg_of X G aEQ, _, _, ["self", "part"], ini_Q, ti_Q, ok_initQ R_Q O_Q no_part_Q le_Q ce_Q zP, L2.Binds.all fun us hl => match us, hl with | [_, _], _ => rfl⟩
  have B_B : ErrB l.prog w K mg base "BadBook" "at" EB := ⟨O_B, PySem.W.mg_of X G aEB, _, _, ["self", "at"], ini_B, ti_B, ok_initB R_B O_B no_at_B le_B ce_B zP, L2.Binds.all fun us hl => match us, hl with | [_, _], _ => rfl⟩
  have B_H : ErrB l.prog w K mg base "Heavier" "at" EH := ⟨O_H, PySem.W.mg_of X G aEH, _, _, ["self", "at"], ini_H, ti_H, ok_initH R_H O_H no_at_H le_H ce_H zP, L2.Binds.all fun us hl => match us, hl with | [_, _], _ => rfl⟩
  have B_U : ErrB2 l.prog w K mg base "Unlessened" "old" "new" EU := ⟨O_U, PySem.W.mg_of X G aEU, _, _, ["self", "old", "new"], ini_U, ti_U, ok_initU R_U O_U no_old_U no_new_U le_U ce_U zP, L2.Binds.all fun us hl => match us, hl with | [_, _, _], _ => rfl⟩
  have B_M : ErrB l.prog w K mg base "BadMove" "part" EM := ⟨O_M, PySem.W.mg_of X G aEM, _, _, ["self", "part"], ini_M, ti_M, ok_initM R_M O_M no_part_M le_M ce_M zP, L2.Binds.all fun us hl => match us, hl with | [_, _], _ => rfl⟩
  have mkW : Mk K CW f_winit := ⟨mk_W, a_winit, i_winit, kc_W⟩
  have mkR : Mk K CR f_rinit := ⟨mk_R, a_rinit, i_rinit, kc_R⟩
  have mkB : Mk K C f_binit := ⟨mk_B, a_binit, i_binit, kc_B⟩
  have poW : PropOf K CW "signs" p_wsig f_wsig := ⟨a_wsig, g_wsig, t_wsig, _, q_wsig⟩
  have mallp : Meth K CR "all_places" f_rallp := ⟨a_rallp, i_rallp, k_rallp⟩
  have mfirst : Meth K CR "first_place" f_rfirst := ⟨a_rfirst, i_rfirst, k_rfirst⟩
  have mrfits : Meth K CR "fits" f_rfits := ⟨a_rfits, i_rfits, k_rfits⟩
  have coR : StX.CallO K CR f_rcall := ⟨a_rcall, i_rcall, j_rcall⟩
  have coB : StX.CallO K C f_bcall := ⟨a_bcall, i_bcall, j_bcall⟩
  have mfin : Meth K C "finished" f_bfin := ⟨a_bfin, i_bfin, k_bfin⟩
  have mlt : Meth K C "led_to" f_bledto := ⟨a_bledto, i_bledto, k_bledto⟩
  have mld : Meth K C "led" f_bled := ⟨a_bled, i_bled, k_bled⟩
  have G_isint := ok_isIntA (P := l.prog) (w := w) (base := base) F_isint T zB
  have G_fromto := ok_fromToA (P := l.prog) (w := w) (base := base) F_fromto T zB
  have G_isletr := ok_isLetterA (P := l.prog) (w := w) (base := base) F_isletr T zS mL
  have G_letrs := ok_areLetters (P := l.prog) (w := w) (base := base) F_letrs T zS mL
  have G_ispair := ok_isPairA F_ispair T T.tuple G_isletr m_isletr k_isletr b_isletr G_fromto m_fromto k_fromto b_fromto
  have G_winit := ok_wInitA F_winit T MW B_S zE G_fromto m_fromto k_fromto b_fromto G_ispair m_ispair k_ispair b_ispair
  have G_wof := ok_wOfA F_wof mkW G_winit
  have G_wsig := ok_wSigns (P := l.prog) (w := w) (mg := mg) (base := base) F_wsig MW
  have G_wrong := ok_wrong (P := l.prog) (w := w) (base := base) F_wrong T zS
  have G_wrongB := ok_wrongB (P := l.prog) (w := w) (base := base) F_wrong T zS
  have G_chk := ok_checkRow F_chk G_wrong m_wrong k_wrong b_wrong
  have G_chkB := ok_checkB F_chk G_wrongB m_wrong k_wrong b_wrong B_O
  have G_weigh := ok_weigh (P := l.prog) (w := w) (base := base) F_weigh zM
  have G_rinit := ok_rInit F_rinit T MR B_Q zB G_letrs m_letrs k_letrs b_letrs
  have G_req := ok_rEq (P := l.prog) (w := w) (base := base) F_req T MR I_CR kk_R
  have G_rfirst := ok_firstP (P := l.prog) (w := w) (base := base) F_rfirst T MR
  have G_rfirst2 := ok_first2 (P := l.prog) (w := w) (base := base) F_rfirst T MR
  have G_rallp := ok_allP F_rallp MR mfirst G_rfirst b_rfirst
  have G_rfits := ok_fits (P := l.prog) (w := w) (base := base) F_rfits T MR
  have G_rcall := ok_rCall F_rcall T MR B_M mrfits G_rfits b_rfits
  have G_mfrom := ok_movesFrom F_mfrom T zE zQ MR mallp G_rallp b_rallp
  have G_hasmv := ok_hasMove F_hasmv MR mfirst G_rfirst2 b_rfirst
  have G_rowof := ok_rowOf (P := l.prog) (w := w) (base := base) F_rowof T MR
  have G_rowsb := ok_rowsBehind F_rowsb G_mfrom m_mfrom k_mfrom b_mfrom G_rowof m_rowof k_rowof b_rowof
  have G_hasfm := ok_hasForm F_hasfm T G_isint m_isint k_isint b_isint
  have G_rowbm := ok_rowBM F_rowbm T MR B_M G_hasfm m_hasfm k_hasfm b_hasfm G_fromto m_fromto k_fromto b_fromto coR G_rcall b_rcall
  have G_isrul := ok_isRule F_isrul T MW MR I_CR kk_R G_wrong G_wrongB m_wrong k_wrong b_wrong poW G_wsig b_wsig
  have G_binit := ok_bInit F_binit T MB MW MR I_CW I_CR kk_W zE g_CW g_C B_B B_H B_U G_isrul m_isrul k_isrul b_isrul G_weigh m_weigh k_weigh b_weigh G_req b_req a_req i_req
  have G_bof := ok_bOf F_bof mkB G_binit
  have G_bcall := ok_bCallR F_bcall MB MW G_chk m_chk k_chk b_chk G_mfrom m_mfrom k_mfrom b_mfrom poW G_wsig b_wsig
  have G_bcallB := ok_bCallB (CR := CR) F_bcall MB MW G_chkB m_chk k_chk b_chk poW G_wsig b_wsig
  have G_bfin := ok_bFin F_bfin MB MW G_chk m_chk k_chk b_chk G_hasmv m_hasmv k_hasmv b_hasmv poW G_wsig b_wsig
  have G_bfinB := ok_bFinB (CR := CR) F_bfin MB MW G_chkB m_chk k_chk b_chk poW G_wsig b_wsig
  have G_blt := ok_bLedTo F_bledto MB MW G_chk m_chk k_chk b_chk G_rowsb m_rowsb k_rowsb b_rowsb poW G_wsig b_wsig
  have G_bltB := ok_bLedToB (CR := CR) F_bledto MB MW G_chkB m_chk k_chk b_chk poW G_wsig b_wsig
  have G_bled := ok_bLed F_bled MB MW G_chk m_chk k_chk b_chk G_rowbm m_rowbm k_rowbm b_rowbm poW G_wsig b_wsig
  have G_bledB := ok_bLedB (CR := CR) F_bled MB MW G_chkB m_chk k_chk b_chk poW G_wsig b_wsig
  have G_draw := ok_draw (P := l.prog) (w := w) (base := base) F_draw T
  have G_pick := ok_pick F_pick T G_draw m_draw k_draw b_draw
  have G_text := ok_text F_text T G_pick m_pick k_pick b_pick
  have G_prs := ok_pairs F_prs T G_draw m_draw k_draw b_draw G_pick m_pick k_pick b_pick
  have G_wgt := ok_weight (P := l.prog) (w := w) (base := base) F_wgt zD zM
  have G_rul := ok_rule F_rul T G_pick m_pick k_pick b_pick G_text m_text k_text b_text G_wgt m_wgt k_wgt b_wgt
  have G_ruls := ok_rules F_ruls T G_draw m_draw k_draw b_draw G_rul m_rul k_rul b_rul
  have G_made := ok_made F_made T MR mkR G_rinit kbR
  have G_book := ok_lBook F_book g_C g_CW rdd_C cmB (Er.fnR_of G_bof b_bof) rdd_CW cmW (Er.fnR_of G_wof b_wof) G_made m_made k_made b_made
  have G_fits := ok_lFits (P := l.prog) (w := w) (base := base) F_fits T
  have G_moves := ok_lMoves F_moves T G_fits m_fits k_fits b_fits
  have G_led := ok_lLed (P := l.prog) (w := w) (base := base) F_led T
  have G_row := ok_lRow F_row T G_draw m_draw k_draw b_draw G_pick m_pick k_pick b_pick G_text m_text k_text b_text
  have G_mdue := ok_mDue F_mdue T zB G_moves m_moves k_moves b_moves
  have G_odd := ok_odd F_odd T G_draw m_draw k_draw b_draw
  have BFx : BF7 l.prog w K mg base C CW CR EM EO := ⟨MB, ⟨_, _, coB, G_bcall, G_bcallB, b_bcall⟩, ⟨_, _, mfin, G_bfin, G_bfinB, b_bfin⟩, ⟨_, _, mlt, G_blt, G_bltB, b_bledto⟩, ⟨_, _, mld, G_bled, G_bledB, b_bled, kbD⟩, ⟨Hp_M, Hp_O, emOM⟩⟩
  have Hh : Hd K mg f_hrd cd_hrd oc_hrd .none kV_hrd dc_hrd pm_hrd ct_hrd an_hrd od_hrd sl_hrd := ⟨m_hrd, k_hrd, l_hrd, c_hrd, b_hrd⟩
  have G_right := ok_lRight (T3 := [(tab_right, lamQ "_law_right"), (tab_refd, lamQ "_law_refused")]) T BFx Hh l_right c_right tbR (by simp) (fun p hp e => by
    simp only [List.mem_cons, List.not_mem_nil, or_false] at hp
    rcases hp with rfl | rfl
    · rfl
    · exact absurd e.symm d_right_refd) G_moves m_moves k_moves b_moves G_led m_led k_led b_led G_wgt m_wgt k_wgt b_wgt G_odd m_odd k_odd b_odd G_mdue m_mdue k_mdue b_mdue
  have G_refd := ok_lRef (T3 := [(tab_right, lamQ "_law_right"), (tab_refd, lamQ "_law_refused")]) T BFx Hh l_refd c_refd tbF (by simp) (fun p hp e => by
    simp only [List.mem_cons, List.not_mem_nil, or_false] at hp
    rcases hp with rfl | rfl
    · exact absurd e d_right_refd
    · rfl) G_draw m_draw k_draw b_draw
  exact ok_law F_law T BFx (ok_pen F_pen T) m_pen k_pen b_pen G_prs m_prs k_prs b_prs G_ruls m_ruls k_ruls b_ruls G_book m_book k_book b_book G_row m_row k_row b_row G_right m_right k_right b_right G_refd m_refd k_refd b_refd
end Kx
set_option Elab.async false
open PySem PySem.W PyProof.Rows in
set_option maxRecDepth 100000 in
set_option maxHeartbeats 0 in
theorem PySem.Challenge.cw_rowgames_k07_moves_in_order_holds : PySem.Challenge.rw_rowgames_k07_moves_in_order.Holds := by
  w_on; o_law; k_head; (case hw => w_witness2)
  k_fill
  refine Kx.walkGTs (l := PySem.Challenge.rw_rowgames_k07_moves_in_order) (n := 63) (k := 12) (x := "_law_script") (sp := fun cs w => Kx.spLaw _ (Kx.tabsOf Kx.N3 cs)) Kx.N3 rfl (by decide) rfl ⟨rfl, by decide, by decide⟩ (by decide +kernel) (fun w h Y => PySem.W.km_in_of Y) ?F (fun cs _ _ a ns hl _ tb hS => ⟨a, ns, rfl, hS, hl, Kx.tabs_of tb, fun _ => rfl⟩)
  case F =>
   as_aux_lemma =>
    intro w mg fa h KX G hmg own
    refine' Kx.all_mk KX G hmg own ?a_CW ?a_CR ?a_C ?aES ?xL_S ?rv_S ?sa_S ?ex_S ?ty_S ?kC_S ?ini_S ?ti_S ?le_S ?ce_S ?no_part_S ?su_S ?ve_S ?se_S ?cel_S ?cod_S ?v2_S ?fl_S ?aEO ?xL_O ?rv_O ?sa_O ?ex_O ?ty_O ?kC_O ?ga_O ?gg_O ?hdc_O ?ini_O ?ti_O ?le_O ?ce_O ?no_at_O ?su_O ?ve_O ?se_O ?cel_O ?cod_O ?v2_O ?fl_O ?em_O ?aEQ ?xL_Q ?rv_Q ?sa_Q ?ex_Q ?ty_Q ?kC_Q ?ini_Q ?ti_Q ?le_Q ?ce_Q ?no_part_Q ?su_Q ?ve_Q ?se_Q ?cel_Q ?cod_Q ?v2_Q ?fl_Q ?aEB ?xL_B ?rv_B ?sa_B ?ex_B ?ty_B ?kC_B ?ini_B ?ti_B ?le_B ?ce_B ?no_at_B ?su_B ?ve_B ?se_B ?cel_B ?cod_B ?v2_B ?fl_B ?aEH ?xL_H ?rv_H ?sa_H ?ex_H ?ty_H ?kC_H ?ini_H ?ti_H ?le_H ?ce_H ?no_at_H ?su_H ?ve_H ?se_H ?cel_H ?cod_H ?v2_H ?fl_H ?aEU ?xL_U ?rv_U ?sa_U ?ex_U ?ty_U ?kC_U ?ini_U ?ti_U ?le_U ?ce_U ?no_old_U ?no_new_U ?su_U ?ve_U ?se_U ?cel_U ?cod_U ?v2_U ?fl_U ?aEM ?xL_M ?rv_M ?sa_M ?ex_M ?ty_M ?kC_M ?ga_M ?gg_M ?hdc_M ?ini_M ?ti_M ?le_M ?ce_M ?no_part_M ?su_M ?ve_M ?se_M ?cel_M ?cod_M ?v2_M ?fl_M ?em_M ?emOM ?ay ?tp ?cg ?ct ?a_isint ?l_isint ?c_isint ?k_isint ?a_fromto ?l_fromto ?c_fromto ?k_fromto ?a_isletr ?l_isletr ?c_isletr ?k_isletr ?a_letrs ?l_letrs ?c_letrs ?k_letrs ?a_wrong ?l_wrong ?c_wrong ?k_wrong ?a_chk ?l_chk ?c_chk ?k_chk ?a_weigh ?l_weigh ?c_weigh ?k_weigh ?a_mfrom ?l_mfrom ?c_mfrom ?k_mfrom ?a_hasmv ?l_hasmv ?c_hasmv ?k_hasmv ?a_rowsb ?l_rowsb ?c_rowsb ?k_rowsb ?a_rowof ?l_rowof ?c_rowof ?k_rowof ?a_hasfm ?l_hasfm ?c_hasfm ?k_hasfm ?a_rowbm ?l_rowbm ?c_rowbm ?k_rowbm ?a_ispair ?l_ispair ?c_ispair ?k_ispair ?a_isrul ?l_isrul ?c_isrul ?k_isrul ?a_pen ?l_pen ?c_pen ?k_pen ?a_draw ?l_draw ?c_draw ?k_draw ?a_pick ?l_pick ?c_pick ?k_pick ?a_text ?l_text ?c_text ?k_text ?a_prs ?l_prs ?c_prs ?k_prs ?a_wgt ?l_wgt ?c_wgt ?k_wgt ?a_rul ?l_rul ?c_rul ?k_rul ?a_ruls ?l_ruls ?c_ruls ?k_ruls ?a_made ?l_made ?c_made ?k_made ?a_book ?l_book ?c_book ?k_book ?a_fits ?l_fits ?c_fits ?k_fits ?a_moves ?l_moves ?c_moves ?k_moves ?a_led ?l_led ?c_led ?k_led ?a_row ?l_row ?c_row ?k_row ?a_hrd ?l_hrd ?c_hrd ?k_hrd ?a_mdue ?l_mdue ?c_mdue ?k_mdue ?a_odd ?l_odd ?c_odd ?k_odd ?a_right ?l_right ?c_right ?k_right ?lct_right ?v11_right ?hct_right ?ntb_right ?a_refd ?l_refd ?c_refd ?k_refd ?lct_refd ?v11_refd ?hct_refd ?ntb_refd ?a_law ?l_law ?c_law ?k_law ?d_right_refd ?a_rinit ?i_rinit ?l_rinit ?c_rinit ?k_rinit ?kl_rinit ?kr_rinit ?a_winit ?i_winit ?l_winit ?c_winit ?k_winit ?a_wof ?q_wof ?fc_wof ?fi_wof ?l_wof ?c_wof ?k_wof ?a_wsig ?g_wsig ?t_wsig ?q_wsig ?l_wsig ?c_wsig ?k_wsig ?a_req ?i_req ?l_req ?c_req ?k_req ?a_rallp ?i_rallp ?l_rallp ?c_rallp ?k_rallp ?a_rfirst ?i_rfirst ?l_rfirst ?c_rfirst ?k_rfirst ?a_rfits ?i_rfits ?l_rfits ?c_rfits ?k_rfits ?a_rcall ?i_rcall ?j_rcall ?l_rcall ?c_rcall ?k_rcall ?a_binit ?i_binit ?l_binit ?c_binit ?k_binit ?a_bof ?q_bof ?fc_bof ?fi_bof ?l_bof ?c_bof ?k_bof ?a_bcall ?i_bcall ?j_bcall ?l_bcall ?c_bcall ?k_bcall ?a_bfin ?i_bfin ?l_bfin ?c_bfin ?k_bfin ?a_bledto ?i_bledto ?l_bledto ?c_bledto ?k_bledto ?a_bled ?i_bled ?l_bled ?c_bled ?k_bled ?pg_W ?hdi_W ?po_W ?sat_W ?mk_W ?kc_W ?ca_W ?ob_W ?n__signs_W ?n_pairs_W ?rd_W ?gt_W ?kk_W ?pg_R ?hdi_R ?po_R ?sat_R ?mk_R ?kc_R ?ca_R ?ob_R ?n_old_R ?n_new_R ?n_left_R ?n_right_R ?rd_R ?gt_R ?kk_R ?pg_B ?hdi_B ?po_B ?sat_B ?mk_B ?kc_B ?ca_B ?ob_B ?n_weights_B ?n_rules_B ?rd_B ?gt_B ?aMost ?fMost ?aMostB ?fMostB ?aL ?z_len ?z_int ?z_abs ?z_list ?z_tuple ?z_range ?z_repr ?z_isinstance ?z_all ?z_set ?z_bool ?z_str ?z_super ?z_enumerate ?z_dict ?z_sum ?z_sorted
    (case a_CW => k_is)
    (case a_CR => k_is)
    (case a_C => k_is)
    (case aES => k_is)
    (case xL_S => k_is)
    (case rv_S => first | rfl | decide +kernel | k_is)
    (case sa_S => k_is)
    (case ex_S => k_is)
    (case ty_S => k_is)
    (case kC_S => k_is)
    (case ini_S => k_is)
    (case ti_S => k_is)
    (case le_S => k_is)
    (case ce_S => k_is)
    (case no_part_S => k_is)
    (case su_S => first | kernel_rfl | decide +kernel | rfl | k_is)
    (case ve_S => k_is)
    (case se_S => first | k_is | kernel_rfl | decide +kernel)
    (case cel_S => k_is)
    (case cod_S => k_is)
    (case v2_S => first | rfl | decide +kernel | k_is)
    (case fl_S => first | rfl | decide +kernel | k_is)
    (case aEO => k_is)
    (case xL_O => k_is)
    (case rv_O => first | rfl | decide +kernel | k_is)
    (case sa_O => k_is)
    (case ex_O => k_is)
    (case ty_O => k_is)
    (case kC_O => k_is)
    (case ga_O => k_is)
    (case gg_O => k_is)
    (case hdc_O => k_is)
    (case ini_O => k_is)
    (case ti_O => k_is)
    (case le_O => k_is)
    (case ce_O => k_is)
    (case no_at_O => k_is)
    (case su_O => first | kernel_rfl | decide +kernel | rfl | k_is)
    (case ve_O => k_is)
    (case se_O => first | k_is | kernel_rfl | decide +kernel)
    (case cel_O => k_is)
    (case cod_O => k_is)
    (case v2_O => first | rfl | decide +kernel | k_is)
    (case fl_O => first | rfl | decide +kernel | k_is)
    (case em_O => first | kernel_rfl | decide +kernel | rfl | k_is)
    (case aEQ => k_is)
    (case xL_Q => k_is)
    (case rv_Q => first | rfl | decide +kernel | k_is)
    (case sa_Q => k_is)
    (case ex_Q => k_is)
    (case ty_Q => k_is)
    (case kC_Q => k_is)
    (case ini_Q => k_is)
    (case ti_Q => k_is)
    (case le_Q => k_is)
    (case ce_Q => k_is)
    (case no_part_Q => k_is)
    (case su_Q => first | kernel_rfl | decide +kernel | rfl | k_is)
    (case ve_Q => k_is)
    (case se_Q => first | k_is | kernel_rfl | decide +kernel)
    (case cel_Q => k_is)
    (case cod_Q => k_is)
    (case v2_Q => first | rfl | decide +kernel | k_is)
    (case fl_Q => first | rfl | decide +kernel | k_is)
    (case aEB => k_is)
    (case xL_B => k_is)
    (case rv_B => first | rfl | decide +kernel | k_is)
    (case sa_B => k_is)
    (case ex_B => k_is)
    (case ty_B => k_is)
    (case kC_B => k_is)
    (case ini_B => k_is)
    (case ti_B => k_is)
    (case le_B => k_is)
    (case ce_B => k_is)
    (case no_at_B => k_is)
    (case su_B => first | kernel_rfl | decide +kernel | rfl | k_is)
    (case ve_B => k_is)
    (case se_B => first | k_is | kernel_rfl | decide +kernel)
    (case cel_B => k_is)
    (case cod_B => k_is)
    (case v2_B => first | rfl | decide +kernel | k_is)
    (case fl_B => first | rfl | decide +kernel | k_is)
    (case aEH => k_is)
    (case xL_H => k_is)
    (case rv_H => first | rfl | decide +kernel | k_is)
    (case sa_H => k_is)
    (case ex_H => k_is)
    (case ty_H => k_is)
    (case kC_H => k_is)
    (case ini_H => k_is)
    (case ti_H => k_is)
    (case le_H => k_is)
    (case ce_H => k_is)
    (case no_at_H => k_is)
    (case su_H => first | kernel_rfl | decide +kernel | rfl | k_is)
    (case ve_H => k_is)
    (case se_H => first | k_is | kernel_rfl | decide +kernel)
    (case cel_H => k_is)
    (case cod_H => k_is)
    (case v2_H => first | rfl | decide +kernel | k_is)
    (case fl_H => first | rfl | decide +kernel | k_is)
    (case aEU => k_is)
    (case xL_U => k_is)
    (case rv_U => first | rfl | decide +kernel | k_is)
    (case sa_U => k_is)
    (case ex_U => k_is)
    (case ty_U => k_is)
    (case kC_U => k_is)
    (case ini_U => k_is)
    (case ti_U => k_is)
    (case le_U => k_is)
    (case ce_U => k_is)
    (case no_old_U => k_is)
    (case no_new_U => k_is)
    (case su_U => first | kernel_rfl | decide +kernel | rfl | k_is)
    (case ve_U => k_is)
    (case se_U => first | k_is | kernel_rfl | decide +kernel)
    (case cel_U => k_is)
    (case cod_U => k_is)
    (case v2_U => first | rfl | decide +kernel | k_is)
    (case fl_U => first | rfl | decide +kernel | k_is)
    (case aEM => k_is)
    (case xL_M => k_is)
    (case rv_M => first | rfl | decide +kernel | k_is)
    (case sa_M => k_is)
    (case ex_M => k_is)
    (case ty_M => k_is)
    (case kC_M => k_is)
    (case ga_M => k_is)
    (case gg_M => k_is)
    (case hdc_M => k_is)
    (case ini_M => k_is)
    (case ti_M => k_is)
    (case le_M => k_is)
    (case ce_M => k_is)
    (case no_part_M => k_is)
    (case su_M => first | kernel_rfl | decide +kernel | rfl | k_is)
    (case ve_M => k_is)
    (case se_M => first | k_is | kernel_rfl | decide +kernel)
    (case cel_M => k_is)
    (case cod_M => k_is)
    (case v2_M => first | rfl | decide +kernel | k_is)
    (case fl_M => first | rfl | decide +kernel | k_is)
    (case em_M => first | kernel_rfl | decide +kernel | rfl | k_is)
    (case emOM => first | kernel_rfl | decide +kernel | rfl | k_is)
    (case ay => k_is)
    (case tp => first | rfl | decide +kernel | k_is)
    (case cg => k_is)
    (case ct => k_is)
    (case a_isint => k_is)
    (case l_isint => k_is)
    (case c_isint => k_is)
    (case k_isint => k_is)
    (case a_fromto => k_is)
    (case l_fromto => k_is)
    (case c_fromto => k_is)
    (case k_fromto => k_is)
    (case a_isletr => k_is)
    (case l_isletr => k_is)
    (case c_isletr => k_is)
    (case k_isletr => k_is)
    (case a_letrs => k_is)
    (case l_letrs => k_is)
    (case c_letrs => k_is)
    (case k_letrs => k_is)
    (case a_wrong => k_is)
    (case l_wrong => k_is)
    (case c_wrong => k_is)
    (case k_wrong => k_is)
    (case a_chk => k_is)
    (case l_chk => k_is)
    (case c_chk => k_is)
    (case k_chk => k_is)
    (case a_weigh => k_is)
    (case l_weigh => k_is)
    (case c_weigh => k_is)
    (case k_weigh => k_is)
    (case a_mfrom => k_is)
    (case l_mfrom => k_is)
    (case c_mfrom => k_is)
    (case k_mfrom => k_is)
    (case a_hasmv => k_is)
    (case l_hasmv => k_is)
    (case c_hasmv => k_is)
    (case k_hasmv => k_is)
    (case a_rowsb => k_is)
    (case l_rowsb => k_is)
    (case c_rowsb => k_is)
    (case k_rowsb => k_is)
    (case a_rowof => k_is)
    (case l_rowof => k_is)
    (case c_rowof => k_is)
    (case k_rowof => k_is)
    (case a_hasfm => k_is)
    (case l_hasfm => k_is)
    (case c_hasfm => k_is)
    (case k_hasfm => k_is)
    (case a_rowbm => k_is)
    (case l_rowbm => k_is)
    (case c_rowbm => k_is)
    (case k_rowbm => k_is)
    (case a_ispair => k_is)
    (case l_ispair => k_is)
    (case c_ispair => k_is)
    (case k_ispair => k_is)
    (case a_isrul => k_is)
    (case l_isrul => k_is)
    (case c_isrul => k_is)
    (case k_isrul => k_is)
    (case a_pen => k_is)
    (case l_pen => k_is)
    (case c_pen => k_is)
    (case k_pen => k_is)
    (case a_draw => k_is)
    (case l_draw => k_is)
    (case c_draw => k_is)
    (case k_draw => k_is)
    (case a_pick => k_is)
    (case l_pick => k_is)
    (case c_pick => k_is)
    (case k_pick => k_is)
    (case a_text => k_is)
    (case l_text => k_is)
    (case c_text => k_is)
    (case k_text => k_is)
    (case a_prs => k_is)
    (case l_prs => k_is)
    (case c_prs => k_is)
    (case k_prs => k_is)
    (case a_wgt => k_is)
    (case l_wgt => k_is)
    (case c_wgt => k_is)
    (case k_wgt => k_is)
    (case a_rul => k_is)
    (case l_rul => k_is)
    (case c_rul => k_is)
    (case k_rul => k_is)
    (case a_ruls => k_is)
    (case l_ruls => k_is)
    (case c_ruls => k_is)
    (case k_ruls => k_is)
    (case a_made => k_is)
    (case l_made => k_is)
    (case c_made => k_is)
    (case k_made => k_is)
    (case a_book => k_is)
    (case l_book => k_is)
    (case c_book => k_is)
    (case k_book => k_is)
    (case a_fits => k_is)
    (case l_fits => k_is)
    (case c_fits => k_is)
    (case k_fits => k_is)
    (case a_moves => k_is)
    (case l_moves => k_is)
    (case c_moves => k_is)
    (case k_moves => k_is)
    (case a_led => k_is)
    (case l_led => k_is)
    (case c_led => k_is)
    (case k_led => k_is)
    (case a_row => k_is)
    (case l_row => k_is)
    (case c_row => k_is)
    (case k_row => k_is)
    (case a_hrd => k_is)
    (case l_hrd => k_is)
    (case c_hrd => k_is)
    (case k_hrd => k_is)
    (case a_mdue => k_is)
    (case l_mdue => k_is)
    (case c_mdue => k_is)
    (case k_mdue => k_is)
    (case a_odd => k_is)
    (case l_odd => k_is)
    (case c_odd => k_is)
    (case k_odd => k_is)
    (case a_right => k_is)
    (case l_right => k_is)
    (case c_right => k_is)
    (case k_right => k_is)
    (case lct_right => k_is)
    (case v11_right => first | rfl | decide +kernel | k_is)
    (case hct_right => first | kernel_rfl | decide +kernel | rfl)
    (case ntb_right => first | kernel_rfl | decide +kernel | rfl)
    (case a_refd => k_is)
    (case l_refd => k_is)
    (case c_refd => k_is)
    (case k_refd => k_is)
    (case lct_refd => k_is)
    (case v11_refd => first | rfl | decide +kernel | k_is)
    (case hct_refd => first | kernel_rfl | decide +kernel | rfl)
    (case ntb_refd => first | kernel_rfl | decide +kernel | rfl)
    (case a_law => k_is)
    (case l_law => k_is)
    (case c_law => k_is)
    (case k_law => k_is)
    (case d_right_refd => first | decide | decide +kernel)
    (case a_rinit => k_is)
    (case i_rinit => k_is)
    (case l_rinit => k_is)
    (case c_rinit => k_is)
    (case k_rinit => k_is)
    (case kl_rinit => k_is)
    (case kr_rinit => k_is)
    (case a_winit => k_is)
    (case i_winit => k_is)
    (case l_winit => k_is)
    (case c_winit => k_is)
    (case k_winit => k_is)
    (case a_wof => k_is)
    (case q_wof => k_is)
    (case fc_wof => first | kernel_rfl | decide +kernel | rfl | k_is)
    (case fi_wof => k_is)
    (case l_wof => k_is)
    (case c_wof => k_is)
    (case k_wof => k_is)
    (case a_wsig => k_is)
    (case g_wsig => k_is)
    (case t_wsig => k_is)
    (case q_wsig => k_is)
    (case l_wsig => k_is)
    (case c_wsig => k_is)
    (case k_wsig => k_is)
    (case a_req => k_is)
    (case i_req => k_is)
    (case l_req => k_is)
    (case c_req => k_is)
    (case k_req => k_is)
    (case a_rallp => k_is)
    (case i_rallp => k_is)
    (case l_rallp => k_is)
    (case c_rallp => k_is)
    (case k_rallp => k_is)
    (case a_rfirst => k_is)
    (case i_rfirst => k_is)
    (case l_rfirst => k_is)
    (case c_rfirst => k_is)
    (case k_rfirst => k_is)
    (case a_rfits => k_is)
    (case i_rfits => k_is)
    (case l_rfits => k_is)
    (case c_rfits => k_is)
    (case k_rfits => k_is)
    (case a_rcall => k_is)
    (case i_rcall => k_is)
    (case j_rcall => k_is)
    (case l_rcall => k_is)
    (case c_rcall => k_is)
    (case k_rcall => k_is)
    (case a_binit => k_is)
    (case i_binit => k_is)
    (case l_binit => k_is)
    (case c_binit => k_is)
    (case k_binit => k_is)
    (case a_bof => k_is)
    (case q_bof => k_is)
    (case fc_bof => first | kernel_rfl | decide +kernel | rfl | k_is)
    (case fi_bof => k_is)
    (case l_bof => k_is)
    (case c_bof => k_is)
    (case k_bof => k_is)
    (case a_bcall => k_is)
    (case i_bcall => k_is)
    (case j_bcall => k_is)
    (case l_bcall => k_is)
    (case c_bcall => k_is)
    (case k_bcall => k_is)
    (case a_bfin => k_is)
    (case i_bfin => k_is)
    (case l_bfin => k_is)
    (case c_bfin => k_is)
    (case k_bfin => k_is)
    (case a_bledto => k_is)
    (case i_bledto => k_is)
    (case l_bledto => k_is)
    (case c_bledto => k_is)
    (case k_bledto => k_is)
    (case a_bled => k_is)
    (case i_bled => k_is)
    (case l_bled => k_is)
    (case c_bled => k_is)
    (case k_bled => k_is)
    (case pg_W => k_is)
    (case hdi_W => k_is)
    (case po_W => k_is)
    (case sat_W => k_is)
    (case mk_W => k_is)
    (case kc_W => k_is)
    (case ca_W => k_is)
    (case ob_W => k_is)
    (case n__signs_W => k_is)
    (case n_pairs_W => k_is)
    (case rd_W => first | kernel_rfl | decide +kernel | rfl | k_is)
    (case gt_W => first | k_is | kernel_rfl | decide +kernel)
    (case kk_W => first | kernel_rfl | decide +kernel | rfl | k_is)
    (case pg_R => k_is)
    (case hdi_R => k_is)
    (case po_R => k_is)
    (case sat_R => k_is)
    (case mk_R => k_is)
    (case kc_R => k_is)
    (case ca_R => k_is)
    (case ob_R => k_is)
    (case n_old_R => k_is)
    (case n_new_R => k_is)
    (case n_left_R => k_is)
    (case n_right_R => k_is)
    (case rd_R => first | kernel_rfl | decide +kernel | rfl | k_is)
    (case gt_R => first | k_is | kernel_rfl | decide +kernel)
    (case kk_R => first | kernel_rfl | decide +kernel | rfl | k_is)
    (case pg_B => k_is)
    (case hdi_B => k_is)
    (case po_B => k_is)
    (case sat_B => k_is)
    (case mk_B => k_is)
    (case kc_B => k_is)
    (case ca_B => k_is)
    (case ob_B => k_is)
    (case n_weights_B => k_is)
    (case n_rules_B => k_is)
    (case rd_B => first | kernel_rfl | decide +kernel | rfl | k_is)
    (case gt_B => first | k_is | kernel_rfl | decide +kernel)
    (case aMost => k_is)
    (case fMost => first | kernel_rfl | decide +kernel | rfl | k_is)
    (case aMostB => k_is)
    (case fMostB => first | kernel_rfl | decide +kernel | rfl | k_is)
    (case aL => k_is)
    (case z_len => k_is)
    (case z_int => k_is)
    (case z_abs => k_is)
    (case z_list => k_is)
    (case z_tuple => k_is)
    (case z_range => k_is)
    (case z_repr => k_is)
    (case z_isinstance => k_is)
    (case z_all => k_is)
    (case z_set => k_is)
    (case z_bool => k_is)
    (case z_str => k_is)
    (case z_super => k_is)
    (case z_enumerate => k_is)
    (case z_dict => k_is)
    (case z_sum => k_is)
    (case z_sorted => k_is)
#print axioms PySem.Challenge.cw_rowgames_k07_moves_in_order_holds
