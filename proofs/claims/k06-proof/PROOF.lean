import PyProof.Rows.All
import Wide.All
import OpenK.AllK
import Wide.FinOn
import HandS.ForMost
import HandS.Defaults
import HandS.MakeKwOnly
import HandS.Property
import HandS.Strs
import PyProof.StrWalks
import HandS.EndBits
import PyProof.ReprRoads
import HandS.ExcInit
import KE.KExcSuper
import HandS.WordsExc
import HandS.ExcValue
import HandS.ExcField
import HandS.IsInst
import KE.KExcIs
import HandS.ClsMeth
import HandS.SlotsOwn
import HandS.StrMore
import HandS.FStr
import HandS.Style
import PyProof.StrOps2
import PyProof.CallStr
import PyProof.ListStr
import HandS.Walk
import HandS.RaiseOp
import HandS.Codes
import PySem.Challenge.RW_rowgames_k06_books_made
import PyProof.ReprLen
import HandS.CallSlots
import HandS.Star
import KE.GoesEnum
import PyProof.StrLawsTight
import HandS.WordsDict
import PyProof.EqAt
import PyProof.MeetsIn
import KE.KExcRaise
import KE.DataMinMax
import OpenK.KEqL
import HandS.Deep
import PyProof.Rows.StrRev
import HandS.Lambda
import HandS.EndOwn
import KE.OsRunLaw
set_option Elab.async false
set_option maxRecDepth 100000
/-! Rules of my own over the hand layer: what a class of one's own says of len, [ ], in; a method called by keywords alone. -/
namespace Rg
open PySem L2 PySem.Spec PyProof.Rows
theorem rvRef (a : Addr) : RelV (.ref a) (Value.ref a) := rfl
section
variable {X : Cx} {CX : CXT} {k : Nat} {C f : Addr} {fd : FuncData} {ps : List Str} {sp : Sp} {E : XK} {pins : List (Addr × Obj)} {σ : L2.St} {H : Hp} {s : Shared}

/-- a def of the text, run one step further in -/
theorem runIn {Q : VK} {us : List Value} {vs : List V} (F : FnOk X.prog X.w X.K X.mg X.base CX k f fd ps sp) (room : Room (k + 1) X.A) (bd : Binds X.K fd ps []) (ex : Passes CX X E)
    (I : Inv X pins σ H s) (r : Vals vs us) (want : sp vs H Q E) : wpAny (model X.prog X.w) X.A.in1 (call (.ref f) us) (EP X pins σ Q) X.xe s := by
  have len : us.length = ps.length := r.length.symm.trans (F.len _ _ _ _ want)
  have bt : BindsTo s fd ⟨us, []⟩ (ps.zip us) := by
    have z := bd s us I.kIn (by rw [List.append_nil]; exact len)
    rw [List.append_nil] at z
    exact z
  refine wpAny_call (codeAny_mono (F.run X.A.in1 X.stack s H ⟨us, []⟩ us vs Q E room.in1 I.env0.in1 bt r want) fun res s' got => ?_)
  rcases res with e | fl
  · exact ex pins σ H s e s' I got
  · cases fl <;> first | exact I.after got | exact False.elim got

/-- the instance at a, as the walk's lemmas want it -/
theorem instAt {a dx : Addr} {fs : List (Str × V)} (I : Inv X pins σ H s) (e : H a = some (.ins C dx fs)) : ∃ od, PySem.W.InstAt s.heap a (PySem.W.instObj C dx) C od := by
  obtain ⟨mA, O, _⟩ := ins_get I.hok e
  obtain ⟨od, J, _⟩ := O.look
  exact ⟨od, J⟩

/-- len(o) -/
def rLen (C : Addr) (sp : Sp) (E : XK) : List V → Hp → VK → Prop := fun xs H Q => ∃ a dx fs, xs = [.ref a] ∧ H a = some (.ins C dx fs) ∧ sp [.ref a] H (fun v H' => ∃ n : Int, v = .int n ∧ 0 ≤ n ∧ n < 2 ^ 63 ∧ Q (.int n) H') E
theorem cr_len (F : FnOk X.prog X.w X.K X.mg X.base CX k f fd ps sp) (room : Room (k + 1) X.A) (bd : Binds X.K fd ps []) (ex : Passes CX X E)
    (at_ : PySem.W.findIn X.K (.ref C) "__len__" = some (some (.ref f))) (fn : PySem.W.isFn X.K (.ref f) = true) : CallR X (.builtin "len") (rLen C sp E) := by
  rintro pins s σ H xs us Q I r ⟨a, dx, fs, rfl, e, want⟩
  obtain ⟨od, J⟩ := instAt I e
  obtain ⟨m, fr⟩ := I.fr
  cases r with
  | cons r0 r1 =>
    cases r1
    cases r0
    refine PySem.W.len_K fr I.ok.mod.kin J at_ fn (thn (runIn F room bd ex I (.cons (rvRef a) .nil) want) ?_)
    rintro u s' ⟨v, H', I', rv, n, rfl, n0, n1, q⟩
    obtain ⟨t, rfl⟩ := rv
    exact ⟨⟨n0, n1⟩, .int n, H', I'.tok _, ⟨_, rfl⟩, q⟩

/-- o[i] -/
def rItem (C : Addr) (sp : Sp) (E : XK) : R2 := fun x y H Q => ∃ a dx fs, x = .ref a ∧ H a = some (.ins C dx fs) ∧ sp [x, y] H Q E
theorem pe_item {a b : Expr} {ta tb : TE} {pos : Pos} (F : FnOk X.prog X.w X.K X.mg X.base CX k f fd ps sp) (room : Room (k + 1) X.A) (bd : Binds X.K fd ps []) (ex : Passes CX X E)
    (at_ : PySem.W.findIn X.K (.ref C) "__getitem__" = some (some (.ref f))) (fi : PySem.W.fnIn X.K f = true) (fn : PySem.W.isFn X.K (.ref f) = true) (ha : PE X a ta) (hb : PE X b tb)
    (hs : ∀ o i, subscripted b true o i = runValue (.builtin "lifetime.subscript" ⟨[o, i], []⟩) := by intro _ _; with_unfolding_all rfl) : PE X (.Subscript a b pos) (tOp (rItem C sp E) ta tb) := by
  refine ⟨fun pins s σ H Q I h => Subscript_ (binT ha hb I h ?_)⟩
  rintro v u s2 x y H2 I2 rx ry ⟨o, dx, fs, rfl, e, want⟩
  obtain rfl : v = Value.ref o := rx
  obtain ⟨od, J⟩ := instAt I2 e
  obtain ⟨m, fr⟩ := I2.fr
  exact PySem.W.sub_K fr I2.ok.mod.kin J at_ fi fn (runIn F room bd ex I2 (.cons (rvRef o) (.cons ry .nil)) want) (hs _ _)

/-- x in o, x not in o -/
def rHas (neg : Bool) (C : Addr) (sp : Sp) (E : XK) : R2 := fun x y H Q => ∃ a dx fs, y = .ref a ∧ H a = some (.ins C dx fs) ∧ sp [y, x] H (fun v H' => ∃ b, v = .bl b ∧ Q (.bl (if neg then !b else b)) H') E
theorem op_has (F : FnOk X.prog X.w X.K X.mg X.base CX k f fd ps sp) (room : Room k X.A) (bd : Binds X.K fd ps []) (ex : Passes CX X E)
    (at_ : PySem.W.findIn X.K (.ref C) "__contains__" = some (some (.ref f))) (fn : PySem.W.isFn X.K (.ref f) = true) : OpR X (compareOp .In) (rHas false C sp E) := by
  rintro pins s σ H x y v u Q I rx ry ⟨a, dx, fs, rfl, e, want⟩
  obtain rfl : u = Value.ref a := ry
  obtain ⟨od, J⟩ := instAt I e
  obtain ⟨m, fr⟩ := I.fr
  refine PySem.W.in_K fr I.ok.mod.kin J at_ fn (thn (run_fn (ds := []) (dvs := []) F room bd .nil ex I (.cons (rvRef a) (.cons rx .nil)) want) ?_)
  rintro z s' ⟨v', H', I', rv, b, rfl, q⟩
  obtain rfl : z = Value.bool b := rv
  exact wpAny_truthy_bool ⟨.bl b, H', I', rfl, q⟩
theorem op_hasnt (F : FnOk X.prog X.w X.K X.mg X.base CX k f fd ps sp) (room : Room k X.A) (bd : Binds X.K fd ps []) (ex : Passes CX X E)
    (at_ : PySem.W.findIn X.K (.ref C) "__contains__" = some (some (.ref f))) (fn : PySem.W.isFn X.K (.ref f) = true) : OpR X (compareOp .NotIn) (rHas true C sp E) := by
  rintro pins s σ H x y v u Q I rx ry ⟨a, dx, fs, rfl, e, want⟩
  obtain rfl : u = Value.ref a := ry
  obtain ⟨od, J⟩ := instAt I e
  obtain ⟨m, fr⟩ := I.fr
  refine PySem.W.notIn_K fr I.ok.mod.kin J at_ fn (thn (run_fn (ds := []) (dvs := []) F room bd .nil ex I (.cons (rvRef a) (.cons rx .nil)) want) ?_)
  rintro z s' ⟨v', H', I', rv, b, rfl, q⟩
  obtain rfl : z = Value.bool b := rv
  exact wpAny_truthy_bool ⟨.bl (!b), H', I', rfl, q⟩

/-- o.m(k = v, ..), no value by place -/
def tMethK (C : Addr) (m : Str) (sp : Sp) (gV : List V → List V → List V) (n : Nat) (E : XK) (ta : TE) (tk : TA) : TE := fun σ H Q => ta σ H fun x H1 => ∃ a dx fs, x = .ref a ∧ H1 a = some (.ins C dx fs) ∧ fs.lookup m = none ∧
  tk σ H1 fun zs H2 => zs.length = n ∧ sp (gV [x] zs) H2 Q E
theorem pe_methK {pl : Sem Bool} {o : Expr} {m : Str} {kws : List Keyword} {ks : List Str} {ta : TE} {tk : TA} {pos apos : Pos} {g : List Value → List Value → List Value} {gV : List V → List V → List V}
    (he : PE X o ta) (c : Cls X.K C) (hm : Meth X.K C m f) (F : FnOk X.prog X.w X.K X.mg X.base CX k f fd ps sp) (room : Room k X.A) (kb : KBn X.K fd ps 1 ks g gV) (ex : Passes CX X E) (hk : PK X kws tk)
    (hall : (backToKw pos (keywordEach kws X.env)).all (·.1.isSome) = true := by rfl) (hks : (backToKw pos (keywordEach kws X.env)).filterMap (·.1) = ks := by rfl)
    (hpl : ((backTo pos (starEach [] X.env)).any (·.1) || (backToKw pos (keywordEach kws X.env)).any (·.1.isNone)) = false := by rfl)
    (ht : eval (.Call (.Attribute o m apos) [] kws pos) X.env = (do
      let ov ← eval o X.env
      standAt apos.atName
      let (f, first) ← holding [ov] (getMethod ov m pl)
      callWith pos f first (backTo pos (starEach [] X.env)) (backToKw pos (keywordEach kws X.env))) := by rfl) :
    PE X (.Call (.Attribute o m apos) [] kws pos) (tMethK C m sp gV ks.length E ta tk) := by
  refine ⟨fun pins s σ H Q I h => PySem.W.methodCall_KW (pl := pl) (thn (he.run pins s σ H _ I h) ?_) ht⟩
  rintro u s1 ⟨x, H1, I1, rx, a, dx, fs, rfl, e, no, q⟩
  obtain rfl : u = Value.ref a := rx
  refine getmeth_ok I1 e c hm no (PySem.W.callWith_KW0 (first := [.ref a]) (h₀ := X.base) I1.ok.mod.kin hm.kp hall (thn (hk.run pos pins s1 σ H1 _ I1 q) ?_) hpl)
  rintro ws s2 ⟨zs, H2, I2, rz, lz, want⟩
  refine ⟨I2.kIn, ?_⟩
  rw [hks]
  have lw : ws.length = ks.length := rz.length.symm.trans lz
  have rr : Vals (gV [V.ref a] zs) (g [Value.ref a] ws) := kb.rel (.cons (rvRef a) .nil) rz
  refine wpAny_call (codeAny_mono (F.run X.A X.stack s2 H2 ⟨[.ref a], ks.zip ws⟩ (g [.ref a] ws) (gV [.ref a] zs) Q E room I2.env0 (kb.to s2 [.ref a] ws I2.kIn rfl lw) rr want) fun res s' got => ?_)
  rcases res with er | fl
  · exact ex pins σ H2 s2 er s' I2 got
  · cases fl <;> first | exact I2.after got | exact False.elim got
end
end Rg
set_option Elab.async false
set_option maxRecDepth 100000
/-! len(set(text)) where no sign stands twice. -/
namespace Rg
open PySem L2 PySem.Spec PyProof.Rows
section
variable {prog : Program} {w : World} {A : Around}
/-- the signs of a text, each a text -/
def signs (x : Str) : List Str := x.cps.toList.map fun c => ⟨#[c]⟩
theorem signs_len (x : Str) : (signs x).length = x.cps.size := by unfold signs; simp
theorem signAt {x : Str} {i : Nat} {v : Value} (h : SignAt x i v) : ∃ z t, (signs x)[i]? = some z ∧ v = .str z t := by
  obtain ⟨c, u, e, rfl⟩ := h
  refine ⟨⟨#[c]⟩, u, ?_, rfl⟩
  unfold signs
  rw [List.getElem?_map, Array.getElem?_toList, e] <;> rfl
theorem take_has {zs : List Str} {i : Nat} {z : Str} (e : zs[i]? = some z) (k : Str) : ((zs.take i).any (· == k) || decide (k = z)) = (zs.take (i + 1)).any (· == k) := by
  rw [List.take_add_one, e, List.any_append]
  congr 1
  by_cases h : k = z
  · subst h; simp
  · have h' : (z == k) = false := by simpa using fun q : z = k => h q.symm
    simp [h, h']
theorem take_no {zs : List Str} {i : Nat} {z : Str} (nd : zs.Nodup) (e : zs[i]? = some z) : (zs.take i).any (· == z) = false := by
  rw [Bool.eq_false_iff]
  intro q
  obtain ⟨y, hy, ey⟩ := List.any_eq_true.mp q
  have : y = z := by simpa using ey
  subst this
  obtain ⟨j, hj, ej⟩ := List.getElem_of_mem hy
  rw [List.length_take] at hj
  obtain ⟨hi, ei⟩ := List.getElem?_eq_some_iff.mp e
  rw [List.getElem_take] at ej
  exact absurd (ej.trans ei.symm) (List.pairwise_iff_getElem.mp nd j i (by omega) hi (by omega))

/-- the loop of set(..) over a walk that hands out the texts zs -/
theorem fill {R : Result → Shared → Prop} {it S : Addr} {fp wr : List Addr} {G : Array GenState → Array GenState → Prop} {n : Nat} {P : Nat → Value → Prop} {St : Nat → Shared → Prop}
    (W : WalksS prog w A.in1 it fp wr G n P St) (far : S ∉ fp) (zs : List Str) (nd : zs.Nodup) (zn : zs.length = n) (few : n + 1 < scanBound) (val : ∀ i v, P i v → ∃ z t, zs[i]? = some z ∧ v = .str z t) (j : Nat) :
    ∀ (i : Nat) (s : Shared), i + j = n → St i s → s.heap.SetOf (PySem.strKind prog w) S (fun k => (zs.take i).any (· == k)) i →
      (∀ s', Moved (S :: wr) G s s' → s'.heap.SetOf (PySem.strKind prog w) S (fun k => (zs.take n).any (· == k)) n → R (.ok (.ret .none)) s') →
      codeAny (model prog w) A (.builtin "set.update.loop" ⟨[.ref S, .ref it], []⟩) R s := by
  have far' : S ∉ wr := fun q => far (W.sub _ q)
  have more : ∀ b ∈ wr, b ∈ S :: wr := fun _ q => List.mem_cons_of_mem _ q
  have keepS : ∀ {s s' : Shared} {f : Str → Bool} {m : Nat}, Moved wr G s s' → s.heap.SetOf (PySem.strKind prog w) S f m → s'.heap.SetOf (PySem.strKind prog w) S f m :=
    fun mv ⟨o, es, ep, t, ho, r⟩ => ⟨o, es, ep, t, mv.heap S _ far' ho, r⟩
  induction j with
  | zero =>
    intro i s hi st hS out
    obtain rfl : i = n := by omega
    refine codeAny_builtin PyProof.Rows.F.entry_set_update_loop ?_; rw [Around.under_plainId PyProof.Rows.F.plain_set_update_loop _]
    show wpAny _ A.in1 (pyNext (.ref it) >>= _) _ _ s; refine wpAny_bind (W.done s _ _ st fun s' mv => ?_)
    exact wpAny_pure (out s' (mv.mono more) (keepS mv hS))
  | succ j ih =>
    intro i s hi st hS out
    refine codeAny_builtin PyProof.Rows.F.entry_set_update_loop ?_; rw [Around.under_plainId PyProof.Rows.F.plain_set_update_loop _]
    show wpAny _ A.in1 (pyNext (.ref it) >>= _) _ _ s; refine wpAny_bind (W.item i s _ _ (by omega) st fun v s' hP st' mv => ?_)
    obtain ⟨z, t, ez, rfl⟩ := val i v hP
    have hS' := keepS mv hS
    show wpAny _ A.in1 (holding [Value.str z t] (setAdd S (.str z t)) >>= _) _ _ s'
    refine wpAny_bind (wpAny_holding ?_); unfold setAdd; refine wpAny_holding (wpAny_bind ((PySem.strKind prog w).pyHash (k := z) (strKind_is _ _ _ _) ?_))
    refine wpAny_setAddHashed_of (knd := PySem.strKind prog w) (s := { s' with toks := s'.toks + 1 }) (strKind_is _ _ _ _) rfl hS' (by omega) fun h' same new => ?_
    have new' : h'.SetOf (PySem.strKind prog w) S (fun k => (zs.take (i + 1)).any (· == k)) (i + 1) :=
      SetOf_congr new (fun k => take_has ez k) (by rw [take_no nd ez]; rfl)
    have other : ∀ b, b ≠ S → ∀ o, s'.heap.get? b = some o → h'.get? b = some o := fun b hb o e => (same.2 b hb).trans e
    refine wpAny_pure ⟨plainId_quiet PyProof.Rows.F.plain_set_update_loop _, ih (i + 1) _ (by omega) (W.frame _ s' _ _ st' (Nat.le_succ _) fun b hb o e => other b (fun q => far (q ▸ hb)) o e) new' fun s2 mv2 hS2 => ?_⟩
    exact out s2 (Moved.trans W.gtrans ((mv.mono more).then_heap (Nat.le_succ _) fun b o hb e => other b (fun q => hb (q ▸ List.mem_cons_self)) o e) mv2) hS2
end

section
variable {prog : Program} {w : World} {A : Around} {E : Value → Shared → Prop} {s : Shared}
abbrev bare (led : Bool) : Obj := { cls := .type "set", dict := none, data := .set #[] 0 (.fresh 0 0 led) }
set_option maxHeartbeats 3200000 in
theorem set_text {x : Str} {t : Tok} {Q : Value → Shared → Prop} (calm : A.handled = none) (nd : (signs x).Nodup) (few : x.cps.size + 1 < scanBound)
    (out : ∀ (h' : Heap) (tk : Nat), h'.SetOf (PySem.strKind prog w) s.heap.objs.size (fun k => ((signs x).take x.cps.size).any (· == k)) x.cps.size →
      (∀ b o, s.heap.get? b = some o → h'.get? b = some o) → Q (.ref s.heap.objs.size) { s with heap := h', toks := tk }) :
    wpAny (model prog w) A (call (.type "set") [.str x t]) Q E s := by
  obtain ⟨c, tl, hmro⟩ := PySem.F.called_set.mro
  have hmade := PySem.F.called_set.made
  have hsub := PySem.F.called_set.sub
  refine wpAny_call (codeAny_of_tree ?_); show wpAny _ _ (callAny (.type "set") _) _ _ _
  refine wpAny_pure ⟨Code.quiet_builtin _ (by decide +kernel), codeAny_builtin PySem.F.entry_type_call ?_⟩
  rw [Around.under_plain (weight_type_call_type "set" [.str x t] []) rfl]
  have h1 := PySem.F.called_set.notType
  have h2 := PySem.F.called_set.canCreate
  have hct := PySem.F.typeCall_set_1 (.str x t)
  repeat (any_goals (first | assumption | wp_step))
  refine codeAny_mono (code_set_new_1 (.str x t) (E := E) (Q₁ := fun v s1 => ∃ led : Bool, v = .ref s.heap.objs.size ∧ s1 = { s with heap := s.heap.push (bare led) }) fun led => ⟨led, rfl, rfl⟩) fun r s1 got => ?_
  rcases r with e | fl
  · exact got
  cases fl <;> first | exact got.elim | skip
  obtain ⟨led, rfl, rfl⟩ := got
  have hS : (s.heap.push (bare led)).get? s.heap.objs.size = some (bare led) := Heap.get?_push_size _ rfl
  have hT : Shared.TypeIs { s with heap := s.heap.push (bare led) } (.ref s.heap.objs.size) "set" := ⟨_, hS, rfl⟩
  have hli := PySem.F.called_set.init.lookup
  have hbi := PySem.F.called_set.init.bind (.ref s.heap.objs.size)
  repeat (any_goals (first | assumption | wp_step))
  refine codeAny_mono (codeAny_call_builtin (R := wants (fun r s2 => r = .none ∧ ∃ h' tk, s2 = { s with heap := h', toks := tk } ∧ h'.SetOf (PySem.strKind prog w) s.heap.objs.size (fun k => ((signs x).take x.cps.size).any (· == k)) x.cps.size ∧
      (∀ b o, s.heap.get? b = some o → h'.get? b = some o)) E) PySem.F.called_set.init.plain PySem.F.entry_set_init (check_set_init_1 hT ?_)) fun r2 s2 got2 => ?_
  · have e1 := PySem.F.sub_str_set
    have e2 := PySem.F.sub_str_frozenset
    unfold Builtin.«set.__init__» noKeywords Builtin.Frozenset.updateFrom
    generalize hPI : pyIter = PI
    wp_walk
    subst hPI
    refine wpAny_pyIter_str fun o St W st0 => wpAny_bind (wpAny_runValue ?_)
    have lt : s.heap.objs.size < (s.heap.push (bare led)).objs.size := by rw [Heap.size_push]; exact Nat.lt_succ_self _
    have apart : s.heap.objs.size ∉ [(s.heap.push (bare led)).objs.size] := fun q => absurd (List.mem_singleton.mp q) (Nat.ne_of_lt lt)
    refine fill ((W _ (by simp [calm])).toS) apart (signs x) nd (signs_len x) few (fun i v q => signAt q) x.cps.size 0 _ (Nat.zero_add _) st0 ?_ ?_
    · exact SetOf_congr ((setObjOf_fresh (knd := PySem.strKind prog w) led).setOf (Heap.get?_push_of_some _ hS) (by unfold scanBound; omega)) (fun _ => rfl) rfl
    · rintro ⟨h', g', d', tk', os'⟩ mv hS'
      obtain rfl : g' = s.gens := mv.gens
      obtain rfl : d' = s.drawn := mv.drawn
      obtain rfl : os' = s.os := mv.os
      refine wpAny_pure (wpAny_pure ⟨rfl, h', tk', rfl, hS', fun b o q => ?_⟩)
      have nb : b < s.heap.objs.size := Heap.lt_size q
      refine mv.heap b o ?_ (Heap.get?_push_of_some _ (Heap.get?_push_of_some _ q))
      intro m
      rcases List.mem_cons.mp m with e | m
      · exact absurd e (Nat.ne_of_lt nb)
      · exact absurd (List.mem_singleton.mp m) (Nat.ne_of_lt (Nat.lt_trans nb lt))
  · rcases r2 with e | fl2
    · exact got2
    cases fl2 <;> first | exact got2.elim | skip
    obtain ⟨rfl, h', tk, rfl, hS', keep⟩ := got2
    repeat (any_goals (first | assumption | wp_step))
    exact out _ _ hS' keep
end

section
variable {X : Cx}
/-- len(set(x)), x a text of few signs, none twice -/
def tLenSet (ta : TE) : TE := fun σ H Q => ta σ H fun v H1 => ∃ x : Str, v = .str x ∧ (signs x).Nodup ∧ x.cps.size ≤ 100 ∧ Q (.int x.cps.size) H1
theorem pe_lenSetT {a : Expr} {ta : TE} {p p2 q pos : Pos} (hc : X.calm = true) (g1 : Gl X "len") (m1 : X.mg "len" = none) (g2 : Gl X "set") (m2 : X.mg "set" = none) (ha : PE X a ta)
    (na : starEach [a] X.env = (false, eval a X.env) :: starEach [] X.env := by rfl) : PE X (.Call (.Name "len" p) [.Call (.Name "set" p2) [a] [] q] [] pos) (tLenSet ta) := by
  refine ⟨fun pins s σ H Q I h => Call_ (ld_blt I g1 m1 PySem.boot_len (callWith_builtin1 (args_cons (Call_ (ld_blt I g2 m2 boot_set (callWith_type1 (args_cons (thn (ha.run pins s σ H _ I h) ?_) na) na rfl))) rfl) rfl rfl))⟩
  rintro v s1 ⟨y, H1, I1, r1, x, rfl, nd, few, q1⟩
  obtain ⟨t, rfl⟩ := r1
  refine args_nil (set_text (I1.ok.hd hc) nd (by unfold scanBound; omega) fun h' tk hS keep => args_nil ?_)
  obtain ⟨o, es, ep, tb, ho, hex, hd, _, _, _, hf, hn⟩ := hS
  have I2 : Inv X pins σ H1 { s1 with heap := h', toks := tk } := I1.kept fun b o e => keep b o e
  exact call_len_set ho hex hd hf (by rw [hn]; omega) ⟨.int x.cps.size, H1, I2.tok _, ⟨_, by rw [hn]⟩, q1⟩
end
end Rg
set_option Elab.async false
set_option maxRecDepth 100000
/-! A def that is told that no repr runs around it; repr of data; the law's end with such a def. -/
namespace Rg
open PySem L2 PySem.Spec PyProof.Rows

/-- as FnOk, where nothing guards around the call -/
structure FnG (P : Program) (w : World) (K : PySem.W.Frag) (mg : Str → Option Value) (base : Heap) (CX : CXT) (k : Nat) (f : Addr) (fd : FuncData) (ps : List Str) (sp : Sp) : Prop where
  len : ∀ vs H Q E, sp vs H Q E → vs.length = ps.length
  run : ∀ (A : Around) (outer : List Env) (s : Shared) (H : Hp) (args : Args) (us : List Value) (vs : List V) (Q : VK) (E : XK), A.guards = some [] → Room k A → Env0 P w K mg base A outer s H → BindsTo s fd args (ps.zip us) → Vals vs us → sp vs H Q E →
    codeAny (model P w) A (.call (.ref f) args) (CR CX outer P w H s Q E) s

section
variable {P : Program} {w : World} {K : PySem.W.Frag} {mg : Str → Option Value} {base : Heap}
theorem funG {x qual : Str} {st : Stmt} {f : Addr} {fd : FuncData} {N ps : List Str} {k : Nat} {sp : Sp} (F : Fun K x qual st f fd) (S : FnScope N ps (defScope st)) (len : ∀ vs H Q E, sp vs H Q E → vs.length = ps.length)
    (body : ∀ (cdv : Value) (A : Around) (outer : List Env) (s : Shared) (H : Hp) (vs : List V) (Q : VK) (E : XK), A.guards = some [] → Room k (A.deeper (envOfC qual (defScope st) s.heap.objs.size f cdv)) → sp vs H Q E →
      ∃ t, PSs (cxOf CX0 P w K mg base N qual (defScope st) f cdv A outer s H E).nox (defBody st) t ∧ t { nx := fun _ H' => Q .non H', rt := Q } (start N vs) H) : FnG P w K mg base CX0 (k + 1) f fd ps sp := by
  obtain ⟨oc, od, kV, doc, pm, an, cdv, ct, osl, rfl, lk, hcd⟩ := F.ex
  refine ⟨len, fun A outer s H args us vs Q E hg hr e0 hb r want => ?_⟩
  have there : ∀ b o, base.get? b = some o → s.heap.get? b = some o := fun b o e => (e0.bs b o e).1
  have KX := e0.mod.kin.keeps there
  have kinds : ∀ y ∈ ps.zip us, (defScope st).names.lookup y.1 = some .local ∨ ((defScope st).names.lookup y.1 = some .cell ∧ ((cellsFrom (s.heap.objs.size + 1) (defScope st).names []).lookup y.1).isSome = true) := by
    rintro ⟨n, v⟩ hy
    rcases S.par n (List.of_mem_zip hy).1 with q | q
    · exact Or.inl q
    · exact Or.inr ⟨q, PySem.W.cellsFrom_some _ _ _ (Or.inl q)⟩
  refine codeAny_call_function hr.depth (KX _ _ lk) rfl S.co S.gen rfl (PySem.W.codeRec_of KX hcd) (hb _ _ _ _ (wpAny_newFunctionEnv_cells S.kind kinds ?_))
  intro env he s1 x
  subst he
  obtain ⟨t, ht, q⟩ := body cdv A outer s H vs Q E hg (hr.deeper _) want
  have I : Inv (cxOf CX0 P w K mg base N qual (defScope st) f cdv A outer s H E) [] (start N vs) H s1 := inv_start S hr.hd e0 (len _ _ _ _ want) r x
  refine ⟨(e0.mod.nolimit.keeps there).keeps x.toInCall.keep, codeAny_func (wpAny_mono (ht.nox.run [] s1 (start N vs) H _ I q) ?_ fun _ _ z => z)⟩
  intro fl s2 out
  cases fl with
  | ret u => obtain ⟨v, _, H2, J, rv, q2⟩ := out; exact ⟨v, H2, J.os, J.bare, J.base, J.hok, rv, q2⟩
  | next => obtain ⟨_, H2, J, q2⟩ := out; exact ⟨V.non, H2, J.os, J.bare, J.base, J.hok, rfl, q2⟩
  | brk => obtain ⟨_, _, _, q2⟩ := out; exact q2.elim
  | cont => obtain ⟨_, _, _, q2⟩ := out; exact q2.elim
end

section
variable {X : Cx} {CX : CXT} {k : Nat} {f : Addr} {fd : FuncData} {ps : List Str} {sp : Sp} {E : XK} {x : Str} {p pos : Pos} {e : Expr} {es : List Expr} {t : TA}
/-- f(e, ..), f such a def -/
theorem pe_callG (hg0 : X.A.guards = some []) (F : FnG X.prog X.w X.K X.mg X.base CX k f fd ps sp) (hr : Room k X.A) (hg : Gl X x) (hm : X.mg x = some (.ref f)) (hk : PySem.W.keepIn X.K (.ref f) = true) (bd : Binds X.K fd ps []) (ex : Passes CX X E)
    (ha : PA X (e :: es) t) (hdb : (x == ("__debug__" : Str)) = false := by decide) (he : starEach (e :: es) X.env = (false, eval e X.env) :: starEach es X.env := by rfl) (hpl : (backTo pos (starEach es X.env)).any (·.1) = false := by rfl) :
    PE X (.Call (.Name x p) (e :: es) [] pos) (tCall sp [] E t) := by
  refine ⟨fun pins s σ H Q I h => wpAny_Call_Name_kw (ld_glob I hg hm (PySem.W.callWith_K (h₀ := X.base) I.ok.mod.kin hk (thn (ha.run pos pins s σ H _ I h) ?_) he hpl) hdb)⟩
  rintro us s1 ⟨vs, H1, I1, r, want⟩
  rw [List.append_nil] at want
  refine ⟨I1.kIn, ?_⟩
  have len : us.length = ps.length := r.length.symm.trans (F.len _ _ _ _ want)
  have bt : BindsTo s1 fd ⟨us, []⟩ (ps.zip us) := by
    have z := bd s1 us I1.kIn (by rw [List.append_nil]; exact len)
    rw [List.append_nil] at z
    exact z
  refine wpAny_call (codeAny_mono (F.run X.A X.stack s1 H1 ⟨us, []⟩ us vs Q E hg0 hr I1.env0 bt r want) fun res s' got => ?_)
  rcases res with er | fl
  · exact ex pins σ H1 s1 er s' I1 got
  · cases fl <;> first | exact I1.after got | exact False.elim got
end

/-! ### repr -/
section
/-- how a value of the layer reads as data: no dict, no object of one's own -/
inductive Rp (K : PySem.W.Frag) (H : Hp) : V → PyData → Prop
  | non : Rp K H .non .none
  | bl (b) : Rp K H (.bl b) (.bool b)
  | int (i) : Rp K H (.int i) (.int i)
  | str (x) : Rp K H (.str x) (.str x)
  | lst {a xs ds} : SqL K H a xs → Paired (Rp K H) xs ds → Rp K H (.ref a) (.list ds)
  | tup {a xs ds} : SqT K H a xs → Paired (Rp K H) xs ds → Rp K H (.ref a) (.tuple ds)
variable {X : Cx} {pins : List (Addr × Obj)} {σ : L2.St} {H : Hp} {s : Shared}
mutual
theorem Rp.reads (I : Inv X pins σ H s) : ∀ {v : V} {d : PyData} {u : Value}, Rp X.K H v d → RelV v u → ∃ as, Reads s.heap u d as
  | _, _, _, .non, r => by cases r; exact ⟨_, .none⟩
  | _, _, _, .bl b, r => by cases r; exact ⟨_, .bool b⟩
  | _, _, _, .int i, r => by obtain ⟨t, rfl⟩ := r; exact ⟨_, .int i t⟩
  | _, _, _, .str x, r => by obtain ⟨t, rfl⟩ := r; exact ⟨_, .str x t⟩
  | _, _, _, .lst h all, r => by
    cases r
    obtain ⟨its, rv, ⟨o, n, eo, hc, _, hd⟩, _⟩ := I.list h
    obtain ⟨as, ra⟩ := Rp.readsAll I all rv
    exact ⟨_, .list eo hc hd ra⟩
  | _, _, _, .tup h all, r => by
    cases r
    obtain ⟨its, rv, ⟨o, eo, hc, n, hd⟩, _⟩ := I.tuple h
    obtain ⟨as, ra⟩ := Rp.readsAll I all rv
    exact ⟨_, .tuple eo hc hd ra⟩
theorem Rp.readsAll (I : Inv X pins σ H s) : ∀ {vs : List V} {ds : List PyData} {us : List Value}, Paired (Rp X.K H) vs ds → Vals vs us → ∃ as, ReadsAll s.heap us ds as
  | _, _, _, .nil, .nil => ⟨_, .nil⟩
  | _, _, _, .cons a b, .cons r t => by
    obtain ⟨as, h1⟩ := Rp.reads I a r
    obtain ⟨bs, h2⟩ := Rp.readsAll I b t
    exact ⟨_, .cons h1 h2⟩
end
/-- repr(v), v a list of data -/
def rRepr (K : PySem.W.Frag) : List V → Hp → VK → Prop := fun vs H Q => ∃ a d, vs = [.ref a] ∧ Rp K H (.ref a) d ∧ d.showable = true ∧ d.hasDict = false ∧ d.depth ≤ 20 ∧ d.shown.length ≤ sizeLine ∧ Q (.str d.shown) H
theorem cr_repr (hg : X.A.guards = some []) (hr : Room 0 X.A) : CallR X (.builtin "repr") (rRepr X.K) := by
  rintro pins s σ H xs us Q I r ⟨a, d, rfl, rd, h1, h2, h3, h4, q⟩
  cases r with
  | cons r0 r1 =>
    cases r1
    obtain ⟨as, R⟩ := Rp.reads I rd r0
    cases r0
    refine repr_of_reads' R h1 (fun z => absurd (h2.symm.trans z) Bool.false_ne_true) hg (by have := hr.un; omega) (fun _ _ e => e) (fun h' u tk keep => ?_) h4
    exact ⟨.str d.shown, H, I.kept keep, ⟨u, rfl⟩, q⟩
end

/-! ### the law's end -/
theorem lawG {P : Program} {w : World} {K : PySem.W.Frag} {mg mb : Str → Option Value} {k : Nat} {fa a : Addr} {fd : FuncData} {x : Str} {sp : Sp} {s₁ : Shared} {vs : List Value} {ns : List Int}
    (KX : K.In s₁.heap) (hns : s₁.heap.Ns mainGlobals mg) (hb : s₁.heap.Ns builtinsNs mb) (hbb : ∀ x : Str, x ≠ "__name__" → mb x = bootBuiltins x) (hlim : s₁.heap.NoLimit) (hg : s₁.gens = #[])
    (ha : s₁.heap.get? a = some { cls := .type "list", data := .seq vs.toArray }) (hi : IntsAre vs ns) (hl : ns.length ≤ sizeLine) (hr : Room k callerA)
    (F : ∀ base : Heap, K.In base → base.Ns mainGlobals mg → FnG P w K mg base CX0 k fa fd [x] sp) (bind : ∀ (s : Shared) (u : Value), BindsTo s fd ⟨[u], []⟩ [(x, u)])
    (want : ∀ H : Hp, Only H → SqL K H a (ns.map V.int) → sp [.ref a] H (fun v _ => v = .bl true) fun _ _ _ => False) :
    codeAny (model P w) callerA (.call (.ref fa) ⟨[.ref a], []⟩) (fun r s' => r = .ok (.ret (.bool true)) ∧ OldK s₁.heap s'.heap ∧ s'.os = s₁.os ∧ AllBare s'.gens) s₁ := by
  have rv := vals_ints hi
  have ln := hi.length
  -- H tracks the script at most
  have main : ∀ H : Hp, Only H → SqL K H a (ns.map V.int) → HOk P w H s₁.heap → (∀ b, H b ≠ none → b = a ∧ K.lookup a = none) →
      codeAny (model P w) callerA (.call (.ref fa) ⟨[.ref a], []⟩) (fun r s' => r = .ok (.ret (.bool true)) ∧ OldK s₁.heap s'.heap ∧ s'.os = s₁.os ∧ AllBare s'.gens) s₁ := by
    intro H only seq hok few
    have none_of : ∀ {b : Addr}, ¬ (b = a ∧ K.lookup a = none) → H b = none := fun {b} z => Decidable.by_contra fun q => z (few b q)
    have dicts : ∀ {b : Addr} {m : Str → Option Value}, s₁.heap.Ns b m → (hidT s₁.heap H).Ns b m := by
      rintro b m ⟨o, es, ep, e, d, r⟩
      refine ⟨o, es, ep, hidT_get e (none_of ?_), d, r⟩
      rintro ⟨rfl, _⟩
      cases ha.symm.trans e
      cases d
    have KB : K.In (hidT s₁.heap H) := fun b o e => hidT_get (KX b o e) (none_of (by
      rintro ⟨rfl, z⟩
      cases z.symm.trans e))
    have M : Mod K mg (hidT s₁.heap H) := ⟨KB, dicts hns, ⟨mb, dicts hb, hbb⟩, let ⟨mc, h1, h2⟩ := hlim; ⟨mc, dicts h1, h2⟩⟩
    have none0 : ∀ b, b ∉ frs ([] : List Env) := fun b => by unfold frs; simp
    have e0 : Env0 P w K mg (hidT s₁.heap H) callerA [] s₁ H := ⟨rfl, M, fun b o e => of_hidT e, Nat.le_of_eq (hidT_size _ _), trivial, fun b q => absurd q (none0 b), hok, .of_eq hg⟩
    refine codeAny_mono ((F _ KB (dicts hns)).run callerA [] s₁ H ⟨[.ref a], []⟩ [.ref a] [.ref a] _ _ rfl hr e0 (bind s₁ (.ref a)) (.cons rfl .nil) (want H only seq)) fun r s' got => ?_
    rcases r with er | fl
    · exact False.elim got
    cases fl <;> first | exact False.elim got | skip
    obtain ⟨v, H', os, bare, un, hok', r', q⟩ := got
    subst q
    cases r'
    refine ⟨rfl, OldK.of_keep fun b o e => ?_, os, bare⟩
    rcases only b with z | ⟨ob, xs, z⟩
    · exact un.keep b o e z (none0 b) (by simp)
    · obtain ⟨e1, _⟩ := hok b _ z
      obtain ⟨e2, _⟩ := hok' b _ (un.frzs b ob _ z)
      cases e1.symm.trans e
      exact e2
  cases hk : K.lookup a with
  | some o =>
    have e := KX a o hk
    cases ha.symm.trans e
    exact main (fun _ => none) (fun _ => Or.inl rfl) (Or.inr ⟨_, vs.toArray, _, hk, rfl, rfl, rfl, by rw [List.size_toArray, ln]; exact hl, by simpa using rv⟩) (fun b u z => by cases (show (none : Option HO) = some u from z)) fun b z => absurd rfl z
  | none =>
    let ob : Obj := { cls := .type "list", data := .seq vs.toArray }
    have at_ : ∀ {b : Addr} {u : HO}, (if b = a then some (HO.frz ob (.lst (ns.map V.int))) else none) = some u → b = a ∧ u = HO.frz ob (.lst (ns.map V.int)) := by
      intro b u z
      by_cases q : b = a
      · rw [if_pos q] at z; exact ⟨q, (Option.some.inj z).symm⟩
      · rw [if_neg q] at z; cases z
    refine main (fun b => if b = a then some (.frz ob (.lst (ns.map V.int))) else none) (fun b => ?_) (Or.inl (Or.inr ⟨ob, if_pos rfl⟩)) (fun b u z => ?_) (fun b z => ?_)
    · by_cases q : b = a
      · exact Or.inr ⟨_, _, if_pos q⟩
      · exact Or.inl (if_neg q)
    · obtain ⟨rfl, rfl⟩ := at_ z
      exact ⟨ha, by rw [List.length_map]; exact hl, vs, _, rv, ha⟩
    · cases q : (if b = a then some (HO.frz ob (.lst (ns.map V.int))) else none) with
      | none => exact absurd q z
      | some u => exact ⟨(at_ q).1, hk⟩
theorem walkG {l : PySem.W.OpenLaw} {n k : Nat} {q : Program} {loose : List Str} {XP : (Str → Option Value) → Heap → Prop} {YP : World → Heap → Prop} {d : DefRec} {K : Params → PySem.W.Frag} {sp : World → Sp} {x : Str}
    (hn : l.most = some n) (hn2 : n ≤ sizeLine) (hdf : d.params.defaults = []) (hr : Room k callerA) (hY : ∀ (w : World) (h : Heap), YP w h → (K w.params).In h)
    (F : ∀ (w : World) (mg : Str → Option Value) (fa : Addr) (h : Heap), (K w.params).In h → h.Ns mainGlobals mg → mg d.name = some (.ref fa) →
      ∃ fd : FuncData, (∀ (s : Shared) (u : Value), BindsTo s fd ⟨[u], []⟩ [(x, u)]) ∧ ∀ base : Heap, (K w.params).In base → base.Ns mainGlobals mg → FnG l.prog w (K w.params) mg base CX0 k fa fd [x] (sp w))
    (want : ∀ (w : World) (H : Hp) (a : Addr) (ns : List Int), ns.length ≤ n → (∀ z ∈ ns, Builtin.Int.intBits z ≤ 1048576) → Only H → SqL (K w.params) H a (ns.map V.int) → sp w [.ref a] H (fun v _ => v = .bl true) fun _ _ _ => False) :
    PySem.W.WalkO q loose XP YP l.row.toRowW d [] (fun f vs => PySem.call f vs) := by
  refine Att.attach_callB hn hdf fun w s₀ s₁ mg mb fa o pm cd doc a vs ns G Y ho hd hcd hmg hobj hints hlen hbits hg => ?_
  obtain ⟨fd, hb, hF⟩ := F w mg fa _ (hY w _ Y) G.T.g hmg
  exact lawG (hY w _ Y) G.T.g G.T.b G.T.builtins G.T.nolimit hg hobj hints (Nat.le_trans hlen hn2) hr hF hb fun H only seq => want w H a ns hlen hbits only seq
end Rg
set_option Elab.async false
set_option maxRecDepth 100000
set_option autoImplicit false
/-! An error class of the program whose __init__ hands a text to the one above and keeps its fields. -/
namespace Er
open PySem L2 PySem.Spec PyProof.Rows PySem.Calls
abbrev veInit : String := "ValueError.__init__"
section
variable {prog : Program} {w : World} {A : Around} {E : Value → Shared → Prop} {K : PySem.W.Frag} {h : Heap} {g : Array GenState} {d : Drawn} {t : Nat} {os : OsState}
variable {nm q : Str} {C N : Addr} {bs bm : List Value} {sn : List Str} {sub : List Value} {ab : Bool} {col : Option Bool} {dd : Option Addr} {k0 k1 k2 k3 k5 : Option Value}
/-- the bound wrapper is called: the args are laid, else all stays -/
theorem wrapCall {u e t0 : Addr} {rest : List Value} {Q : Value → Shared → Prop} (hC : h.get? C = some (excClassObj nm q C N bs bm true sn sub ab col dd k0 k1 k2 k3 k5 "ValueError.__new__"))
    (hu : h.get? u = some (PySem.W.kxs_mw veInit e)) (he : h.get? e = some (PySem.HandSPX.excO C t0)) (few : rest.length ≤ sizeLine)
    (go : ∀ h' t1, (∀ b o, b ≠ e → h.get? b = some o → h'.get? b = some o) → h'.get? e = some (PySem.HandSPX.excO C t1) → Q .none ⟨h', g, d, t, os⟩) : wpAny (model prog w) A (call (.ref u) rest) Q E ⟨h, g, d, t, os⟩ := by
  refine wpAny_call (codeAny_of_tree ?_)
  show wpAny (model prog w) A.in1 (callAny (.ref u) ⟨rest, []⟩) _ _ _
  simp only [callAny]
  refine wpAny_bind (wpAny_load hu ?_)
  have k1' : (Value.type "method-wrapper" == Value.type "method" || Value.type "method-wrapper" == Value.type "builtin_function_or_method" || Value.type "method-wrapper" == Value.type "method-wrapper") = true := by decide
  simp only [k1', if_true]
  refine PySem.W.KFB.if_so (by decide) (wpAny_bind ?_)
  refine PySem.W.check_bound_init PySem.F.excBase_ValueError.toExcCallFacts hC he rfl (wpAny_bind (wpAny_pure (wpAny_pure ⟨plainId_quiet PySem.F.excBase_ValueError.init.plain _, codeAny_builtin PySem.F.excBase_ValueError.initEntry ?_⟩)))
  refine PySem.W.exc_init_tree (cls := .ref C) (t0 := t0) (dv := none) (c2 := .none) (c3 := .none) (b4 := .bool false) he few fun h' a b _ => go h' _ a b
/-- what is written of such a class, and of its __init__ at fI, whose cell is at cc, whose code at cda -/
structure ErrC (prog : Program) (K : PySem.W.Frag) (C fI cc cda : Addr) : Prop where
  cls : ∃ nm q N bs bm sn sub ab col dd k0 k1 k2 k3 k5, K.lookup C = some (excClassObj nm q C N bs bm true sn sub ab col dd k0 k1 k2 k3 k5 "ValueError.__new__") ∧ PySem.HandSPX.refsVE bm = true
  sup : PySem.W.ks_superIn K C C "__init__" = some (some (.builtin veInit))
  any_ : PySem.W.nsIn K cStatics "thirdparty.any" = some none
  ve : PySem.W.subIn K (.ref C) (.type "ValueError") = some true
  self_ : PySem.W.mroIn K C (.ref C) = some true
  cell : ∃ cl cld csl, K.lookup cc = some ⟨cl, cld, .cell (some (.ref C)), csl⟩
  code : ∃ ccl cdd vs ccs file tf, K.lookup cda = some ⟨ccl, cdd, .fields vs, ccs⟩ ∧ vs[2]? = some (.str file tf) ∧ ((prog.main.file : Str) == file) = true
  top : (prog.main.scope.names.lookup ("super" : Str)).isSome = false
/-- super().__init__("..") -/
theorem superLine {fI cc cda x L t0 : Addr} {fd : FuncData} {oc : Value} {od : Option Addr} {osl : Array (Option Value)} {ar : Arg} {m mg mb : Str → Option Value} {qual msg : Str} {scope : Scope} {body : List Stmt} {j : Nat} {p0 p1 p2 p3 p4 p5 : Pos} {pl : Sem Bool} {Q : Flow → Shared → Prop}
    (T : ErrC prog K C fI cc cda) (X : K.In h) (lk : K.lookup fI = some ⟨oc, od, .func fd, osl⟩) (hp : (fd.params.posonlyargs ++ fd.params.args).head? = some ar) (hks : scope.names.lookup ("super" : Str) = some .globalImplicit) (hkc : scope.names.lookup ("__class__" : Str) = some .free)
    (hka : scope.names.lookup ar.arg = some .local) (hk : scope.kind = .function) (hns : h.Ns L m) (hself : m ar.arg = some (.ref x)) (hx : h.get? x = some (PySem.HandSPX.excO C t0)) (gl : h.Ns mainGlobals mg) (gs : mg "super" = none) (bl : h.Ns builtinsNs mb) (bb : mb "super" = bootBuiltins "super")
    (go : ∀ h' tk t1, (∀ b o, b ≠ x → h.get? b = some o → h'.get? b = some o) → h'.get? x = some (PySem.HandSPX.excO C t1) → Q .next ⟨h', g, d, tk, os⟩)
    (he : eval (.Call (.Attribute (.Call (.Name "super" p0) [] [] p1) "__init__" p2) [.Constant (.str msg) j p3] [] p4) (PySem.W.ksEnv qual scope L fI (.ref cda) cc) = (do
        let ov ← attributeBase (.Call (.Name "super" p0) [] [] p1) "__init__" (PySem.W.ksEnv qual scope L fI (.ref cda) cc) (eval (.Call (.Name "super" p0) [] [] p1) (PySem.W.ksEnv qual scope L fI (.ref cda) cc))
        standAt p2.atName
        let (f, first) ← holding [ov] (getMethod ov "__init__" pl)
        callWith p4 f first (backTo p4 (starEach [.Constant (.str msg) j p3] (PySem.W.ksEnv qual scope L fI (.ref cda) cc))) []) := by rfl)
    (hi : interactive (PySem.W.ksEnv qual scope L fI (.ref cda) cc) = false := by rfl) (hsw : swapsWith (.Call (.Attribute (.Call (.Name "super" p0) [] [] p1) "__init__" p2) [.Constant (.str msg) j p3] [] p4) none p5.line (PySem.W.ksEnv qual scope L fI (.ref cda) cc) = pure false := by rfl) :
    _root_.PySem.wpAt (model prog w) A (.func body (PySem.W.ksEnv qual scope L fI (.ref cda) cc)) (exec (.Expr (.Call (.Attribute (.Call (.Name "super" p0) [] [] p1) "__init__" p2) [.Constant (.str msg) j p3] [] p4) p5) (PySem.W.ksEnv qual scope L fI (.ref cda) cc)) Q E ⟨h, g, d, t, os⟩ := by
  obtain ⟨nm, q, N, bs, bm, sn, sub, ab, col, dd, k0, k1, k2, k3, k5, hC, hbm⟩ := T.cls
  obtain ⟨ccl, cdd, vs, ccs, file, tf, hcode, hvs, hfile⟩ := T.code
  obtain ⟨cl, cld, csl, hcell⟩ := T.cell
  have hcd : ∃ cd, PySem.W.clsIn K C = some cd ∧ PySem.W.alongIn K "__init__" ((cd.mro.dropWhile (· != .ref C)).drop 1) = some (some (.builtin veInit)) := Option.bind_eq_some_iff.mp T.sup
  obtain ⟨cd, hcd, along⟩ := hcd
  have I0 : PySem.W.InstAt h x (PySem.HandSPX.excO C t0) C none := ⟨hx, rfl, rfl, trivial⟩
  have ne : x ≠ C := PySem.W.ks_ne X I0 hcd
  refine PySem.ks_wpAt_Expr_any (PySem.ks_wpAt_MethodCall (PySem.ks_wpAt_super_base (env := PySem.W.ksEnv qual scope L fI (.ref cda) cc) hks hkc (by decide) rfl (X _ _ lk) rfl hp rfl (X _ _ hcode) rfl hvs hfile T.top ?_) he) hi hsw
  refine PySem.W.ks_loadName_global hk hks (loadGlobal_builtin (env := PySem.W.ksEnv qual scope L fI (.ref cda) cc) gl gs bl (bb.trans (by decide +kernel : bootBuiltins "super" = some (.type "super"))) ⟨rfl, ?_⟩)
  refine wpAny_loadName_free hk hkc rfl ⟨_, X _ _ hcell, rfl⟩ (wpAny_loadName_local hk hka hns hself (PySem.ks_wpAny_isType_cls (X _ _ hC) rfl ⟨rfl, ?_⟩))
  refine PySem.ks_wpAny_call_super (X _ _ hC) rfl hx rfl (fun c e => by cases e) (PySem.W.looks_mroIn X T.self_) (fun h1 hso keep => ?_)
  have X1 := X.keeps keep
  have hx1 := keep _ _ hx
  have I1 : PySem.W.InstAt h1 x (PySem.HandSPX.excO C t0) C none := ⟨hx1, rfl, rfl, trivial⟩
  refine PySem.W.kxs_getMethod PySem.W.kxs_ValueError hso (PySem.W.looks_opaque X1 T.any_) (l₀ := cd.mro) (fun A Q E s k q => wpAny_bind (PySem.W.looks_clsIn X1 hcd A _ E s k (wpAny_pure q))) rfl X1 along (I1.type.andThen (PySem.W.looks_subIn X1 T.ve)) ne (by decide) ?_
  have hu : (h1.push (PySem.W.kxs_mw veInit x)).get? h1.objs.size = some (PySem.W.kxs_mw veInit x) := by heap_get
  have k2 : ∀ b o, h1.get? b = some o → (h1.push (PySem.W.kxs_mw veInit x)).get? b = some o := fun b o e => Heap.get?_push_of_some _ e
  refine PySem.W.kxs_callWith (i := veInit) (x := x) rfl (evalArgs_plain (spliced_cons (@Constant_str _ _ _ _ _ _ j p3 _ (spliced_nil ⟨hu, ?_⟩))))
  have keep2 : ∀ b o, h.get? b = some o → (h1.push (PySem.W.kxs_mw veInit x)).get? b = some o := fun b o e => k2 b o (keep b o e)
  refine wrapCall (X.keeps keep2 _ _ hC) hu (keep2 _ _ hx) (by show 1 ≤ sizeLine; decide) fun h' t1 k3 hx' => ?_
  exact (go h' _ t1 (fun b o n e => k3 b o n (keep2 b o e)) hx')
end
end Er
set_option Elab.async false
set_option maxRecDepth 100000
set_option autoImplicit false
namespace Er
open PySem L2 PySem.Spec PyProof.Rows PySem.Calls
/-! ### such an __init__ as a def of the hand's layer -/
theorem lookup_mem {α : Type} {x : Str} {u : α} : ∀ {l : List (Str × α)}, (l.map (·.1)).Nodup → (x, u) ∈ l → l.lookup x = some u
  | [], _, h => absurd h List.not_mem_nil
  | (y, v) :: r, nd, h => by
    rw [List.map_cons, List.nodup_cons] at nd
    rcases List.mem_cons.mp h with e | h'
    · cases e
      simp [List.lookup]
    · have ne : x ≠ y := by
        rintro rfl
        exact nd.1 (List.mem_map.mpr ⟨(_, u), h', rfl⟩)
      have e : (x == y) = false := by simpa using ne
      simp only [List.lookup, e]
      exact lookup_mem nd.2 h'
theorem zip_rev {ps : List Str} {us : List Value} {i : Nat} {x : Str} {u : Value} (nd : ps.Nodup) (l : us.length = ps.length) (h1 : ps[i]? = some x) (h2 : us[i]? = some u) : (ps.zip us).reverse.lookup x = some u := by
  refine lookup_mem ?_ (List.mem_reverse.mpr ?_)
  · rw [List.map_reverse, List.map_fst_zip (by omega)]
    unfold List.Nodup
    rw [List.pairwise_reverse]
    exact nd.imp fun h => h.symm
  · refine List.mem_of_getElem? (i := i) ?_
    rw [List.getElem?_zip_eq_some]
    exact ⟨h1, h2⟩
def exX (P : Program) (w : World) (K : PySem.W.Frag) (mg : Str → Option Value) (base : Heap) (N : List Str) (qual : Str) (scope : Scope) (f cda cc : Addr) (A : Around) (outer : List Env) (s : Shared) (H : Hp) : Cx where
  prog := P
  w := w
  K := K
  mg := mg
  base := base
  A := A.deeper (PySem.W.ksEnv qual scope s.heap.objs.size f (.ref cda) cc)
  N := N
  s_0 := s
  H_0 := H
  env := PySem.W.ksEnv qual scope s.heap.objs.size f (.ref cda) cc
  outer := outer
  stack := PySem.W.ksEnv qual scope s.heap.objs.size f (.ref cda) cc :: outer
  ex := []
  calm := true
  fn := fun _ => false
  pn := []
  xe := fun _ _ => False
/-- the scope of such an __init__ -/
structure ErrS (ps : List Str) (scope : Scope) : Prop where
  kind : scope.kind = .function
  nd : ps.Nodup
  par : ∀ x ∈ ps, scope.names.lookup x = some .local
  nocell : ∀ x ∈ scope.names, x.2 ≠ .cell
  sup : scope.names.lookup ("super" : Str) = some .globalImplicit
  cls : scope.names.lookup ("__class__" : Str) = some .free
  free : ∀ x, scope.names.lookup x = some .free → x = "__class__"
  self_ : ps[0]? = some ("self" : Str)
  co : scope.isCoroutine = false
  gen : scope.isGenerator = false
section
variable {P : Program} {w : World} {K : PySem.W.Frag} {mg : Str → Option Value} {base : Heap}
theorem start_inv {ps : List Str} {qual : Str} {scope : Scope} {C f cda cc : Addr} {A : Around} {outer : List Env} {s : Shared} {H : Hp} {us : List Value} {vs : List V} {h0 : Heap} {tk : Nat} (S : ErrS ps scope) (T : ErrC P K C f cc cda) (hd : A.handled = none) (e0 : Env0 P w K mg base A outer s H)
    (hl : vs.length = ps.length) (r : Vals vs us) (hns : h0.Ns s.heap.objs.size (fun x => (ps.zip us).reverse.lookup x)) (keep : ∀ b o, s.heap.get? b = some o → h0.get? b = some o) :
    Inv (exX P w K mg base ps qual scope f cda cc A outer s H) [] (L2.start ps vs) H { s with heap := h0, toks := tk } := by
  obtain ⟨cl, cld, csl, hcell⟩ := T.cell
  have bc := e0.mod.kin _ _ hcell
  have one : ∀ {x : Str} {c : Addr}, ([(("__class__" : Str), cc)] : List (Str × Addr)).lookup x = some c → x = "__class__" ∧ c = cc := by
    intro x c e
    by_cases q : x = "__class__"
    · subst q
      have z : some cc = some c := e
      exact ⟨rfl, (Option.some.inj z).symm⟩
    · have q2 : (x == ("__class__" : Str)) = false := by simpa using q
      simp [List.lookup, q2] at e
  have noex : ∀ b : Addr, b ∉ (exX P w K mg base ps qual scope f cda cc A outer s H).ex := fun b z => absurd (show b ∈ ([] : List Addr) from z) (by simp)
  refine ⟨⟨e0.mod, S.kind, rfl, rfl, Nat.le_refl _, fun x y c h1 h2 => ?_, fun x hx => ?_, fun x c z _ => absurd (show false = true from z) Bool.false_ne_true, fun _ => hd, Around.frames_deeper e0.frames, .inr ⟨rfl, rfl⟩, fun b z => absurd z (noex b), e0.bs, e0.bsz, fun b _ _ => noex b, fun b z => absurd z (noex b), e0.funs, e0.frf⟩,
    rfl, e0.bare, Un.kept keep, ⟨_, hns, fun i x v h1 h2 h3 => ?_⟩, fun x c h => ?_, e0.hok.fresh (Nat.le_refl _), fun x c h => ?_, fun p hp => absurd (show p ∈ ([] : List (Addr × Obj)) from hp) (by simp), e0.hok.kept keep, ?_⟩
  · exact (one h1).1.trans (one h2).1.symm
  · have hx' : scope.names.lookup x = some .cell ∨ scope.names.lookup x = some .free := hx
    rcases hx' with z | z
    · exact absurd rfl (S.nocell _ (PySem.mem_of_lookup z))
    · refine ⟨cc, ?_⟩
      show ([(("__class__" : Str), cc)] : List (Str × Addr)).lookup x = some cc
      rw [S.free x z]
      rfl
  · have hi : i < vs.length := by
      have q := (List.getElem?_eq_some_iff.mp h1).1
      have q : i < ps.length := q
      omega
    have ha : vs[i]? = some v := by
      unfold L2.start at h2
      rw [List.getElem?_append_left (by simpa using hi), List.getElem?_map] at h2
      cases e : vs[i]? with
      | none => rw [e] at h2; cases h2
      | some a => rw [e] at h2; cases h2; rfl
    obtain ⟨u, hu, rv⟩ := r.get ha
    have hp : ps[i]? = some x := h1
    exact ⟨u, rv, .inl ⟨S.par x (List.mem_of_getElem? hp), zip_rev S.nd (r.length.symm.trans hl) hp hu⟩⟩
  · obtain ⟨_, rfl⟩ := one h
    exact ⟨_, _, keep _ _ (e0.bs _ _ bc).1, rfl⟩
  · obtain ⟨_, rfl⟩ := one h
    exact (e0.bs _ _ bc).2
  · unfold L2.start
    show _ = ps.length
    rw [List.length_append, List.length_map, List.length_replicate]
    omega
end
end Er
set_option Elab.async false
set_option maxRecDepth 100000
set_option autoImplicit false
namespace Er
open PySem L2 PySem.Spec PyProof.Rows PySem.Calls
section
variable {P : Program} {w : World} {K : PySem.W.Frag} {mg : Str → Option Value} {base : Heap}
theorem ok_err {ps : List Str} {name qual msg : Str} {params : Arguments} {body rest : List Stmt} {scope : Scope} {C f cda cc : Addr} {oc dV kV doc pm ct : Value} {od an : Option Addr} {osl : Array (Option Value)} {ar : Arg} {sp : Sp} {j : Nat} {p0 p1 p2 p3 p4 p5 : Pos} {pl : Sem Bool}
    (T : ErrC P K C f cc cda) (S : ErrS ps scope) (lk : K.lookup f = some ⟨oc, od, .func (PySem.W.ksFn name qual params body scope dV kV doc pm an (.ref cda) ct cc), osl⟩) (hcd : PySem.W.codeIn K (.ref cda) qual = true) (gs : mg "super" = none)
    (hp : (params.posonlyargs ++ params.args).head? = some ar) (har : ar.arg = "self") (hb : body = .Expr (.Call (.Attribute (.Call (.Name "super" p0) [] [] p1) "__init__" p2) [.Constant (.str msg) j p3] [] p4) p5 :: rest)
    (len : ∀ vs H Q E, sp vs H Q E → vs.length = ps.length) (first : ∀ vs H Q E, sp vs H Q E → ∃ a ws, vs = .ref a :: ws ∧ H a = some (exo a C none))
    (hbody : ∀ (A : Around) (outer : List Env) (s : Shared) (H : Hp) (vs : List V) (Q : VK) (E : XK), sp vs H Q E →
      ∃ t, PSs (exX P w K mg base ps qual scope f cda cc A outer s H) rest t ∧ t { nx := fun _ H' => Q .non H', rt := Q } (L2.start ps vs) H)
    (he : ∀ L, eval (.Call (.Attribute (.Call (.Name "super" p0) [] [] p1) "__init__" p2) [.Constant (.str msg) j p3] [] p4) (PySem.W.ksEnv qual scope L f (.ref cda) cc) = (do
        let ov ← attributeBase (.Call (.Name "super" p0) [] [] p1) "__init__" (PySem.W.ksEnv qual scope L f (.ref cda) cc) (eval (.Call (.Name "super" p0) [] [] p1) (PySem.W.ksEnv qual scope L f (.ref cda) cc))
        standAt p2.atName
        let (g, first) ← holding [ov] (getMethod ov "__init__" pl)
        callWith p4 g first (backTo p4 (starEach [.Constant (.str msg) j p3] (PySem.W.ksEnv qual scope L f (.ref cda) cc))) []))
    (hi : ∀ L, interactive (PySem.W.ksEnv qual scope L f (.ref cda) cc) = false) (hsw : ∀ L, swapsWith (.Call (.Attribute (.Call (.Name "super" p0) [] [] p1) "__init__" p2) [.Constant (.str msg) j p3] [] p4) none p5.line (PySem.W.ksEnv qual scope L f (.ref cda) cc) = pure false) :
    FnOk P w K mg base CX0 1 f (PySem.W.ksFn name qual params body scope dV kV doc pm an (.ref cda) ct cc) ps sp := by
  refine ⟨len, fun A outer s H args us vs Q E hr e0 hbind r hsp => ?_⟩
  obtain ⟨a, ws, ev, ea⟩ := first _ _ _ _ hsp
  have there : ∀ b o, base.get? b = some o → s.heap.get? b = some o := fun b o e => (e0.bs b o e).1
  have KX : K.In s.heap := e0.mod.kin.keeps there
  have hl := len _ _ _ _ hsp
  refine ks_codeAny_call_defAt hr.depth (KX _ _ lk) rfl (e0.mod.nolimit.keeps there) (PySem.W.codeRec_of KX hcd) rfl hbind S.nocell (fun x hx => S.par _ (List.of_mem_zip hx).1) (fun h0 hns keep => ?_) S.co S.gen S.kind
  have I0 := start_inv (w := w) (qual := qual) (tk := s.toks + (ps.zip us).length) S T hr.hd e0 hl r hns keep
  obtain ⟨t1, ho⟩ := exo_at I0.hok ea
  obtain ⟨t, ht, q⟩ := hbody A outer s H _ Q E hsp
  obtain ⟨mb, hmb, hbb⟩ := e0.mod.blt
  have old : ∀ b o, base.get? b = some o → h0.get? b = some o := fun b o e => keep b o (there b o e)
  have hs0 : (ps.zip us).reverse.lookup ar.arg = some (.ref a) := by
    rw [har]
    subst ev
    cases r with
    | cons r0 r1 =>
      obtain rfl : _ = Value.ref a := r0
      refine zip_rev (i := 0) S.nd ?_ S.self_ rfl
      rw [List.length_cons, ← r1.length]
      exact hl
  have hka : scope.names.lookup ar.arg = some .local := by
    rw [har]
    exact S.par _ (List.mem_of_getElem? S.self_)
  rw [hb]
  refine ks_wpAt_execs_cons ?_
  refine superLine T (e0.mod.kin.keeps old) lk hp S.sup S.cls hka S.kind hns hs0 ho (e0.mod.glob.keeps old) gs (hmb.keeps old) (hbb _ (by decide)) (fun h' tk t2 k3 hx => ?_) (he _) (hi _) (hsw _)
  have J := I0.write (t' := tk) (x := a) (e := a) (o := exo a C none) (by rw [ea]; exact True.intro) (.inl rfl) k3 ⟨_, hx⟩ (exo_ok hx)
  have eu : upd H a (exo a C none) = H := by
    funext b
    by_cases z : b = a
    · rw [z, upd_same, ea]
    · rw [upd_ne z]
  rw [eu] at J
  refine wpAt_of_wpAny (wpAny_mono (ht.run [] _ _ H _ J q) (fun fl s2 out => ?_) fun _ _ z => False.elim z)
  cases fl with
  | ret u => obtain ⟨v, _, H2, J2, rv, q2⟩ := out; exact ⟨v, H2, J2.os, J2.bare, J2.base, J2.hok, rv, q2⟩
  | next => obtain ⟨_, H2, J2, q2⟩ := out; exact ⟨V.non, H2, J2.os, J2.bare, J2.base, J2.hok, rfl, q2⟩
  | brk => obtain ⟨_, _, _, q2⟩ := out; exact q2.elim
  | cont => obtain ⟨_, _, _, q2⟩ := out; exact q2.elim
end
end Er
set_option Elab.async false
set_option maxRecDepth 100000
set_option autoImplicit false
namespace Er
open PySem L2 PySem.Spec PyProof.Rows PySem.Calls
/-- self.f = p behind the text -/
def spErr1 (C : Addr) (f : Str) : Sp := fun vs H Q _ => ∃ a v, vs = [.ref a, v] ∧ H a = some (exo a C none) ∧ ∀ dx, H dx = none → dx ≠ a → Q .non (upd (upd H dx (exd dx [(f, v)])) a (exo a C (some dx)))
def spErr2 (C : Addr) (f g : Str) : Sp := fun vs H Q _ => ∃ a v u, vs = [.ref a, v, u] ∧ H a = some (exo a C none) ∧ ∀ dx, H dx = none → dx ≠ a → Q .non (upd (upd (upd H dx (exd dx [(f, v)])) a (exo a C (some dx))) dx (exd dx [(g, u), (f, v)]))
section
variable {P : Program} {w : World} {K : PySem.W.Frag} {mg : Str → Option Value} {base : Heap}
theorem rest1 {p f qual : Str} {scope : Scope} {C fi cda cc : Addr} {q1 q2 q3 q4 : Pos} (S : ErrS ["self", p] scope) (O : OexC K C) (no : PySem.W.findIn K (.ref C) f = some none) (d1 : (p == ("__debug__" : Str)) = false) (d2 : (p == ("__classdict__" : Str)) = false)
    (A : Around) (outer : List Env) (s : Shared) (H : Hp) (vs : List V) (Q : VK) (E : XK) (h : spErr1 C f vs H Q E) :
    ∃ t, PSs (exX P w K mg base ["self", p] qual scope fi cda cc A outer s H) [.Assign [.Attribute (.Name "self" q1) f q2] (.Name p q3) q4] t ∧ t { nx := fun _ H' => Q .non H', rt := Q } (L2.start ["self", p] vs) H := by
  obtain ⟨a, v, rfl, ea, k⟩ := h
  refine ⟨_, pss_one (ps_ost (pe_var (i := 0) (x := "self") rfl (.inl (S.par _ (by simp)))) (pe_var (i := 1) (x := p) rfl (.inl (S.par _ (by simp))) d1 d2)), ?_⟩
  exact ⟨_, rfl, _, rfl, a, C, rfl, O, no, .inl ⟨ea, fun dx n ne => k dx n ne⟩⟩
theorem rest2 {p p' f g qual : Str} {scope : Scope} {C fi cda cc : Addr} {q1 q2 q3 q4 r1 r2 r3 r4 : Pos} (S : ErrS ["self", p, p'] scope) (O : OexC K C) (no : PySem.W.findIn K (.ref C) f = some none) (no' : PySem.W.findIn K (.ref C) g = some none) (d1 : (p == ("__debug__" : Str)) = false) (d2 : (p == ("__classdict__" : Str)) = false) (d3 : (p' == ("__debug__" : Str)) = false) (d4 : (p' == ("__classdict__" : Str)) = false)
    (A : Around) (outer : List Env) (s : Shared) (H : Hp) (vs : List V) (Q : VK) (E : XK) (h : spErr2 C f g vs H Q E) :
    ∃ t, PSs (exX P w K mg base ["self", p, p'] qual scope fi cda cc A outer s H) [.Assign [.Attribute (.Name "self" q1) f q2] (.Name p q3) q4, .Assign [.Attribute (.Name "self" r1) g r2] (.Name p' r3) r4] t ∧ t { nx := fun _ H' => Q .non H', rt := Q } (L2.start ["self", p, p'] vs) H := by
  obtain ⟨a, v, u, rfl, ea, k⟩ := h
  refine ⟨_, pss_cons (ps_ost (pe_var (i := 0) (x := "self") rfl (.inl (S.par _ (by simp)))) (pe_var (i := 1) (x := p) rfl (.inl (S.par _ (by simp))) d1 d2)) (pss_one (ps_ost (pe_var (i := 0) (x := "self") rfl (.inl (S.par _ (by simp)))) (pe_var (i := 2) (x := p') rfl (.inl (S.par _ (by simp))) d3 d4))), ?_⟩
  refine ⟨_, rfl, _, rfl, a, C, rfl, O, no, .inl ⟨ea, fun dx n ne => ?_⟩⟩
  refine ⟨_, rfl, _, rfl, a, C, rfl, O, no', .inr ⟨dx, _, upd_same, ?_, by show 1 ≤ 900; decide, k dx n ne⟩⟩
  rw [upd_ne ne, upd_same]
end

/-! ### raise C(e) -/
/-- the exception's own dict alone is left in sight -/
theorem left1 {H : Hp} {a d C : Addr} {fs gs : List (Str × V)} (na : H a = none) (o : Option Addr) : upd (del (upd (upd (upd H a (exo a C none)) d (exd d gs)) a (exo a C o)) a) d (.xd fs) = upd H d (.xd fs) := by
  funext b
  by_cases hd : b = d
  · rw [hd, upd_same, upd_same]
  rw [upd_ne hd, upd_ne hd]
  by_cases ha : b = a
  · rw [ha, del_same, na]
  · rw [del_ne ha, upd_ne ha, upd_ne hd, upd_ne ha]
def tRaise1 (C : Addr) (f : Str) (W : WX) (te : TE) : TS := fun _ σ H => te σ H fun v H1 => ∀ d, H1 d = none → W (.ref C) (some d) σ (upd H1 d (.xd [(f, v)]))
/-- a reading, closed upwards -/
def up (te : TE) : TE := fun σ H Q => ∃ R : V → Hp → Prop, te σ H R ∧ ∀ v H1, R v H1 → Q v H1
section
variable {X : Cx}
theorem pe_up {e : Expr} {te : TE} (he : PE X e te) : PE X e (up te) := ⟨fun pins s σ H Q I ⟨R, h, m⟩ => wpAny_mono (he.run pins s σ H R I h) (fun u s1 ⟨v, H1, I1, r, q⟩ => ⟨v, H1, I1, r, m v H1 q⟩) fun _ _ z => z⟩
theorem ps_raise1 {x f : Str} {C fi : Addr} {k : Nat} {fd : FuncData} {ps : List Str} {e : Expr} {te : TE} {W : WX} {p pos pos2 : Pos} (hc : X.calm = true) (tk : Takes X W) (O : OexC X.K C) (iC : PySem.W.findIn X.K (.ref C) "__init__" = some (some (.ref fi))) (tI : PySem.W.typeIn X.K (.ref fi) = some (.type "function"))
    (F : FnOk X.prog X.w X.K X.mg X.base CX0 k fi fd ps (spErr1 C f)) (hr : Room (k + 1) X.A) (hb : Binds X.K fd ps []) (hg : Gl X x) (hm : X.mg x = some (.ref C)) (he : PE X e te) (hdb : (x == ("__debug__" : Str)) = false := by decide)
    (hs : starEach [e] X.env = (false, eval e X.env) :: starEach [] X.env := by rfl) : PS X (.Raise (some (.Call (.Name x p) [e] [] pos)) none pos2) (tRaise1 C f W te) := by
  have R := ps_raise (pos := pos2) hc tk (pmk_oex (p := p) (pos := pos) O iC tI F hr hb .nil pass0 hg hm (pa_cons (pe_up he) pa_nil hs) hdb hs)
  refine ⟨fun pins s σ H D I h => R.run pins s σ H D I ?_⟩
  refine ⟨_, h, fun v H1 q => ⟨by show 1 ≤ 1000; decide, fun a na => ⟨a, v, rfl, upd_same, fun d nd ne => ⟨rfl, d, [(f, v)], upd_same, ?_, ?_, ?_⟩⟩⟩⟩
  · rw [upd_ne ne, upd_same]
  · rw [upd_ne ne] at nd; exact nd
  · rw [upd_ne ne] at nd
    rw [left1 na]
    exact q d nd
end
end Er
set_option Elab.async false
set_option maxRecDepth 100000
set_option autoImplicit false
/-! try: .. except G as n: y = n, and y is looked at behind it: the error stays in sight. -/
namespace Er
open PySem L2 PySem.Spec PyProof.Rows PySem.Calls
/-- at a: a caught error of the class cls, with the dict d -/
def keptE (cls : Value) (d : Option Addr) (a : Addr) : HO := .ext fun h => ∃ (oe : Obj) (vs : Array Value), h.get? a = some oe ∧ Zc cls d oe ∧ oe.data = .fields vs
section
variable {X : Cx} {pins : List (Addr × Obj)} {σ : L2.St} {H : Hp} {s : Shared}
theorem kept_ok {P : Program} {w : World} {G : Hp} {h : Heap} {a : Addr} {cls : Value} {d : Option Addr} {oe : Obj} {vs : Array Value} (e : h.get? a = some oe) (z : Zc cls d oe) (dd : oe.data = .fields vs) : ObjOk P w G h a (keptE cls d a) :=
  ⟨⟨oe, vs, e, z, dd⟩, ⟨oe, e⟩, fun h1 h2 ⟨o1, v1, e1, z1, d1⟩ k => ⟨o1, v1, k _ e1, z1, d1⟩⟩
/-- an object of none of the tracked ones, made behind the entry, comes into sight -/
theorem track {a : Addr} {o : HO} {ob : Obj} {vs : Array Value} (I : Inv X pins σ H s) (hx : X.ex = []) (old : X.s_0.heap.get? a = none) (na : H a = none) (nl : a ≠ X.env.locals) (ha : s.heap.get? a = some ob) (hd : ob.data = .fields vs) (np : ∀ p ∈ X.pn ++ pins, p.1 ≠ a)
    (new : ObjOk X.prog X.w (upd H a o) s.heap a o) : Inv X pins σ (upd H a o) s := by
  have off : ∀ {b : Addr} {u : HO}, H b = some u → upd H a o b = some u := fun {b u} e => by rw [upd_ne (ne_of_none e na)]; exact e
  refine ⟨I.ok, I.os, I.bare, ⟨I.base.keep, I.base.slot, fun b u e n x => ?_, I.base.there, fun b xs e => off (I.base.tups b xs e), fun b u v e => off (I.base.frzs b u v e), fun b ps e => ?_⟩, I.loc, I.cell, ?_, fun x c e => ?_, fun p hp => ?_, I.hok.laidN (fun b u e => e) na new, I.len⟩
  · have ne : b ≠ a := by
      rintro rfl
      rw [old] at e; cases e
    rw [upd_ne ne]
    exact I.base.free b u e n x
  · obtain ⟨more, q⟩ := I.base.tbls b ps e
    exact ⟨more, off q⟩
  · rw [upd_ne nl.symm]; exact I.free
  · have ne : c ≠ a := by
      rintro rfl
      obtain ⟨v, oc, e1, e2⟩ := I.cell x c e
      rw [ha] at e1
      cases e1
      rw [hd] at e2; cases e2
    rw [upd_ne ne]; exact I.freeC x c e
  · obtain ⟨q1, q2, q3⟩ := I.pin p hp
    exact ⟨q1, by rw [upd_ne (np p hp)]; exact q2, q3⟩
end
end Er
set_option Elab.async false
set_option maxRecDepth 100000
set_option autoImplicit false
namespace Er
open PySem L2 PySem.Spec PyProof.Rows PySem.Calls
/-- what 'except G as n: y = n' wishes of an error of the body: i is n's slot, j is y's -/
def wKeep (K : PySem.W.Frag) (c : Value) (i j m : Nat) (Wout : WX) (D : Ends) : WX := fun cls d σ H =>
  ∃ b, PySem.W.exmOne K cls c = some b ∧ (b = true → σ.length = m → ∀ a, H a = none → D.nx (((σ.set i (some (.ref a))).set j (some (.ref a))).set i none) (upd H a (keptE cls d a))) ∧ (b = false → Wout cls d σ H)
section
variable {X : Cx} {x n y : Str} {c : Value} {i j : Nat} {body : List Stmt} {np yp np2 sp pos pos' : Pos} {tb : WX → TS} {Wout : WX}
theorem ps_try_keep (hs : X.stack = X.env :: X.outer) (hf : X.env.frame = some X.env.locals) (hex : X.ex = []) (hN : X.N.Nodup) (hi : X.N[i]? = some n) (hj : X.N[j]? = some y) (hln : X.env.kindOf n = some .local) (hly : X.env.kindOf y = some .local) (hc : Names X x c) (tk : Takes X Wout)
    (hdn : (n == ("__debug__" : Str)) = false) (hcn : (n == ("__classdict__" : Str)) = false) (hsw : swapsWith (.Name n np2) (some (.Name y yp)) sp.line X.env = pure false)
    (hb : ∀ (W : WX) (pn : List (Addr × Obj)) (xe : Value → Shared → Prop), Takes (X.tr pn xe) W → PassesOwn (model X.prog X.w) X.A X.env xe → PSs (X.tr pn xe) body (tb W)) :
    PS X (.Try body [.ExceptHandler (some (.Name x np)) (some n) [.Assign [.Name y yp] (.Name n np2) sp] pos'] [] [] pos) (fun D σ H => tb (wKeep X.K c i j X.N.length Wout D) D σ H) := by
  constructor
  intro pins s σ H D I h
  have fine := I.ok
  have frames : X.A.frames = some (X.env :: X.outer) := fine.frames.trans (congrArg some hs)
  have run := (hb (wKeep X.K c i j X.N.length Wout D) (X.pn ++ pins) (fun e s₁ => wpAny (model X.prog X.w) X.A (noteFrame e X.env) (fun _ s₂ => wpAny (model X.prog X.w) X.A (setFlight e none) (fun _ s₃ =>
    wpAny (model X.prog X.w) X.A (handleBy e X.env [.ExceptHandler (some (.Name x np)) (some n) [.Assign [.Name y yp] (.Name n np2) sp] pos']) (SP X pins D) X.xe s₃) X.xe s₂) X.xe s₁) ?hit PassesOwn.looking).run [] s σ H D (I.toTry _) h
  case hit =>
    rintro u s' ⟨a, B, sI, pins1, σ1, H1, cls, d, rfl, J0, ground, up0, sky0, na, os, ag, b, test, yes, no⟩
    have J : Inv X pins σ1 H1 sI := J0.ofTry fine
    have sky : Sky B (X.env :: X.outer) a (Zc cls d) X.env.locals s'.heap := hs ▸ sky0
    show wpAny (model X.prog X.w) X.A (noteFrame (.ref a) X.env) _ _ _
    refine Sky.land Zc.steady frames hf sky fun g3 fly3 up3 => ?_
    have J3 : Inv X pins σ1 H1 { s' with heap := g3 } := J.landed ground fly3.1 (up0.trans up3) os ag
    obtain ⟨o3, v3, e3, z3, d3⟩ := fly3.there
    have away : a ∉ frs (X.env :: X.outer) := fun mem => by
      obtain ⟨_, o, e, no_⟩ := fly3.2.2.1.mem mem
      rw [e3] at e; cases e
      exact no_ _ d3
    have awayL : a ≠ X.env.locals := fun z => away (List.mem_filterMap.mpr ⟨X.env, List.mem_cons_self, hf.trans (congrArg some z.symm)⟩)
    have awayF : a ∉ X.fs := fun mem => by
      obtain ⟨e, m1, m2⟩ := List.mem_filterMap.mp mem
      exact away (List.mem_filterMap.mpr ⟨e, List.mem_cons_of_mem _ m1, m2⟩)
    -- the error is younger than the entry
    have young : sI.heap.get? a = none := by
      cases q : sI.heap.get? a with
      | none => rfl
      | some o =>
        have qB := ground a o q (by rw [hs]; exact away)
        rw [fly3.2.1] at qB; cases qB
    have entry : X.s_0.heap.get? a = none := by
      cases q : X.s_0.heap.get? a with
      | none => rfl
      | some o =>
        obtain ⟨o', q'⟩ := J.base.there a o q (by rw [hex]; exact List.not_mem_nil)
        rw [young] at q'; cases q'
    have apart : ∀ p ∈ X.pn ++ pins, p.1 ≠ a := fun p hp z => by
      have q := (J.pin p hp).1
      rw [z, young] at q; cases q
    have S3 := J3.suite e3 d3 na awayL awayF
    refine wpAny_handleBy_cons (codeAny_handlers_test ?_) (by intro q; cases q)
    have LT : PySem.W.Looks (model X.prog X.w) g3 (typeOf (.ref a)) cls := fun _ _ _ _ k q => wpAny_typeOf_ref (k _ _ e3) (by rw [z3.1]; exact q)
    have LM := PySem.W.exm_one (M := model X.prog X.w) J3.kIn LT test
    have named : ∀ {Q : Value → Shared → Prop} {E : Value → Shared → Prop}, Q c { s' with heap := g3 } → wpAny (model X.prog X.w) (X.A.mark (some (.ref a))) (eval (.Name x np) X.env) Q E { s' with heap := g3 } := fun {Q E} q => by
      rcases hc with ⟨hg, hdbg, hm | ⟨hm, hv, hnn⟩⟩
      · exact ld_glob (X := X.suite a ((a, o3) :: (X.pn ++ pins))) S3 hg hm q hdbg
      · exact ld_blt (X := X.suite a ((a, o3) :: (X.pn ++ pins))) S3 hg hm hv q hnn hdbg
    refine named (LM.here ?_)
    cases b with
    | true =>
      refine codeAny_handlers_suite_as (HandSPX.lands_againZ fly3 fun g4 fly4 up4 => ?_)
      have J4 : Inv X pins σ1 H1 { s' with heap := g4 } := J.landed ground fly4.1 ((up0.trans up3).trans up4) os ag
      obtain ⟨o4, v4, e4, z4, d4⟩ := fly4.there
      have S4 := J4.suite e4 d4 na awayL awayF
      refine store_ok (X := X.suite a ((a, o4) :: (X.pn ++ pins))) (v := .ref a) S4 hN hi (.inl hln) rfl (fun s5 S5 => ?_) (.inr hln)
      have il : i < σ1.length := by
        rw [S4.len]
        exact (List.getElem?_eq_some_iff.mp hi).1
      have one := pss_one (X := X.suite a ((a, o4) :: (X.pn ++ pins))) (ps_set (pos := sp) (pos' := yp) (i := j) hN hj (.inl hly) (pe_var (i := i) (pos := np2) hi (.inl hln) hdn hcn) hsw (.inr hly))
      refine wpAny_mono (one.run [] s5 _ H1 { nx := fun σ' H' => σ' = (σ1.set i (some (.ref a))).set j (some (.ref a)) ∧ H' = H1, rt := fun _ _ => False } S5 ⟨.ref a, by rw [List.getElem?_set_self il], rfl, rfl⟩) (fun fl s6 got => ?_) (fun _ _ z => False.elim z)
      cases fl with
      | next =>
        obtain ⟨_, _, S6, rfl, rfl⟩ := got
        have there := (S6.pin (a, o4) (List.mem_append_left _ List.mem_cons_self)).1
        exact gone_ok (track (S6.unsuite fine) hex entry na awayL there d4 apart (kept_ok there z4 d4)) hN hi hln fun s7 J7 => ⟨_, _, J7, yes rfl S4.len a na⟩
      | ret u => obtain ⟨_, _, _, _, _, z⟩ := got; exact z.elim
      | brk => obtain ⟨_, _, _, z⟩ := got; exact z.elim
      | cont => obtain ⟨_, _, _, z⟩ := got; exact z.elim
    | false =>
      show wpAny (model X.prog X.w) X.A (handleBy (.ref a) X.env []) _ _ _
      refine wpAny_handleBy_nil ?_
      obtain ⟨_, _, _, oe, vs, T, oT, us, q1, q2, q3, q4, q5⟩ := id fly3
      unfold PySem.passOn
      refine wpAny_bind (wpAny_field q1 q3 q4 ?_)
      rw [if_neg (by simp)]
      have out : wpAny (model X.prog X.w) X.A (setFlight (.ref a) X.env.frame) (fun _ s4 => wpAny (model X.prog X.w) X.A (throw (.ref a) : Sem Flow) (SP X pins D) X.xe s4) X.xe { s' with heap := g3 } := by
        rw [hf]
        exact HandSPX.setFlight_upZ fly3 fun g4 held up4 => wpAny_throw (tk _ _ ⟨a, B, sI, pins, σ1, H1, cls, d, rfl, J, ground, (up0.trans up3).trans up4, .inr (.inr (by rw [hs]; exact held)), na, os, ag, no rfl⟩)
      first
        | exact wpAny_bind (wpAny_pure (wpAny_bind out))
        | exact wpAny_bind out
  refine wpAny_Try_except (wpAny_mono run (fun f s1 got => ?_) fun e s1 he => he)
  cases f with
  | next => obtain ⟨σ', H', J', q⟩ := got; exact wpAny_execs_nil ⟨σ', H', J'.ofTry fine, q⟩
  | brk => obtain ⟨σ', H', J', q⟩ := got; exact ⟨σ', H', J'.ofTry fine, q⟩
  | cont => obtain ⟨σ', H', J', q⟩ := got; exact ⟨σ', H', J'.ofTry fine, q⟩
  | ret u => obtain ⟨v, σ', H', J', r, q⟩ := got; exact ⟨v, σ', H', J'.ofTry fine, r, q⟩
end
end Er
set_option Elab.async false
set_option maxRecDepth 100000
set_option autoImplicit false
namespace Er
open PySem L2 PySem.Spec PyProof.Rows PySem.Calls
/-- what is written of a class of errors, so that its errors may be asked what they are -/
structure KeptC (K : PySem.W.Frag) (C : Addr) : Prop where
  xf : XfC K C
  cls : (PySem.W.clsIn K C).isSome = true
  at_ : PySem.W.findIn K (.ref C) "__class__" = some (some (.builtin "object.__class__"))
  get : PySem.W.specialIn K (.builtin "object.__class__") "__get__" = some (some (.builtin "getset_descriptor.__get__"))
  tak : PySem.W.takesIn K (.builtin "object.__class__") = some true
  obj : PySem.W.mroIn K C (.type "object") = some true
/-- at a: such an error, its fields fs -/
def KeptAt (H : Hp) (a C d : Addr) (fs : List (Str × V)) : Prop := H a = some (keptE (.ref C) (some d) a) ∧ H d = some (.xd fs)
def rIsErr (K : PySem.W.Frag) : List V → Hp → VK → Prop := fun xs H Q => ∃ (a C d : Addr) (fs : List (Str × V)) (c : V) (cv : Value) (b : Bool), xs = [.ref a, c] ∧ KeptAt H a C d fs ∧ KeptC K C ∧ ClsV c cv ∧ PySem.W.kitOne K (.ref C) cv = some b ∧ Q (.bl b) H
section
variable {X : Cx} {pins : List (Addr × Obj)} {σ : L2.St} {H : Hp} {s : Shared}
theorem inst_of {a C d : Addr} {fs : List (Str × V)} (I : Inv X pins σ H s) (k : KeptAt H a C d fs) : ∃ (oe od : Obj) (mA : Str → Option Value), PySem.W.InstAt s.heap a oe C (some od) ∧ (∀ f, PySem.W.lookIn f od = some (mA f)) ∧ ∀ f, RelO (fs.lookup f) (mA f) := by
  have oa := I.hok a _ k.1
  obtain ⟨⟨oe, vs, ha, hz, hd⟩, _, _⟩ := oa
  have hx : ObjOk X.prog X.w H s.heap d (.xd fs) := I.hok d _ k.2
  obtain ⟨mA, hns, hr⟩ := hx
  obtain ⟨od, ho, hl⟩ := lookIn_ns hns
  exact ⟨oe, od, mA, ⟨ha, hz.1, by unfold PySem.W.notCls; rw [hd] <;> rfl, by rw [hz.2]; exact ho⟩, hl, hr⟩
theorem call_isErr : CallR X (.builtin "isinstance") (rIsErr X.K) := by
  rintro pins s σ H xs us Q I r ⟨a, C, d, fs, c, cv, b, rfl, k, T, kc, e, q⟩
  obtain ⟨u1, u2, rfl, r1, r2⟩ := vals2 r
  obtain rfl : u1 = Value.ref a := r1
  have e2 := kc.eq r2
  subst e2
  obtain ⟨oe, od, mA, J, _, _⟩ := inst_of I k
  exact PySem.W.kia_one (PySem.W.kitx_exc (ox := oe) (od := some od) T.cls T.xf.ga T.xf.gg T.xf.exC T.at_ T.get T.tak T.obj) I.kIn J e (fun z => by cases z) fun tk => ⟨.bl b, H, I.tok tk, rfl, q⟩
/-- e.f, e such an error -/
def tKf (K : PySem.W.Frag) (f : Str) (te : TE) : TE := fun σ H Q => te σ H fun x H1 => ∃ a C d fs v, x = .ref a ∧ KeptAt H1 a C d fs ∧ XfC K C ∧ PySem.W.findIn K (.ref C) f = some none ∧ fs.lookup f = some v ∧ Q v H1
theorem pe_kf {e : Expr} {te : TE} {f : Str} {pos : Pos} (he : PE X e te) (hb : attributeBase e f X.env (eval e X.env) = eval e X.env := by rfl) : PE X (.Attribute e f pos) (tKf X.K f te) := by
  refine ⟨fun pins s σ H Q I h => attr_of hb (thn (he.run pins s σ H _ I h) ?_)⟩
  rintro u s1 ⟨x, H1, I1, rx, a, C, d, fs, v, rfl, k, T, no, l, q⟩
  obtain rfl : u = Value.ref a := rx
  obtain ⟨oe, od, mA, J, look, rel⟩ := inst_of I1 k
  obtain ⟨z, hz, rz⟩ := RelO.some_of (v := v) (o := mA f) (by rw [← l]; exact rel f)
  exact HandSPX.exc_get I1.kIn J T.ga T.gg T.exC (PySem.W.findObj_own T.hdC no rfl (by rw [look, hz])) (handed_of rz) ⟨v, H1, I1.tok _, rz, q⟩
end
end Er
set_option Elab.async false
set_option maxRecDepth 100000
set_option autoImplicit false
/-! Rules: str(x) by an own __str__; x == y by an own __eq__, y anything; list(text); text * number; x is True. -/
namespace Ru
open PySem L2 PySem.Spec PyProof.Rows Rg
section
variable {prog : Program} {w : World} {A : Around} {E : Value → Shared → Prop} {s : Shared} {K : PySem.W.Frag} {x C f : Addr} {ox : Obj} {od : Option Obj}
theorem strOf_own (hu : A.units < cLine) {Q : Value → Shared → Prop} (X : K.In s.heap) (I : PySem.W.InstAt s.heap x ox C od) (hs : PySem.W.findIn K (.ref C) "__str__" = some (some (.ref f))) (hf : PySem.W.isFn K (.ref f) = true)
    (h : wpAny (model prog w) A (call (.ref f) [.ref x]) (fun r s₁ => ∃ z t, r = Value.str z t ∧ Q r s₁) E s) : wpAny (model prog w) A (Builtin.Str.strOf (.ref x)) Q E s := by
  unfold Builtin.Str.strOf
  rw [show Builtin.Str.isExactStr (.ref x) = false from rfl]
  refine wpAny_bind (m := cRoomFor _ _) (wpAny_cRoomFor hu ?_)
  refine wpAny_bind (m := callSpecial? (.ref x) (Str.ofString "__str__")) (PySem.W.special_fn X I hs (beq_iff_eq.mp hf) (wpAny_mono h (fun r s₁ h₁ => ?_) fun _ _ e => e))
  obtain ⟨z, t, rfl, hq⟩ := h₁
  exact wpAny_pure hq
theorem str_own (hu : A.units + 2 < cLine) {Q : Value → Shared → Prop} (X : K.In s.heap) (I : PySem.W.InstAt s.heap x ox C od) (hs : PySem.W.findIn K (.ref C) "__str__" = some (some (.ref f))) (hf : PySem.W.isFn K (.ref f) = true)
    (h : wpAny (model prog w) A.in1.in1 (call (.ref f) [.ref x]) (fun r s₁ => ∃ z t, r = Value.str z t ∧ Q r s₁) E s) : wpAny (model prog w) A (call (.type "str") [.ref x]) Q E s := by
  refine callType_codes (T := "str") (Bi := Builtin.«object.__init__») (Q₁ := fun r s₁ => ∃ n u, r = Value.str n u ∧ Q r s₁) PySem.F.called_str (PySem.F.typeCall_str_1 _) PySem.F.entry_object_init ?_ ?_
  · refine codeAny_of_tree ?_
    show wpAny _ A.in1.in1 (do checkBuiltinCall "str.__new__" ⟨[.type "str", .ref x], []⟩; again (.builtin "str.__new__" ⟨[.type "str", .ref x], []⟩)) _ _ s
    refine wpAny_bind (wpAny_of_eq (PySem.F.newCall_str_1 _) (wpAny_pure ⟨plainId_quiet (by decide +kernel) _, codeAny_builtin PySem.F.entry_str_new ?_⟩))
    rw [Around.under_plainId (by decide +kernel) _, str_new_tree]
    refine wpAny_bind (wpAny_pure ?_)
    refine wpAny_bind (wpAny_of_eq isSubtype_str_str ?_)
    refine wpAny_bind (strOf_own (by show A.units + 1 + 1 < cLine; omega) X I hs hf (wpAny_mono h (fun r s₁ hr => ?_) fun _ _ y => y))
    obtain ⟨n, u, rfl, hq⟩ := hr
    exact ⟨n, u, rfl, wpAny_pure ⟨n, u, rfl, hq⟩⟩
  · rintro obj s₁ ⟨n, u, rfl, hq⟩
    exact ⟨typeIs_str _ _ _, PySem.F.args_object_init_2 _ _, object_init_meets PySem.F.called_str.init.lookup PySem.F.called_str.made (by decide) prog w A.in1 _ s₁ ⟨typeIs_str _ _ _, rfl, hq⟩⟩
end
section
variable {X : Cx} {CX : CXT} {k : Nat} {C f : Addr} {fd : FuncData} {ps : List Str} {sp : Sp} {E : XK} {pins : List (Addr × Obj)} {σ : L2.St} {H : Hp} {s : Shared}
/-- a def of the text, run within A -/
theorem runAt {A : Around} {Q : VK} {us : List Value} {vs : List V} (F : FnOk X.prog X.w X.K X.mg X.base CX k f fd ps sp) (room : Room k A) (e0 : Env0 X.prog X.w X.K X.mg X.base A X.stack s H) (bd : Binds X.K fd ps []) (ex : Passes CX X E)
    (I : Inv X pins σ H s) (r : Vals vs us) (want : sp vs H Q E) : wpAny (model X.prog X.w) A (call (.ref f) us) (EP X pins σ Q) X.xe s := by
  have len : us.length = ps.length := r.length.symm.trans (F.len _ _ _ _ want)
  have bt : BindsTo s fd ⟨us, []⟩ (ps.zip us) := by
    have z := bd s us I.kIn (by rw [List.append_nil]; exact len)
    rw [List.append_nil] at z
    exact z
  refine wpAny_call (codeAny_mono (F.run A X.stack s H ⟨us, []⟩ us vs Q E room e0 bt r want) fun res s' got => ?_)
  rcases res with e | fl
  · exact ex pins σ H s e s' I got
  · cases fl <;> first | exact I.after got | exact False.elim got
/-- str(o), o an instance of the class at C -/
def rStrOwn (C : Addr) (sp : Sp) (E : XK) : List V → Hp → VK → Prop := fun xs H Q => ∃ a dx fs, xs = [.ref a] ∧ H a = some (.ins C dx fs) ∧ sp [.ref a] H (fun v H' => ∃ z : Str, v = .str z ∧ Q (.str z) H') E
theorem call_strOwn (F : FnOk X.prog X.w X.K X.mg X.base CX k f fd ps sp) (room : Room (k + 2) X.A) (bd : Binds X.K fd ps []) (ex : Passes CX X E)
    (at_ : PySem.W.findIn X.K (.ref C) "__str__" = some (some (.ref f))) (fn : PySem.W.isFn X.K (.ref f) = true) : CallR X (.type "str") (rStrOwn C sp E) := by
  rintro pins s σ H xs us Q I r ⟨a, dx, fs, rfl, e, want⟩
  obtain ⟨od, J⟩ := instAt I e
  cases r with
  | cons r0 r1 =>
    cases r1
    cases r0
    have hr2 : Room k X.A.in1.in1 := (show Room (k + 1) X.A.in1 from Room.in1 room).in1
    refine str_own (by have := room.un; omega) I.kIn J at_ fn (thn (runAt F hr2 I.env0.in1.in1 bd ex I (.cons (rvRef a) .nil) want) ?_)
    rintro u s' ⟨v, H', I', rv, z, rfl, q⟩
    obtain ⟨t, rfl⟩ := rv
    exact ⟨z, t, rfl, .str z, H', I', ⟨t, rfl⟩, q⟩
/-- o == y, y of another kind, or of the class itself -/
def rEqOwn (K : PySem.W.Frag) (C : Addr) (sp : Sp) (E : XK) : R2 := fun x y H Q => ∃ a dx fs t, x = .ref a ∧ H a = some (.ins C dx fs) ∧ TyX K H y t ∧ PySem.W.notFirst K C t = true ∧ sp [x, y] H (fun v H' => ∃ b, v = .bl b ∧ Q (.bl b) H') E
theorem op_eqOwn (F : FnOk X.prog X.w X.K X.mg X.base CX k f fd ps sp) (room : Room k X.A) (bd : Binds X.K fd ps []) (ex : Passes CX X E)
    (at_ : PySem.W.findIn X.K (.ref C) "__eq__" = some (some (.ref f))) (fn : PySem.W.isFn X.K (.ref f) = true) : OpR X (compareOp .Eq) (rEqOwn X.K C sp E) := by
  rintro pins s σ H x y v u Q I rx ry ⟨a, dx, fs, t, rfl, e, ty, nf, want⟩
  obtain rfl : v = Value.ref a := rx
  obtain ⟨od, J⟩ := instAt I e
  obtain ⟨m, hF⟩ := I.fr
  show wpAny (model X.prog X.w) X.A (richCompare .Eq (.ref a) u) (EP X pins σ Q) X.xe s
  obtain ⟨P0, kx, hp, _⟩ := kit_of I ry ty
  refine PySem.W.cmp_K (op := .Eq) (tb := t) room.units0 hF I.ok.mod.kin J (kx.ty _ _ I.kIn hp) nf at_ fn ?_
  refine thn (runAt F room I.env0 bd ex I (.cons (rvRef a) (.cons ry .nil)) want) ?_
  rintro z s' ⟨v', H', I', rv, b, rfl, q⟩
  obtain rfl : z = Value.bool b := rv
  exact ⟨.bl b, H', I', rfl, q⟩
theorem signs_at : ∀ {us : List Value} {cs : List Nat}, us.length = cs.length → (∀ (j : Nat) (v : Value), us[j]? = some v → ∃ (c : Nat) (u : Tok), cs[j]? = some c ∧ v = .str ⟨#[c]⟩ u) → Vals (cs.map fun c => V.str ⟨#[c]⟩) us
  | [], [], _, _ => .nil
  | u :: us, c :: cs, hl, h => by
    refine .cons ?_ (signs_at (by simpa using hl) fun j v e => ?_)
    · obtain ⟨c', t, h1, h2⟩ := h 0 u rfl
      cases h1
      exact ⟨t, h2⟩
    · obtain ⟨c', t, h1, h2⟩ := h (j + 1) v (by simpa using e)
      exact ⟨c', t, by simpa using h1, h2⟩
/-- list(text) -/
def rListS : List V → Hp → VK → Prop := fun xs H Q => ∃ z : Str, xs = [.str z] ∧ z.length ≤ sizeLine ∧ ∀ l, H l = none → Q (.ref l) (upd H l (.lst (z.cps.toList.map fun c => V.str ⟨#[c]⟩)))
theorem call_listS (hc : X.calm = true) : CallR X (.type "list") rListS := by
  rintro pins s σ H xs us Q I r ⟨z, rfl, few, q⟩
  obtain ⟨u, rfl, t, rfl⟩ := vals1 r
  refine call_list_str (I.ok.hd hc) z t (hn := few) fun h' tk acc c' hk hD hacc => ?_
  have hv : Vals (z.cps.toList.map fun c => V.str ⟨#[c]⟩) acc.toList := signs_at (by rw [Array.length_toList, Array.length_toList]; exact hacc.1) fun j v e => by
    obtain ⟨c, u, h1, h2⟩ := hacc.2 j v (by rw [← Array.getElem?_toList]; exact e)
    exact ⟨c, u, by rw [Array.getElem?_toList]; exact h1, h2⟩
  exact ⟨.ref s.heap.objs.size, _, I.laid (t' := tk) hk (Nat.le_refl _) (show ObjOk X.prog X.w _ _ _ (.lst (z.cps.toList.map fun c => V.str ⟨#[c]⟩)) from ⟨by simpa [Str.length] using few, acc.toList, c', hv, by rw [Array.toArray_toList]; exact hD⟩), rfl, q _ (I.hok.fresh (Nat.le_refl _))⟩
/-- text * 0, text * 1 -/
def rMul1 : R2 := fun x y H Q => ∃ (z : Str) (b : Bool), x = .str z ∧ y = .int (if b then 1 else 0) ∧ Q (.str (if b then z else Str.empty)) H
theorem op_mul1 : OpR X (binaryOp .Mult) rMul1 := by
  rintro pins s σ H x y v u Q I rx ry ⟨z, b, rfl, rfl, q⟩
  obtain ⟨t, rfl⟩ := rx
  obtain ⟨t', rfl⟩ := ry
  cases b with
  | true =>
    refine PySem.P.mul_str (by decide) (fun _ h => absurd h (by simp)) (fun _ h => absurd h (by simp)) ?_
    exact ⟨.str z, H, I, ⟨t, rfl⟩, q⟩
  | false =>
    refine PySem.P.mul_str (by decide) (fun h => absurd (by decide) h) (fun h => absurd (by decide) h) ?_
    exact ⟨by decide, .str Str.empty, H, I.tok _, ⟨_, rfl⟩, q⟩
/-- x is y, y a truth, x a truth or a text -/
def rIsBS : R2 := fun x y H Q => ∃ b, y = .bl b ∧ ((∃ a, x = .bl a) ∨ ∃ z, x = .str z) ∧ Q (.bl (decide (x = y))) H
theorem op_isBS : OpR X (compareOp .Is) rIsBS := by
  rintro pins s σ H x y v u Q I rx ry ⟨b, rfl, hx, q⟩
  obtain rfl : u = Value.bool b := ry
  rcases hx with ⟨a, rfl⟩ | ⟨z, rfl⟩
  · obtain rfl : v = Value.bool a := rx
    by_cases e : a = b
    · subst e
      exact wpAny_is_self rfl ⟨.bl true, H, I, rfl, by simpa using q⟩
    · exact wpAny_is_other rfl (fun z => e (Value.bool.inj z)) ⟨.bl false, H, I, rfl, by simpa [e] using q⟩
  · obtain ⟨t, rfl⟩ := rx
    exact wpAny_is_other rfl (fun z => nomatch z) ⟨.bl false, H, I, rfl, by simpa using q⟩
end
end Ru
set_option Elab.async false
set_option maxRecDepth 100000
namespace Kx
open PySem L2 PySem.Spec PyProof.Rows Rg
def top (i : Nat) : Stmt := PySem.Challenge.pw_rowgames_k06_books_made.main.body.getD i (.Pass ⟨0, 0, 0, 0⟩)
abbrev sPen : Stmt := top 35
abbrev sDraw : Stmt := top 36
abbrev sPick : Stmt := top 37

/-! ### heaps that grow, but for the pen -/
def Ext1 (p : Addr) (H H' : Hp) : Prop := ∀ b o, b ≠ p → H b = some o → H' b = some o
theorem Ext1.refl (p : Addr) (H : Hp) : Ext1 p H H := fun _ _ _ e => e
theorem Ext1.trans {p : Addr} {H H1 H2 : Hp} (a : Ext1 p H H1) (b : Ext1 p H1 H2) : Ext1 p H H2 := fun c o n e => b c o n (a c o n e)
theorem Ext1.new {p q : Addr} {H : Hp} {o : HO} (h : H q = none) : Ext1 p H (upd H q o) := fun b u _ e => by rw [upd_ne (ne_of_none e h)]; exact e
theorem Ext1.put {p : Addr} {H : Hp} {o : HO} : Ext1 p H (upd H p o) := fun b u n e => by rw [upd_ne n]; exact e

/-- at p the pen: at most n cells were taken -/
def PenAt (c : Addr) (n : Nat) (H : Hp) (p : Addr) : Prop := ∃ (ns : List Int) (a g : Int), H p = some (.lst [.ref c, .int a, .int g]) ∧ H c = some (.lst (ns.map V.int)) ∧ c ≠ p ∧ ns.length ≤ 63 ∧ 0 ≤ a ∧ a ≤ n
theorem PenAt.mono {c : Addr} {n m : Nat} {H : Hp} {p : Addr} (h : PenAt c n H p) (l : n ≤ m) : PenAt c m H p := by
  obtain ⟨ns, a, g, h1, h2, h3, h4, h5, h6⟩ := h
  exact ⟨ns, a, g, h1, h2, h3, h4, h5, by omega⟩
theorem PenAt.ext {c : Addr} {n : Nat} {H H' : Hp} {p : Addr} (h : PenAt c n H p) (e : ∀ b o, H b = some o → H' b = some o) : PenAt c n H' p := by
  obtain ⟨ns, a, g, h1, h2, h3⟩ := h
  exact ⟨ns, a, g, e _ _ h1, e _ _ h2, h3⟩
theorem PenAt.new {c : Addr} {n : Nat} {H : Hp} {p q : Addr} {o : HO} (h : PenAt c n H p) (f : H q = none) : PenAt c n (upd H q o) p := h.ext fun b u e => by rw [upd_ne (ne_of_none e f)]; exact e

/-! ### what the built-in names are -/
structure Txt (mg : Str → Option Value) : Prop where
  len : mg "len" = none
  int : mg "int" = none
  abs : mg "abs" = none
  list : mg "list" = none
  tuple : mg "tuple" = none
  range : mg "range" = none
  repr : mg "repr" = none
  isi : mg "isinstance" = none
  all : mg "all" = none
  set : mg "set" = none

/-! ### _law_draw -/
def spDraw : Sp := fun vs H Q _ => ∃ (c p : Addr) (m : Int) (n : Nat), vs = [.ref p, .int m] ∧ 0 < m ∧ m < 1000000 ∧ n ≤ 1000000 ∧ PenAt c n H p ∧ ∀ r H', 0 ≤ r → r < m → PenAt c (n + 1) H' p → Ext1 p H H' → Q (.int r) H'

theorem dpInts (K : PySem.W.Frag) (H : Hp) : ∀ ns : List Int, DpAll K H (ns.map V.int) (ns.map PyData.int)
  | [] => .nil
  | n :: r => .cons (.int n) (dpInts K H r)
theorem layInts : ∀ ns : List Int, PyData.canLayAll0 (ns.map PyData.int) = true
  | [] => rfl
  | _ :: r => layInts r
theorem depthInts : ∀ ns : List Int, PyData.depthAll (ns.map PyData.int) = 0
  | [] => rfl
  | _ :: r => by
    show max 0 (PyData.depthAll (r.map PyData.int)) = 0
    rw [depthInts r] <;> rfl
theorem shapedInts (ns : List Int) : SeqAt.shaped (.list (ns.map PyData.int)) = true := by
  show (PyData.canLayAll0 (ns.map PyData.int) && decide (PyData.depthAll (ns.map PyData.int) + 1 ≤ 64)) = true
  rw [layInts, depthInts] <;> rfl
theorem mixed1 {z a c d n : Int} (n0 : 0 < n) (nb : n < 2 ^ 32) (c0 : 0 ≤ c) (cb : c ≤ 100000) (d0 : 0 ≤ d) (db : d ≤ 100000) (a0 : 0 ≤ a) (ab : a ≤ 1000000) : (z % n + c * a + d).natAbs < 2 ^ 64 := by
  have h1 := Int.emod_nonneg z (b := n) (by omega)
  have h2 := Int.emod_lt_of_pos z n0
  have h3 : c * a ≤ 100000 * 1000000 := Int.mul_le_mul cb ab a0 (by omega)
  have h4 : 0 ≤ c * a := Int.mul_nonneg c0 a0
  omega
theorem mixed2 {x a b c d n : Int} (x0 : 0 ≤ x) (xb : x < n) (nb : n < 2 ^ 32) (b0 : 0 ≤ b) (bb : b ≤ 100000) (c0 : 0 ≤ c) (cb : c ≤ 100000) (d0 : 0 ≤ d) (db : d ≤ 100000) (a0 : 0 ≤ a) (ab : a ≤ 1000000) : (x * (2 * a + b) + c * a * a + d).natAbs < 2 ^ 64 := by
  have h1 : x * (2 * a + b) ≤ 2 ^ 32 * 2100000 := Int.mul_le_mul (by omega) (by omega) (by omega) (by omega)
  have h2 : 0 ≤ x * (2 * a + b) := Int.mul_nonneg x0 (by omega)
  have h3 : c * a ≤ 100000 * 1000000 := Int.mul_le_mul cb ab a0 (by omega)
  have h4 : 0 ≤ c * a := Int.mul_nonneg c0 a0
  have h5 : c * a * a ≤ 100000 * 1000000 * 1000000 := Int.mul_le_mul h3 ab a0 (by omega)
  have h6 : 0 ≤ c * a * a := Int.mul_nonneg h4 a0
  omega
theorem atMod {ns : List Int} (a : Int) (pos : 0 < ns.length) : ∃ z, atI (ns.map V.int) (a % (ns.length : Int)) = some (.int z) := by
  have h1 := Int.emod_nonneg a (b := (ns.length : Int)) (by omega)
  have h2 := Int.emod_lt_of_pos a (b := (ns.length : Int)) (by omega)
  generalize a % (ns.length : Int) = j at h1 h2
  have hj : j.toNat < ns.length := by omega
  refine ⟨ns[j.toNat], ?_⟩
  have e : (j.toNat : Int) = j := by omega
  have q : atI (ns.map V.int) ((j.toNat : Nat) : Int) = some (.int ns[j.toNat]) := atI_nat (by simp [hj])
  rw [e] at q
  exact q
theorem eqv_nil (ns : List Int) : PyData.eqv (.list (ns.map PyData.int)) (.list []) = ns.isEmpty := by
  cases ns with
  | nil => rfl
  | cons a t => rfl
section
variable {P : Program} {w : World} {K : PySem.W.Frag} {mg : Str → Option Value} {base : Heap}
theorem scDraw : FnScope ["_law_pen_here", "_law_many", "_law_digit", "_law_taken", "_law_cell", "_law_great", "_law_mixed"] ["_law_pen_here", "_law_many"] (defScope sDraw) := ⟨rfl, rfl, rfl, by decide +kernel, rfl, by decide +kernel, by decide +kernel⟩
theorem bLen {X : Cx} {e : Expr} {te : TE} {p pos : Pos} (hg : Gl X "len") (m : X.mg "len" = none) (he : PE X e te) (na : starEach [e] X.env = (false, eval e X.env) :: starEach [] X.env := by rfl) : PE X (.Call (.Name "len" p) [e] [] pos) (tCB (fun xs H Q => ∃ x n, xs = [x] ∧ LenV X.K x H n ∧ Q (.int n) H) (tCons te tNil)) := pe_callB call_len hg m PySem.boot_len (pa_cons he pa_nil na) (he := na)
theorem bInt {X : Cx} {e : Expr} {te : TE} {p pos : Pos} (hg : Gl X "int") (m : X.mg "int" = none) (he : PE X e te) (na : starEach [e] X.env = (false, eval e X.env) :: starEach [] X.env := by rfl) : PE X (.Call (.Name "int" p) [e] [] pos) (tCB (fun xs H Q => (∃ i, xs = [.int i] ∧ Q (.int i) H) ∨ ∃ k, xs = [.bl k] ∧ Q (.int (if k then 1 else 0)) H) (tCons te tNil)) :=
  pe_callTy call_int1 hg m (by decide +kernel) (pa_cons he pa_nil na) (he := na)
theorem bAbs {X : Cx} {e : Expr} {te : TE} {p pos : Pos} (hg : Gl X "abs") (m : X.mg "abs" = none) (he : PE X e te) (na : starEach [e] X.env = (false, eval e X.env) :: starEach [] X.env := by rfl) : PE X (.Call (.Name "abs" p) [e] [] pos) (tCB (fun xs H Q => ∃ i, xs = [.int i] ∧ Q (.int (if i < 0 then -i else i)) H) (tCons te tNil)) :=
  pe_callB call_abs hg m (by decide +kernel) (pa_cons he pa_nil na) (he := na)
theorem bIx {X : Cx} {a b : Expr} {ta tb : TE} {pos : Pos} (ha : PE X a ta) (hb : PE X b tb) (hs : PlainIx b := by intro _ _; rfl) : PE X (.Subscript a b pos) (tOp (rIxL X.K) ta tb) := pe_ix ix_list ha hb hs
theorem ok_draw {f : Addr} {fd : FuncData} (F : Fun K "_law_draw" "_law_draw" sDraw f fd) (T : Txt mg) : FnOk P w K mg base CX0 1 f fd ["_law_pen_here", "_law_many"] spDraw := by
  refine F.ok scDraw (fun vs H Q E h => ?_) (fun cdv A outer s H vs Q E hr h => ?_)
  · obtain ⟨c, p, m, n, rfl, _⟩ := h
    rfl
  · obtain ⟨c, p, m, n, rfl, m0, mb, nb, pen, k⟩ := h
    have nd := scDraw.nd
    refine ⟨_, pss_cons (ps_if (pt_cmpR op_gt (bIx (pv 0) pe_int) pe_int (nomark _))
        (pss_cons (ps_set (i := 2) nd rfl (.inl rfl) (pe_op op_mod (bInt (by rfl) T.int (bIx (pv 0) pe_int)) (pv 1)))
          (pss_cons (ps_asg (pe_op op_fdivN (bInt (by rfl) T.int (bIx (pv 0) pe_int)) (pv 1)) (pg_sub (pv 0) pe_int set_list)) (pss_one (ps_ret (pv 2))))) pss_nil)
      (pss_cons (ps_set (i := 3) nd rfl (.inl rfl) (bIx (pv 0) pe_int))
      (pss_cons (ps_asg (pe_op op_add (pv 3) pe_int) (pg_sub (pv 0) pe_int set_list))
      (pss_cons (ps_set (i := 4) nd rfl (.inl rfl) (pe_op op_add (pe_op op_mul pe_int (pv 3)) pe_int))
      (C8.pss_cut (ps_if (pt_cmpR (op_neD hr.units) (bIx (pv 0) pe_int) (pe_lst pa_nil) (nomark _))
        (pss_one (ps_set (i := 4) nd rfl (.inl rfl) (bIx (bIx (pv 0) pe_int) (pe_op op_mod (bInt (by rfl) T.int (pv 3)) (bLen (by rfl) T.len (bIx (pv 0) pe_int)))))) pss_nil)
      (C8.pss_cut (ps_if (PW.pt (pw_and (pt_cmpR op_lt (pv 3) (bLen (by rfl) T.len (bIx (pv 0) pe_int)) (nomark _)) (pw_and1 (pt_cmpR op_ge (bAbs (by rfl) T.abs (pv 4)) (pe_op op_pow pe_int pe_int) (nomark _)))))
        (pss_cons (ps_set (i := 5) nd rfl (.inl rfl) (pe_op op_add (pe_op op_mul pe_int (pe_op op_sub (bAbs (by rfl) T.abs (pv 4)) (pe_op op_pow pe_int pe_int))) (bInt (by rfl) T.int (pe_cmpR op_lt (pv 4) pe_int (nomark _)))))
          (pss_cons (ps_asg (pe_op op_fdivN (bInt (by rfl) T.int (pv 5)) (pv 1)) (pg_sub (pv 0) pe_int set_list)) (pss_one (ps_ret (pe_op op_mod (bInt (by rfl) T.int (pv 5)) (pv 1)))))) pss_nil)
      (pss_cons (ps_set (i := 6) nd rfl (.inl rfl) (pe_op op_mod (bInt (by rfl) T.int (pe_op op_pow (pe_op op_add (pe_op op_add (pe_op op_mod (bInt (by rfl) T.int (pv 4)) pe_int) (pe_op op_mul pe_int (pv 3))) pe_int) pe_int)) pe_int))
      (pss_cons (ps_set (i := 6) nd rfl (.inl rfl) (pe_op op_mod (bInt (by rfl) T.int (pe_op op_pow (pe_op op_add (pe_op op_add (pe_op op_mul (pv 6) (pe_op op_add (pe_op op_mul pe_int (pv 3)) pe_int)) (pe_op op_mul (pe_op op_mul pe_int (pv 3)) (pv 3))) pe_int) pe_int)) pe_int))
      (pss_one (ps_ret (pe_op op_mod (pe_op op_fdivN (bInt (by rfl) T.int (pv 6)) pe_int) (pv 1))))))))))), ?_⟩
    obtain ⟨ns, a, g, hp, hc, cp, hl, a0, an⟩ := pen
    have md : ∀ x : Int, 0 ≤ x % m ∧ x % m < m := fun x => ⟨Int.emod_nonneg x (by omega), Int.emod_lt_of_pos x m0⟩
    have ms : m ≠ 0 ∧ m.natAbs < 1073741824 := ⟨by omega, by omega⟩
    refine ⟨_, rfl, p, _, 2, _, rfl, rfl, SqL.of hp, rfl, g, 0, rfl, rfl, _, rfl, ite2 (fun hg => ?_) (fun hg => ?_)⟩
    · refine ⟨_, rfl, p, _, 2, _, rfl, rfl, SqL.of hp, rfl, .inl ⟨_, rfl, _, rfl, _, _, rfl, rfl, m0, ?_⟩⟩
      refine ⟨_, rfl, p, _, 2, _, rfl, rfl, SqL.of hp, rfl, .inl ⟨_, rfl, _, rfl, _, _, rfl, rfl, ms, ?_⟩⟩
      refine ⟨_, rfl, p, _, 2, 2, rfl, rfl, hp, rfl, ?_⟩
      refine ⟨_, rfl, k _ _ (md g).1 (md g).2 ⟨ns, a, _, upd_same, ?_, cp, hl, a0, by omega⟩ Ext1.put⟩
      rw [upd_ne cp]; exact hc
    refine ⟨_, rfl, p, _, 1, _, rfl, rfl, SqL.of hp, rfl, ?_⟩
    refine ⟨_, rfl, _, _, rfl, rfl, ?_⟩
    refine ⟨_, rfl, p, _, 1, 1, rfl, rfl, hp, rfl, ?_⟩
    have mul64 : ∀ {x y : Int}, -(2 ^ 64) < x → x < 2 ^ 64 → CMul x y := fun h1 h2 => Or.inl ⟨h1, h2⟩
    generalize hH1 : upd H p (HO.lst ([V.ref c, V.int a, V.int g].set 1 (V.int (a + 1)))) = H1
    have hp1 : H1 p = some (.lst [.ref c, .int (a + 1), .int g]) := by rw [← hH1]; exact upd_same
    have hc1 : H1 c = some (.lst (ns.map V.int)) := by rw [← hH1, upd_ne cp]; exact hc
    have x1 : Ext1 p H H1 := by rw [← hH1]; exact Ext1.put
    refine ⟨_, rfl, _, _, rfl, rfl, mul64 (by decide) (by decide), _, _, rfl, rfl, ?_⟩
    refine ⟨fun σ' H' => ∃ (z : Int) (q : Addr), σ' = [some (.ref p), some (.int m), none, some (.int a), some (.int z), none, none] ∧ H1 q = none ∧ H' = upd H1 q (.lst []), ?_, ?_⟩
    · refine ⟨_, rfl, p, _, 0, _, rfl, rfl, SqL.of hp1, rfl, Nat.zero_le _, fun q hq => ?_⟩
      have cq : c ≠ q := ne_of_none hc1 hq
      have pq : p ≠ q := ne_of_none hp1 hq
      have hc2 : (upd H1 q (.lst [])) c = some (.lst (ns.map V.int)) := by rw [upd_ne cq]; exact hc1
      have hp2 : (upd H1 q (.lst [])) p = some (.lst [.ref c, .int (a + 1), .int g]) := by rw [upd_ne pq]; exact hp1
      refine ⟨.list (ns.map PyData.int), .list [], .lst (SqL.of hc2) (dpInts _ _ ns), .lst (SqL.of upd_same) .nil, shapedInts ns, rfl, _, rfl, ?_⟩
      rw [eqv_nil]
      refine ite2 (fun hne => ?_) (fun _ => ⟨_, q, rfl, hq, rfl⟩)
      have pos : 0 < ns.length := by
        cases ns with
        | nil => exact absurd hne (by decide)
        | cons _ _ => exact Nat.succ_pos _
      obtain ⟨z, hz⟩ := atMod a pos
      refine ⟨_, rfl, p, _, 0, _, rfl, rfl, SqL.of hp2, rfl, _, rfl, .inl ⟨_, rfl, _, rfl, p, _, 0, _, rfl, rfl, SqL.of hp2, rfl, _, _, rfl, .inl ⟨_, SqL.of hc2, rfl⟩, ?_⟩⟩
      refine ⟨_, _, rfl, rfl, by rw [List.length_map]; omega, c, _, _, .int z, rfl, rfl, SqL.of hc2, ?_, z, q, rfl, hq, rfl⟩
      rw [List.length_map]; exact hz
    rintro σ2 H2 ⟨z, q, rfl, hq, rfl⟩
    have cq : c ≠ q := ne_of_none hc1 hq
    have pq : p ≠ q := ne_of_none hp1 hq
    have hc2 : (upd H1 q (.lst [])) c = some (.lst (ns.map V.int)) := by rw [upd_ne cq]; exact hc1
    have hp2 : (upd H1 q (.lst [])) p = some (.lst [.ref c, .int (a + 1), .int g]) := by rw [upd_ne pq]; exact hp1
    have x2 : Ext1 p H (upd H1 q (.lst [])) := x1.trans (Ext1.new hq)
    generalize upd H1 q (.lst []) = H2 at hc2 hp2 x2 ⊢
    have done : ∀ r, 0 ≤ r → r < m → Q (.int r) H2 := fun r r0 r1 => k r H2 r0 r1 ⟨ns, a + 1, g, hp2, hc2, cp, hl, by omega, by omega⟩ x2
    have fin : ∀ y : Int, Q (.int (y % m)) H2 := fun y => done _ (md y).1 (md y).2
    have a1 : a ≤ 1000000 := by omega
    refine ⟨fun σ' H' => σ' = [some (.ref p), some (.int m), none, some (.int a), some (.int z), none, none] ∧ H' = H2, ?_, ?_⟩
    · refine ⟨_, rfl, _, rfl, p, _, 0, _, rfl, rfl, SqL.of hp2, rfl, _, _, rfl, .inl ⟨_, SqL.of hc2, rfl⟩, _, _, rfl, rfl, _, rfl, ite2 (fun _ => ?_) (fun _ => iteF ⟨rfl, rfl⟩)⟩
      refine ⟨_, rfl, z, rfl, _, _, rfl, rfl, ⟨by decide, by decide, by decide⟩, _, _, rfl, rfl, _, rfl, ite2 (fun _ => ?_) (fun _ => ⟨rfl, rfl⟩)⟩
      refine ⟨_, rfl, z, rfl, _, _, rfl, rfl, ⟨by decide, by decide, by decide⟩, _, _, rfl, rfl, _, _, rfl, rfl, mul64 (by decide) (by decide), _, rfl, _, _, rfl, rfl, .inr ⟨_, rfl, _, _, rfl, rfl, ?_⟩⟩
      refine ⟨_, rfl, .inl ⟨_, rfl, _, rfl, _, _, rfl, rfl, ms, _, rfl, p, _, 2, 2, rfl, rfl, hp2, rfl, ?_⟩⟩
      refine ⟨_, rfl, .inl ⟨_, rfl, _, rfl, _, _, rfl, rfl, m0, ?_⟩⟩
      refine k _ _ (md _).1 (md _).2 ⟨ns, a + 1, _, upd_same, ?_, cp, hl, by omega, by omega⟩ (x2.trans Ext1.put)
      rw [upd_ne cp]; exact hc2
    rintro σ3 H3 ⟨rfl, rfl⟩
    refine ⟨_, rfl, .inl ⟨_, rfl, _, _, rfl, rfl, (show (0 : Int) < 2147483629 by decide), _, rfl, _, _, rfl, rfl, mul64 (by decide) (by decide), _, _, rfl, rfl, _, _, rfl, rfl, _, _, rfl, rfl, ⟨by decide, by decide, mixed1 (by decide) (by decide) (by decide) (by decide) (by decide) (by decide) a0 a1⟩, .inl ⟨_, rfl, _, _, rfl, rfl, (show (0 : Int) < 2147483587 by decide), ?_⟩⟩⟩
    have xx : ∀ y : Int, 0 ≤ y % 2147483587 ∧ y % 2147483587 < 2147483587 := fun y => ⟨Int.emod_nonneg _ (by decide), Int.emod_lt_of_pos _ (by decide)⟩
    refine ⟨_, rfl, _, rfl, _, _, rfl, rfl, mul64 (by decide) (by decide), _, _, rfl, rfl, _, _, rfl, rfl, mul64 (Int.lt_of_lt_of_le (by decide) (xx _).1) (Int.lt_trans (xx _).2 (by decide)), _, rfl, _, _, rfl, rfl, mul64 (by decide) (by decide), _, rfl, _, _, rfl, rfl, Or.inr ⟨by omega, by omega⟩, _, _, rfl, rfl, _, _, rfl, rfl, _, _, rfl, rfl,
      ⟨by decide, by decide, mixed2 (xx _).1 (xx _).2 (by decide) (by decide) (by decide) (by decide) (by decide) (by decide) (by decide) a0 a1⟩, .inl ⟨_, rfl, _, _, rfl, rfl, (show (0 : Int) < 2147483647 by decide), ?_⟩⟩
    exact ⟨_, rfl, .inl ⟨_, rfl, _, _, rfl, rfl, ⟨by decide, by decide⟩, _, rfl, _, _, rfl, rfl, m0, fin _⟩⟩
end
end Kx



set_option Elab.async false
set_option maxRecDepth 100000
set_option autoImplicit false
namespace Kx
open PySem L2 PySem.Spec PyProof.Rows Rg Er
def abc : Str := "abcdefghijklmnopqrstuvwxyz"
theorem len_small {z : Str} (h : z.length ≤ 1000) : z.length ≤ sizeLine := Nat.le_trans h (by decide)
theorem bIsi {X : Cx} {e c : Expr} {te tc : TE} {p pos : Pos} (hg : Gl X "isinstance") (m : X.mg "isinstance" = none) (he : PE X e te) (hc : PE X c tc) (na : starEach [e, c] X.env = (false, eval e X.env) :: starEach [c] X.env := by rfl)
    (nb : starEach [c] X.env = (false, eval c X.env) :: starEach [] X.env := by rfl) (hpl : (backTo pos (starEach [c] X.env)).any (·.1) = false := by rfl) : PE X (.Call (.Name "isinstance" p) [e, c] [] pos) (tCB (rIsi X.K) (tCons te (tCons tc tNil))) :=
  pe_callB call_isi hg m boot_isinstance (pa_cons he (pa_cons hc pa_nil nb) na) (he := na) (hpl := hpl)
/-- a list or a tuple -/
def Sq (H : Hp) (a : Addr) (xs : List V) : Prop := H a = some (.lst xs) ∨ H a = some (.tup xs)
theorem Sq.same {H H' : Hp} {a : Addr} {xs : List V} (h : Sq H a xs) (e : Same H H') : Sq H' a xs := h.elim (fun q => .inl (e _ _ q)) fun q => .inr (e _ _ q)
theorem Sq.len {K : PySem.W.Frag} {H : Hp} {a : Addr} {xs : List V} (h : Sq H a xs) : LenV K (.ref a) H xs.length := h.elim (fun q => .inl ⟨_, SqL.of q, rfl⟩) fun q => .inr ⟨_, SqT.of q, rfl⟩
theorem Same.new {H : Hp} {q : Addr} {o : HO} (h : H q = none) : Same H (upd H q o) := fun b u e => by rw [upd_ne (ne_of_none e h)]; exact e
theorem Same.putNew {H H' : Hp} {q : Addr} {o : HO} (h : H q = none) (e : Same H H') : Same H (upd H' q o) := fun b u z => by rw [upd_ne (ne_of_none z h)]; exact e _ _ z
theorem PI_or {X : Cx} {tg iter : Expr} {w1 w2 : TI} (h1 : PI X tg iter w1) (h2 : PI X tg iter w2) : PI X tg iter (fun σ H R => w1 σ H R ∨ w2 σ H R) := ⟨fun pins s σ H R I h => h.elim (h1.run pins s σ H R I) (h2.run pins s σ H R I)⟩
theorem wipe1 (σ : L2.St) (v : Nat) (x : V) : wipe ((wipe σ [v]).set v (some x)) [v] = wipe σ [v] := by
  show ((σ.set v none).set v (some x)).set v none = σ.set v none
  rw [List.set_set, List.set_set]
/-- a comprehension whose elements are told by the turn, over a heap that only grows -/
theorem lcMap {J : It} {n : Nat} {G : Hp → Prop} {Y : Nat → Hp → V → Hp → Prop} (w : Walk J n G Y) {v : Nat} {te : TE} {σ : L2.St} {H1 : Hp} {D : Addr} {Qd : Hp → Prop} (f : Nat → V) (hn : n < sizeLine) (hD : H1 D = none) (hG : ∀ H', Same H1 H' → G H')
    (hY : ∀ i H' x H2, Y i H' x H2 → H2 = H')
    (el : ∀ i x H' (Q : VK), i < n → Same H1 H' → Y i H' x H' → (∀ H4, Same H' H4 → Q (f i) H4) → te ((wipe σ [v]).set v (some x)) H' Q)
    (hd : ∀ H', Same H1 H' → H' D = some (.lst ((List.range n).map f)) → Qd H') :
    ∃ W : Nat → Nat → Hp → Prop, (∃ m, W 0 m (upd H1 D (.lst []))) ∧ ∀ i m H, W i m H →
      (J.stop i H ∧ Qd H) ∨ (J.go i H ∧ ∃ Nx : Hp → Prop, (∀ H', Nx H' → ∃ m', m' < m ∧ W (i + 1) m' H') ∧ ∀ x H', J.yld i H x H' → gName v x (wipe σ [v]) H' fun σ2 H2 => wipe σ2 [v] = wipe σ [v] ∧ tYes σ2 H2 fun b H3 =>
        if b = true then te σ2 H3 fun y H4 => ∃ acc, H4 D = some (.lst acc) ∧ acc.length < sizeLine ∧ Nx (upd H4 D (.lst (acc ++ [y]))) else Nx H3) := by
  refine lc_it w (fun i H' => Same H1 H' ∧ H' D = some (.lst ((List.range i).map f))) ⟨Same.new hD, upd_same⟩ (fun i H' _ q => hG H' q.1) ?_ fun H' q => hd H' q.1 q.2
  rintro i x H' H2 hi ⟨s1, hl⟩ y
  obtain rfl := hY _ _ _ _ y
  refine ⟨wipe1 σ v x, ?_⟩
  unfold tYes
  dsimp only
  rw [if_pos rfl]
  refine el i x H2 _ hi s1 y fun H4 s4 => ⟨_, s4 _ _ hl, ?_, Same.putNew hD (s1.trans s4), ?_⟩
  · rw [List.length_map, List.length_range]; omega
  rw [upd_same, List.range_succ, List.map_append]
  rfl
theorem range_const {n : Nat} {x : V} : (List.range n).map (fun _ => x) = List.replicate n x := by
  rw [List.map_const', List.length_range]
/-- a comprehension over any walk, by an invariant of turn, heap and what is made so far -/
theorem lcGen {J : It} {n : Nat} {G : Hp → Prop} {Y : Nat → Hp → V → Hp → Prop} (w : Walk J n G Y) {v : Nat} {te : TE} {σ : L2.St} {H1 : Hp} {D : Addr} {Qd : Hp → Prop} (Iv : Nat → Hp → List V → Prop) (hn : n < sizeLine)
    (h0 : Iv 0 (upd H1 D (.lst [])) []) (hG : ∀ i H' acc, i ≤ n → Iv i H' acc → G H') (hY : ∀ i H' x H2, Y i H' x H2 → H2 = H')
    (el : ∀ i x H' acc (Q : VK), i < n → H' D = some (.lst acc) → acc.length = i → Iv i H' acc → Y i H' x H' → (∀ y H4, H4 D = some (.lst acc) → Iv (i + 1) (upd H4 D (.lst (acc ++ [y]))) (acc ++ [y]) → Q y H4) → te ((wipe σ [v]).set v (some x)) H' Q)
    (hd : ∀ H' acc, H' D = some (.lst acc) → acc.length = n → Iv n H' acc → Qd H') :
    ∃ W : Nat → Nat → Hp → Prop, (∃ m, W 0 m (upd H1 D (.lst []))) ∧ ∀ i m H, W i m H →
      (J.stop i H ∧ Qd H) ∨ (J.go i H ∧ ∃ Nx : Hp → Prop, (∀ H', Nx H' → ∃ m', m' < m ∧ W (i + 1) m' H') ∧ ∀ x H', J.yld i H x H' → gName v x (wipe σ [v]) H' fun σ2 H2 => wipe σ2 [v] = wipe σ [v] ∧ tYes σ2 H2 fun b H3 =>
        if b = true then te σ2 H3 fun y H4 => ∃ acc, H4 D = some (.lst acc) ∧ acc.length < sizeLine ∧ Nx (upd H4 D (.lst (acc ++ [y]))) else Nx H3) := by
  refine lc_it w (fun i H' => ∃ acc, H' D = some (.lst acc) ∧ acc.length = i ∧ Iv i H' acc) ⟨[], upd_same, rfl, h0⟩ (fun i H' hi ⟨acc, _, _, q⟩ => hG i H' acc hi q) ?_ fun H' ⟨acc, q1, q2, q3⟩ => hd H' acc q1 q2 q3
  rintro i x H' H2 hi ⟨acc, ha, hl, iv⟩ y
  obtain rfl := hY _ _ _ _ y
  refine ⟨wipe1 σ v x, ?_⟩
  unfold tYes
  dsimp only
  rw [if_pos rfl]
  refine el i x H2 acc _ hi ha hl iv y fun y H4 h4 i4 => ⟨acc, h4, by omega, _, upd_same, ?_, i4⟩
  rw [List.length_append, hl]
  rfl
theorem Same.ext1 {H H' : Hp} (p : Addr) (e : Same H H') : Ext1 p H H' := fun b o _ q => e b o q
/-! the pen -/
def Ink (c p : Addr) (n : Nat) (H H' : Hp) : Prop := Ext1 p H H' ∧ PenAt c n H' p
theorem PenAt.ne1 {c p q : Addr} {n : Nat} {H : Hp} (h : PenAt c n H p) (e : H q = none) : q ≠ p := by
  rintro rfl
  obtain ⟨ns, a, g, h1, _⟩ := h
  rw [h1] at e; cases e
theorem PenAt.ne2 {c p q : Addr} {n : Nat} {H : Hp} (h : PenAt c n H p) (e : H q = none) : q ≠ c := by
  rintro rfl
  obtain ⟨ns, a, g, _, h2, _⟩ := h
  rw [h2] at e; cases e
theorem PenAt.put {c p q : Addr} {n : Nat} {H : Hp} {o : HO} (h : PenAt c n H p) (n1 : q ≠ p) (n2 : q ≠ c) : PenAt c n (upd H q o) p := by
  obtain ⟨ns, a, g, h1, h2, h3⟩ := h
  exact ⟨ns, a, g, by rw [upd_ne n1.symm]; exact h1, by rw [upd_ne n2.symm]; exact h2, h3⟩
theorem Ink.start {c p : Addr} {n : Nat} {H : Hp} (h : PenAt c n H p) : Ink c p n H H := ⟨Ext1.refl p H, h⟩
theorem Ink.trans {c p : Addr} {n m : Nat} {H H1 H2 : Hp} (a : Ink c p n H H1) (b : Ink c p m H1 H2) : Ink c p m H H2 := ⟨Ext1.trans a.1 b.1, b.2⟩
theorem Ink.same {c p : Addr} {n : Nat} {H H1 H2 : Hp} (a : Ink c p n H H1) (b : Same H1 H2) : Ink c p n H H2 := ⟨Ext1.trans a.1 (Same.ext1 p b), a.2.ext b⟩
theorem Ink.new {c p q : Addr} {n : Nat} {H H1 : Hp} {o : HO} (a : Ink c p n H H1) (e : H1 q = none) : Ink c p n H (upd H1 q o) := a.same (Same.new e)
theorem Ink.mono {c p : Addr} {n m : Nat} {H H1 : Hp} (a : Ink c p n H H1) (l : n ≤ m) : Ink c p m H H1 := ⟨a.1, a.2.mono l⟩
/-- what is new to H may change: H grows all the same -/
theorem Ext1.putNew {p q : Addr} {H H1 : Hp} {o : HO} (a : Ext1 p H H1) (e : H q = none) : Ext1 p H (upd H1 q o) := fun b u n z => by rw [upd_ne (ne_of_none z e)]; exact a b u n z
theorem Ink.putNew {c p q : Addr} {n k : Nat} {H H1 : Hp} {o : HO} (a : Ink c p n H H1) (s : PenAt c k H p) (e : H q = none) : Ink c p n H (upd H1 q o) := ⟨a.1.putNew e, a.2.put (s.ne1 e) (s.ne2 e)⟩
def spPen (K : PySem.W.Frag) : Sp := fun vs H Q _ => ∃ (a : Addr) (ns : List Int), vs = [.ref a] ∧ SqL K H a (ns.map V.int) ∧ ns.length ≤ 63 ∧ ∀ c p H', Same H H' → PenAt c 0 H' p → Q (.ref p) H'
theorem bList {X : Cx} {e : Expr} {te : TE} {p pos : Pos} (hg : Gl X "list") (m : X.mg "list" = none) (he : PE X e te) (na : starEach [e] X.env = (false, eval e X.env) :: starEach [] X.env := by rfl) :
    PE X (.Call (.Name "list" p) [e] [] pos) (tCB (fun xs H Q => ∃ p ys, xs = [.ref p] ∧ (SqL X.K H p ys ∨ SqT X.K H p ys) ∧ ∀ l, H l = none → Q (.ref l) (upd H l (.lst ys))) (tCons te tNil)) :=
  pe_callTy call_list_of hg m (by decide +kernel) (pa_cons he pa_nil na) (he := na)
section
variable {P : Program} {w : World} {K : PySem.W.Frag} {mg : Str → Option Value} {base : Heap}
theorem scPen : FnScope ["_law_script"] ["_law_script"] (defScope sPen) := ⟨rfl, rfl, rfl, by decide +kernel, rfl, by decide +kernel, by decide +kernel⟩
theorem ok_pen {f : Addr} {fd : FuncData} (F : Fun K "_law_pen" "_law_pen" sPen f fd) (T : Txt mg) : FnOk P w K mg base CX0 1 f fd ["_law_script"] (spPen K) := by
  refine F.ok scPen (fun vs H Q E h => ?_) (fun cdv A outer s H vs Q E hr h => ?_)
  · obtain ⟨a, ns, rfl, _⟩ := h
    rfl
  · obtain ⟨a, ns, rfl, hs, hl, k⟩ := h
    refine ⟨_, pss_one (ps_ret (pe_lst (pa_cons (bList (by rfl) T.list (pe_slice sl_list (pv 0) po_none (po_some pe_int))) (pa_cons pe_int (pa_cons pe_int pa_nil))))), ?_⟩
    refine ⟨_, rfl, _, rfl, a, _, rfl, hs, fun q hq => ?_⟩
    have e : cutV (ns.map V.int) none (some 63) = ns.map V.int := by
      unfold cutV
      rw [show HT.sIx (ns.map V.int).length 0 none = 0 from rfl, show HT.sIx (ns.map V.int).length (ns.map V.int).length (some 63) = min 63 (ns.map V.int).length from HT.sIx_nat _ _ 63, List.drop_zero, Nat.sub_zero]
      exact List.take_of_length_le (by rw [List.length_map]; omega)
    rw [e]
    refine ⟨q, _, rfl, .inl (SqL.of upd_same), fun c hc => ⟨by show 3 ≤ sizeLine; decide, fun p hp => ?_⟩⟩
    have cp : c ≠ p := by rintro rfl; rw [upd_same] at hp; cases hp
    refine k c p _ ?_ ⟨ns, 0, 0, upd_same, by rw [upd_ne cp, upd_same], cp, hl, by decide, by decide⟩
    exact Same.trans (Same.new hq) (Same.trans (Same.new hc) (Same.new hp))
end
theorem ix_or {X : Cx} {r1 r2 : R2} (h1 : IxR X r1) (h2 : IxR X r2) : IxR X (fun x y H Q => r1 x y H Q ∨ r2 x y H Q) := fun a b pins s σ H x y v u Q I rx ry h hs => h.elim (fun h => h1 a b pins s σ H x y v u Q I rx ry h hs) (fun h => h2 a b pins s σ H x y v u Q I rx ry h hs)
def spPick : Sp := fun vs H Q _ => ∃ (c p : Addr) (n : Nat), n ≤ 1000000 ∧ PenAt c n H p ∧
  ((∃ a xs, vs = [.ref p, .ref a] ∧ a ≠ p ∧ H a = some (.lst xs) ∧ 0 < xs.length ∧ xs.length ≤ 1000 ∧ ∀ v H', v ∈ xs → PenAt c (n + 1) H' p → Ext1 p H H' → Q v H') ∨
  (∃ z : Str, vs = [.ref p, .str z] ∧ 0 < z.length ∧ z.length ≤ 1000 ∧ ∀ d H', d ∈ z.cps.toList → PenAt c (n + 1) H' p → Ext1 p H H' → Q (.str ⟨#[d]⟩) H'))
theorem atI_int {α : Type} {xs : List α} {s : Int} {v : α} (s0 : 0 ≤ s) (h : xs[s.toNat]? = some v) : atI xs s = some v := by
  have e : ((s.toNat : Nat) : Int) = s := by omega
  have q := atI_nat h
  rw [e] at q
  exact q
theorem atI_some {α : Type} {xs : List α} {i : Int} (i0 : 0 ≤ i) (i1 : i < xs.length) : ∃ v, v ∈ xs ∧ atI xs i = some v := by
  have h : i.toNat < xs.length := by omega
  exact ⟨xs[i.toNat], List.getElem_mem h, atI_int i0 (List.getElem?_eq_getElem h)⟩
section
variable {P : Program} {w : World} {K : PySem.W.Frag} {mg : Str → Option Value} {base : Heap}
theorem scPick : FnScope ["_law_pen_here", "_law_things"] ["_law_pen_here", "_law_things"] (defScope sPick) := ⟨rfl, rfl, rfl, by decide +kernel, rfl, by decide +kernel, by decide +kernel⟩
theorem ok_pick {f f1 : Addr} {fd fd1 : FuncData} (F : Fun K "_law_pick" "_law_pick" sPick f fd) (T : Txt mg) (G : FnOk P w K mg base CX0 1 f1 fd1 ["_law_pen_here", "_law_many"] spDraw) (m1 : mg "_law_draw" = some (.ref f1)) (k1 : PySem.W.keepIn K (.ref f1) = true)
    (b1 : Binds K fd1 ["_law_pen_here", "_law_many"] []) : FnOk P w K mg base CX0 2 f fd ["_law_pen_here", "_law_things"] spPick := by
  refine F.ok scPick (fun vs H Q E h => ?_) (fun cdv A outer s H vs Q E hr h => ?_)
  · obtain ⟨c, p, n, _, _, ⟨a, xs, rfl, _⟩ | ⟨z, rfl, _⟩⟩ := h <;> rfl
  · obtain ⟨c, p, n, nb, pen, h⟩ := h
    refine ⟨_, pss_one (ps_ret (pe_ix (ix_or ix_list ix_str) (pv 1) (pe_call G hr (by rfl) m1 k1 b1 .nil pass0 (pa_cons (pv 0) (pa_cons (bLen (by rfl) T.len (pv 1)) pa_nil))) (fun _ _ => rfl))), ?_⟩
    rcases h with ⟨a, xs, rfl, ap, ha, l0, l1, k⟩ | ⟨z, rfl, l0, l1, k⟩
    · refine ⟨_, rfl, _, rfl, _, rfl, _, _, rfl, Sq.len (.inl ha), c, p, _, n, rfl, by omega, by omega, nb, pen, fun r H' r0 r1 pen' x => ?_⟩
      obtain ⟨v, hv, e⟩ := atI_some r0 r1
      exact .inl ⟨a, xs, r, v, rfl, rfl, SqL.of (x _ _ ap ha), e, k v H' hv pen' x⟩
    · refine ⟨_, rfl, _, rfl, _, rfl, _, z.length, rfl, ⟨len_small l1, rfl⟩, c, p, _, n, rfl, by omega, by omega, nb, pen, fun r H' r0 r1 pen' x => ?_⟩
      obtain ⟨v, hv, e⟩ := atI_some (xs := z.cps.toList) r0 (by rw [Array.length_toList]; exact r1)
      exact .inr ⟨z, r, v, rfl, rfl, len_small l1, e, k v H' hv pen' x⟩
end
theorem joinL_one : ∀ cs : List Nat, TL.joinL [] (cs.map fun d => [d]) = cs
  | [] => rfl
  | [_] => rfl
  | a :: b :: r => by
    have e := joinL_one (b :: r)
    show [a] ++ ([] ++ TL.joinL [] ((b :: r).map fun d => [d])) = a :: b :: r
    rw [e]
    rfl
theorem join_one (cs : List Nat) : Txt.join ("" : Str) (cs.map fun d => (⟨#[d]⟩ : Str)) = ⟨cs.toArray⟩ := by
  have e := SX.join_S [] (cs.map fun d => [d])
  rw [joinL_one, List.map_map] at e
  exact e
theorem sum_one : ∀ cs : List Nat, ((cs.map fun d => (⟨#[d]⟩ : Str)).map (·.length)).sum = cs.length
  | [] => rfl
  | a :: r => by
    rw [List.map_cons, List.map_cons, List.sum_cons, sum_one r, List.length_cons]
    show 1 + r.length = _
    omega
theorem kbMk {K : PySem.W.Frag} {x qual : Str} {st : Stmt} {f : Addr} {fd : FuncData} {ps ks : List Str} {n : Nat} {g : List Value → List Value → List Value} {gV : List V → List V → List V} (F : L2.Fun K x qual st f fd)
    (h : ∀ (kV doc pm : Value) (an : Option Addr) (cdv ct : Value) (us ws : List Value), us.length = n → ws.length = ks.length → bindArgs (PySem.W.fnOf x qual (defArgs st) (defBody st) (defScope st) .none kV doc pm an cdv ct) ⟨us, ks.zip ws⟩ = pure (ps.zip (g us ws)))
    (rel : ∀ {vs : List V} {us : List Value} {zs : List V} {ws : List Value}, Vals vs us → Vals zs ws → Vals (gV vs zs) (g us ws)) : KBn K fd ps n ks g gV := by
  obtain ⟨oc, od, kV, doc, pm, an, cdv, ct, osl, rfl, lk, hcd⟩ := F.ex
  exact ⟨fun s us ws _ l1 l2 => .of_eq (h kV doc pm an cdv ct us ws l1 l2), rel⟩
theorem vapp {vs : List V} {us : List Value} {zs : List V} {ws : List Value} (a : Vals vs us) (b : Vals zs ws) : Vals (vs ++ zs) (us ++ ws) := by
  induction a with
  | nil => exact b
  | cons r _ ih => exact .cons r ih
theorem vrev {vs : List V} {us : List Value} (a : Vals vs us) : Vals vs.reverse us.reverse := by
  induction a with
  | nil => exact .nil
  | cons r _ ih => rw [List.reverse_cons, List.reverse_cons]; exact vapp ih (.cons r .nil)
structure Tame (d : PyData) (h w : Nat) : Prop where
  sh : d.showable = true
  hd : d.hasDict = false
  dp : d.depth ≤ h
  ls : d.leavesShort 13 = true
  wt : d.weight ≤ w
structure Tames (ds : List PyData) (h w : Nat) : Prop where
  sh : PyData.showableAll ds = true
  hd : PyData.hasDictAll ds = false
  dp : PyData.depthAll ds ≤ h
  ls : PyData.leavesShortAll 13 ds = true
  wt : PyData.weightAll ds ≤ w
theorem Tames.nil {h w : Nat} : Tames [] h w := ⟨rfl, rfl, Nat.zero_le _, rfl, Nat.zero_le _⟩
theorem Tames.cons {d : PyData} {ds : List PyData} {h w1 w2 w : Nat} (a : Tame d h w1) (b : Tames ds h w2) (e : w1 + 1 + w2 ≤ w) : Tames (d :: ds) h w := by
  refine ⟨?_, ?_, ?_, ?_, ?_⟩
  · simp only [PyData.showableAll, a.sh, b.sh, Bool.and_self]
  · simp only [PyData.hasDictAll, a.hd, b.hd, Bool.or_self]
  · simp only [PyData.depthAll]; exact Nat.max_le.mpr ⟨a.dp, b.dp⟩
  · simp only [PyData.leavesShortAll, a.ls, b.ls, Bool.and_self]
  · simp only [PyData.weightAll]
    have := a.wt
    have := b.wt
    omega
theorem Tames.all {h w : Nat} : ∀ {ds : List PyData} {W : Nat}, (∀ d ∈ ds, Tame d h w) → ds.length * (w + 1) ≤ W → Tames ds h W
  | [], _, _, _ => .nil
  | d :: r, W, t, e => by
    rw [List.length_cons, Nat.succ_mul] at e
    exact Tames.cons (t d List.mem_cons_self) (Tames.all (fun x hx => t x (List.mem_cons_of_mem _ hx)) (Nat.le_refl _)) (by omega)
theorem Tame.list {ds : List PyData} {h w : Nat} (a : Tames ds h w) : Tame (.list ds) (h + 1) w := ⟨by simp only [PyData.showable, a.sh], by simp only [PyData.hasDict, a.hd], by simp only [PyData.depth]; have := a.dp; omega, by simp only [PyData.leavesShort, a.ls], by simp only [PyData.weight]; exact a.wt⟩
theorem Tame.tup {ds : List PyData} {h w : Nat} (a : Tames ds h w) : Tame (.tuple ds) (h + 1) w := ⟨by simp only [PyData.showable, a.sh], by simp only [PyData.hasDict, a.hd], by simp only [PyData.depth]; have := a.dp; omega, by simp only [PyData.leavesShort, a.ls], by simp only [PyData.weight]; exact a.wt⟩
theorem Tame.mono {d : PyData} {h w h' w' : Nat} (a : Tame d h w) (e1 : h ≤ h') (e2 : w ≤ w') : Tame d h' w' := ⟨a.sh, a.hd, Nat.le_trans a.dp e1, a.ls, Nat.le_trans a.wt e2⟩
theorem Tame.bool (b : Bool) {h w : Nat} : Tame (.bool b) h w := ⟨by simp only [PyData.showable], by simp only [PyData.hasDict], by simp only [PyData.depth]; exact Nat.zero_le _, by simp only [PyData.leavesShort], by simp only [PyData.weight]; exact Nat.zero_le _⟩
theorem Tame.int {i : Int} {h w : Nat} (i0 : 0 ≤ i) (i1 : i < 1000) (e : 10 ≤ w) : Tame (.int i) h w := by
  have l : i.natAbs.log2 < 10 := by
    by_cases z : i.natAbs = 0
    · rw [z]; decide
    · exact (Nat.log2_lt z).mpr (by omega)
  refine ⟨?_, by simp only [PyData.hasDict], by simp only [PyData.depth]; exact Nat.zero_le _, ?_, ?_⟩
  · simp only [PyData.showable, decide_eq_true_eq]; omega
  · simp only [PyData.leavesShort, decide_eq_true_eq]; exact PyData.shown_int_le (by omega)
  · simp only [PyData.weight]
    split <;> omega
theorem Tame.fits {d : PyData} {h w : Nat} (a : Tame d h w) (e : w ≤ 1048576) : d.shown.length ≤ sizeLine := PyData.shown_fits (B := 13) (by decide) (by decide) a.ls (Nat.le_trans a.wt e)
theorem rRepr_of {K : PySem.W.Frag} {H : Hp} {a : Addr} {d : PyData} {h w : Nat} {Q : VK} (r : Rp K H (.ref a) d) (t : Tame d h w) (e1 : h ≤ 20) (e2 : w ≤ 1048576) (k : Q (.str d.shown) H) : rRepr K [.ref a] H Q := ⟨a, d, rfl, r, t.sh, t.hd, Nat.le_trans t.dp e1, t.fits e2, k⟩
theorem neSame (x : V) : (!decide (x = x)) = false := by rw [decide_eq_true rfl]; rfl
theorem eqSame (x : V) : decide (x = x) = true := decide_eq_true rfl
/-- a class of errors with one field, as a raise wants it -/
structure ErrB (P : Program) (w : World) (K : PySem.W.Frag) (mg : Str → Option Value) (base : Heap) (x f : Str) (C : Addr) : Prop where
  O : OexC K C
  mgC : mg x = some (.ref C)
  init : ∃ fi fd ps, PySem.W.findIn K (.ref C) "__init__" = some (some (.ref fi)) ∧ PySem.W.typeIn K (.ref fi) = some (.type "function") ∧ FnOk P w K mg base CX0 1 fi fd ps (spErr1 C f) ∧ Binds K fd ps []
def raised (C : Addr) (f : Str) (v : V) (E : XK) (H : Hp) : Prop := ∀ d, H d = none → E (.ref C) (some d) (upd H d (.xd [(f, v)]))
end Kx

set_option Elab.async false
set_option maxRecDepth 100000
set_option autoImplicit false
/-! Rules: cls(e, .., k = v), cls a local name; raise C(e, e'), two fields; no exception leaves where none is wished for. -/
namespace Ru
open PySem L2 PySem.Spec PyProof.Rows PySem.Calls Er
section
variable {X : Cx} {CX : CXT} {k n : Nat} {f C : Addr} {fd : FuncData} {ps ks : List Str} {sp : Sp} {E : XK} {x : Str} {e : Expr} {es : List Expr} {kws : List Keyword} {tf : TE} {t tk : TA} {g : List Value → List Value → List Value} {gV : List V → List V → List V} {p pos : Pos}
theorem passesF : Passes (L2.CX X.prog X.w) X (fun _ _ _ => False) := fun _ _ _ _ _ _ _ h => by
  obtain ⟨a, B, H', cls, d, _, _, _, _, _, _, _, z⟩ := h
  exact z.elim
def tMakeVK (C : Addr) (n m : Nat) (sp : Sp) (gV : List V → List V → List V) (E : XK) (tf : TE) (t tk : TA) : TE := fun σ H Q => tf σ H fun y H1 => y = V.ref C ∧ tMakeK C n m sp gV E t tk σ H1 Q
theorem pe_makeVK (M : Mk X.K C f) (F : FnOk X.prog X.w X.K X.mg X.base CX k f fd ps sp) (hr : Room (k + 1) X.A) (hb : KBn X.K fd ps (n + 1) ks g gV) (hx : Passes CX X E) (hf : PE X (.Name x p) tf) (ha : PA X (e :: es) t) (hkw : PK X kws tk)
    (hall : (backToKw pos (keywordEach kws X.env)).all (·.1.isSome) = true := by rfl) (hks : (backToKw pos (keywordEach kws X.env)).filterMap (·.1) = ks := by rfl)
    (he : starEach (e :: es) X.env = (false, eval e X.env) :: starEach es X.env := by rfl) (hpl : ((backTo pos (starEach (e :: es) X.env)).any (·.1) || (backToKw pos (keywordEach kws X.env)).any (·.1.isNone)) = false := by rfl) :
    PE X (.Call (.Name x p) (e :: es) kws pos) (tMakeVK C n ks.length sp gV E tf t tk) := by
  refine ⟨fun pins s σ H Q I h => ?_⟩
  refine wpAny_Call_Name_kw (thn (hf.run pins s σ H _ I h) fun u s0 ⟨y, H0, I0, ry, ey, q0⟩ => ?_)
  subst ey
  obtain rfl : u = Value.ref C := ry
  refine PySem.W.callWith_KW (h₀ := X.base) I0.ok.mod.kin M.kp hall (thn (ha.run pos pins s0 σ H0 _ I0 q0) fun us s1 ⟨vs, H1, I1, r, q⟩ => ?_) hpl he
  refine thn (hkw.run pos pins s1 σ H1 _ I1 q) fun ws s2 ⟨zs, H2, I2, rz, l1, l2, q2⟩ => ⟨I2.kIn, ?_⟩
  rw [hks]
  exact run_makeK M F hr hb hx I2 r rz l1 l2 q2
end
theorem left2 {H : Hp} {a d C : Addr} {fs gs hs : List (Str × V)} (na : H a = none) (o : Option Addr) : upd (del (upd (upd (upd (upd H a (exo a C none)) d (exd d gs)) a (exo a C o)) d (exd d hs)) a) d (.xd fs) = upd H d (.xd fs) := by
  funext b
  by_cases hd : b = d
  · rw [hd, upd_same, upd_same]
  rw [upd_ne hd, upd_ne hd]
  by_cases ha : b = a
  · rw [ha, del_same, na]
  · rw [del_ne ha, upd_ne hd, upd_ne ha, upd_ne hd, upd_ne ha]
def tRaise2 (C : Addr) (f g : Str) (W : WX) (te tu : TE) : TS := fun _ σ H => te σ H fun v H1 => tu σ H1 fun u H2 => ∀ d, H2 d = none → W (.ref C) (some d) σ (upd H2 d (.xd [(g, u), (f, v)]))
section
variable {X : Cx}
theorem ps_raise2 {x f g : Str} {C fi : Addr} {k : Nat} {fd : FuncData} {ps : List Str} {e e2 : Expr} {te tu : TE} {W : WX} {p pos pos2 : Pos} (hc : X.calm = true) (tk : Takes X W) (O : OexC X.K C) (iC : PySem.W.findIn X.K (.ref C) "__init__" = some (some (.ref fi))) (tI : PySem.W.typeIn X.K (.ref fi) = some (.type "function"))
    (F : FnOk X.prog X.w X.K X.mg X.base CX0 k fi fd ps (spErr2 C f g)) (hr : Room (k + 1) X.A) (hb : Binds X.K fd ps []) (hg : Gl X x) (hm : X.mg x = some (.ref C)) (he : PE X e te) (hu : PE X e2 tu) (hdb : (x == ("__debug__" : Str)) = false := by decide)
    (hs : starEach [e, e2] X.env = (false, eval e X.env) :: starEach [e2] X.env := by rfl) (hs2 : starEach [e2] X.env = (false, eval e2 X.env) :: starEach [] X.env := by rfl) (hpl : (backTo pos (starEach [e2] X.env)).any (·.1) = false := by rfl) :
    PS X (.Raise (some (.Call (.Name x p) [e, e2] [] pos)) none pos2) (tRaise2 C f g W te tu) := by
  have R := ps_raise (pos := pos2) hc tk (pmk_oex (p := p) (pos := pos) O iC tI F hr hb .nil pass0 hg hm (pa_cons (pe_up he) (pa_cons (pe_up hu) pa_nil hs2) hs) hdb hs hpl)
  refine ⟨fun pins s σ H D I h => R.run pins s σ H D I ?_⟩
  refine ⟨_, h, fun v H1 q => ⟨_, q, fun u H2 q2 => ⟨by show 2 ≤ 1000; decide, fun a na => ⟨a, v, u, rfl, upd_same, fun d nd ne => ⟨rfl, d, [(g, u), (f, v)], ?_, upd_same, ?_, ?_⟩⟩⟩⟩⟩
  · rw [upd_ne ne.symm, upd_same]
  · rw [upd_ne ne] at nd; exact nd
  · rw [upd_ne ne] at nd
    rw [left2 na]
    exact q2 d nd
end
end Ru
set_option Elab.async false
set_option maxRecDepth 100000
set_option autoImplicit false
/-! try: .. except G as n: y = e -/
namespace Er
open PySem L2 PySem.Spec PyProof.Rows PySem.Calls
/-- what 'except G as n: y = e' wishes of an error of the body: i is n's slot, j is y's -/
def wVal (K : PySem.W.Frag) (c : Value) (i j m : Nat) (te : Addr → Value → Option Addr → TE) (Wout : WX) (D : Ends) : WX := fun cls d σ H =>
  ∃ b, PySem.W.exmOne K cls c = some b ∧ (b = true → σ.length = m → ∀ a, H a = none → te a cls d (σ.set i (some (.ref a))) H (fun v H' => D.nx (((σ.set i (some (.ref a))).set j (some v)).set i none) H')) ∧ (b = false → Wout cls d σ H)
section
variable {X : Cx} {x n y : Str} {c : Value} {i j : Nat} {body : List Stmt} {e₀ : Expr} {te : Addr → Value → Option Addr → TE} {np yp sp pos pos' : Pos} {tb : WX → TS} {Wout : WX}
theorem ps_try_val (hs : X.stack = X.env :: X.outer) (hf : X.env.frame = some X.env.locals) (hex : X.ex = []) (hN : X.N.Nodup) (hi : X.N[i]? = some n) (hj : X.N[j]? = some y) (hln : X.env.kindOf n = some .local) (hly : X.env.kindOf y = some .local) (hc : Names X x c) (tk : Takes X Wout)
    (hsw : swapsWith e₀ (some (.Name y yp)) sp.line X.env = pure false)
    (he : ∀ (a : Addr) (oe : Obj) (cls : Value) (d : Option Addr) (pn : List (Addr × Obj)), Zc cls d oe → (∃ vs, oe.data = .fields vs) → PE (X.suite a ((a, oe) :: pn)) e₀ (te a cls d))
    (hb : ∀ (W : WX) (pn : List (Addr × Obj)) (xe : Value → Shared → Prop), Takes (X.tr pn xe) W → PassesOwn (model X.prog X.w) X.A X.env xe → PSs (X.tr pn xe) body (tb W)) :
    PS X (.Try body [.ExceptHandler (some (.Name x np)) (some n) [.Assign [.Name y yp] e₀ sp] pos'] [] [] pos) (fun D σ H => tb (wVal X.K c i j X.N.length te Wout D) D σ H) := by
  constructor
  intro pins s σ H D I h
  have fine := I.ok
  have frames : X.A.frames = some (X.env :: X.outer) := fine.frames.trans (congrArg some hs)
  have run := (hb (wVal X.K c i j X.N.length te Wout D) (X.pn ++ pins) (fun e s₁ => wpAny (model X.prog X.w) X.A (noteFrame e X.env) (fun _ s₂ => wpAny (model X.prog X.w) X.A (setFlight e none) (fun _ s₃ =>
    wpAny (model X.prog X.w) X.A (handleBy e X.env [.ExceptHandler (some (.Name x np)) (some n) [.Assign [.Name y yp] e₀ sp] pos']) (SP X pins D) X.xe s₃) X.xe s₂) X.xe s₁) ?hit PassesOwn.looking).run [] s σ H D (I.toTry _) h
  case hit =>
    rintro u s' ⟨a, B, sI, pins1, σ1, H1, cls, d, rfl, J0, ground, up0, sky0, na, os, ag, b, test, yes, no⟩
    have J : Inv X pins σ1 H1 sI := J0.ofTry fine
    have sky : Sky B (X.env :: X.outer) a (Zc cls d) X.env.locals s'.heap := hs ▸ sky0
    show wpAny (model X.prog X.w) X.A (noteFrame (.ref a) X.env) _ _ _
    refine Sky.land Zc.steady frames hf sky fun g3 fly3 up3 => ?_
    have J3 : Inv X pins σ1 H1 { s' with heap := g3 } := J.landed ground fly3.1 (up0.trans up3) os ag
    obtain ⟨o3, v3, e3, z3, d3⟩ := fly3.there
    have away : a ∉ frs (X.env :: X.outer) := fun mem => by
      obtain ⟨_, o, e, no_⟩ := fly3.2.2.1.mem mem
      rw [e3] at e; cases e
      exact no_ _ d3
    have awayL : a ≠ X.env.locals := fun z => away (List.mem_filterMap.mpr ⟨X.env, List.mem_cons_self, hf.trans (congrArg some z.symm)⟩)
    have awayF : a ∉ X.fs := fun mem => by
      obtain ⟨e, m1, m2⟩ := List.mem_filterMap.mp mem
      exact away (List.mem_filterMap.mpr ⟨e, List.mem_cons_of_mem _ m1, m2⟩)
    -- the error is younger than the entry
    have young : sI.heap.get? a = none := by
      cases q : sI.heap.get? a with
      | none => rfl
      | some o =>
        have qB := ground a o q (by rw [hs]; exact away)
        rw [fly3.2.1] at qB; cases qB
    have entry : X.s_0.heap.get? a = none := by
      cases q : X.s_0.heap.get? a with
      | none => rfl
      | some o =>
        obtain ⟨o', q'⟩ := J.base.there a o q (by rw [hex]; exact List.not_mem_nil)
        rw [young] at q'; cases q'
    have apart : ∀ p ∈ X.pn ++ pins, p.1 ≠ a := fun p hp z => by
      have q := (J.pin p hp).1
      rw [z, young] at q; cases q
    have S3 := J3.suite e3 d3 na awayL awayF
    refine wpAny_handleBy_cons (codeAny_handlers_test ?_) (by intro q; cases q)
    have LT : PySem.W.Looks (model X.prog X.w) g3 (typeOf (.ref a)) cls := fun _ _ _ _ k q => wpAny_typeOf_ref (k _ _ e3) (by rw [z3.1]; exact q)
    have LM := PySem.W.exm_one (M := model X.prog X.w) J3.kIn LT test
    have named : ∀ {Q : Value → Shared → Prop} {E : Value → Shared → Prop}, Q c { s' with heap := g3 } → wpAny (model X.prog X.w) (X.A.mark (some (.ref a))) (eval (.Name x np) X.env) Q E { s' with heap := g3 } := fun {Q E} q => by
      rcases hc with ⟨hg, hdbg, hm | ⟨hm, hv, hnn⟩⟩
      · exact ld_glob (X := X.suite a ((a, o3) :: (X.pn ++ pins))) S3 hg hm q hdbg
      · exact ld_blt (X := X.suite a ((a, o3) :: (X.pn ++ pins))) S3 hg hm hv q hnn hdbg
    refine named (LM.here ?_)
    cases b with
    | true =>
      refine codeAny_handlers_suite_as (HandSPX.lands_againZ fly3 fun g4 fly4 up4 => ?_)
      have J4 : Inv X pins σ1 H1 { s' with heap := g4 } := J.landed ground fly4.1 ((up0.trans up3).trans up4) os ag
      obtain ⟨o4, v4, e4, z4, d4⟩ := fly4.there
      have S4 := J4.suite e4 d4 na awayL awayF
      refine store_ok (X := X.suite a ((a, o4) :: (X.pn ++ pins))) (v := .ref a) S4 hN hi (.inl hln) rfl (fun s5 S5 => ?_) (.inr hln)
      have one := pss_one (X := X.suite a ((a, o4) :: (X.pn ++ pins))) (ps_set (pos := sp) (pos' := yp) (i := j) hN hj (.inl hly) (he a o4 cls d (X.pn ++ pins) z4 ⟨v4, d4⟩) hsw (.inr hly))
      refine wpAny_mono (one.run [] s5 _ H1 { nx := fun σ' H' => D.nx (σ'.set i none) H', rt := fun _ _ => False } S5 (yes rfl S4.len a na)) (fun fl s6 got => ?_) (fun _ _ z => False.elim z)
      cases fl with
      | next =>
        obtain ⟨_, _, S6, q6⟩ := got
        exact gone_ok (S6.unsuite fine) hN hi hln fun s7 J7 => ⟨_, _, J7, q6⟩
      | ret u => obtain ⟨_, _, _, _, _, z⟩ := got; exact z.elim
      | brk => obtain ⟨_, _, _, z⟩ := got; exact z.elim
      | cont => obtain ⟨_, _, _, z⟩ := got; exact z.elim
    | false =>
      show wpAny (model X.prog X.w) X.A (handleBy (.ref a) X.env []) _ _ _
      refine wpAny_handleBy_nil ?_
      obtain ⟨_, _, _, oe, vs, T, oT, us, q1, q2, q3, q4, q5⟩ := id fly3
      unfold PySem.passOn
      refine wpAny_bind (wpAny_field q1 q3 q4 ?_)
      rw [if_neg (by simp)]
      have out : wpAny (model X.prog X.w) X.A (setFlight (.ref a) X.env.frame) (fun _ s4 => wpAny (model X.prog X.w) X.A (throw (.ref a) : Sem Flow) (SP X pins D) X.xe s4) X.xe { s' with heap := g3 } := by
        rw [hf]
        exact HandSPX.setFlight_upZ fly3 fun g4 held up4 => wpAny_throw (tk _ _ ⟨a, B, sI, pins, σ1, H1, cls, d, rfl, J, ground, (up0.trans up3).trans up4, .inr (.inr (by rw [hs]; exact held)), na, os, ag, no rfl⟩)
      first
        | exact wpAny_bind (wpAny_pure (wpAny_bind out))
        | exact wpAny_bind out
  refine wpAny_Try_except (wpAny_mono run (fun f s1 got => ?_) fun e s1 he => he)
  cases f with
  | next => obtain ⟨σ', H', J', q⟩ := got; exact wpAny_execs_nil ⟨σ', H', J'.ofTry fine, q⟩
  | brk => obtain ⟨σ', H', J', q⟩ := got; exact ⟨σ', H', J'.ofTry fine, q⟩
  | cont => obtain ⟨σ', H', J', q⟩ := got; exact ⟨σ', H', J'.ofTry fine, q⟩
  | ret u => obtain ⟨v, σ', H', J', r, q⟩ := got; exact ⟨v, σ', H', J'.ofTry fine, r, q⟩
end
end Er
set_option Elab.async false
set_option maxRecDepth 100000
set_option autoImplicit false
/-! C.m(e, ..), m a classmethod: what is raised is wished for at the caller's slots -/
namespace Ru
open PySem L2 PySem.Spec PyProof.Rows PySem.Calls Er ClX
section
variable {X : Cx} {CX : CXT} {k : Nat} {C p g : Addr} {mc : Value} {sp : Sp} {E : L2.St → XK} {o e : Expr} {es : List Expr} {m : Str} {pos apos : Pos} {ta : TE} {t : TA} {pl : Sem Bool} {pins : List (Addr × Obj)} {σ : L2.St} {H : Hp} {s : Shared}
theorem run_cmS {q : Addr} {Q : VK} {us : List Value} {vs : List V} (F : FnR X.prog X.w X.K X.mg X.base CX k g sp) (hr : Room k X.A) (hx : PassesAt CX X σ (E σ)) (I : Inv X ((q, PySem.W.methodObj (.ref g) (.ref C)) :: pins) σ H s)
    (r : Vals vs us) (h : sp (.ref C :: vs) H Q (E σ)) : wpAny (model X.prog X.w) X.A (call (.ref q) us) (EP X pins σ Q) X.xe s := by
  have z : wpAny (model X.prog X.w) X.A (call (.ref q) us) (EP X ((q, PySem.W.methodObj (.ref g) (.ref C)) :: pins) σ Q) X.xe s := by
    refine wpAny_call (PySem.W.method_call (pin_at I) (codeAny_mono (F X.A X.stack s H (.ref C :: us) (.ref C :: vs) Q (E σ) hr I.env0 (.cons rfl r) h) fun res s' got => ?_))
    rcases res with er | fl
    · exact hx _ H s er s' I got
    · cases fl <;> first | exact I.after got | exact False.elim got
  exact thn z fun _ _ y => unpinE y
def tCMethS (C : Addr) (sp : Sp) (E : L2.St → XK) (ta : TE) (t : TA) : TE := fun σ H Q => ta σ H fun x H1 => x = .ref C ∧ t σ H1 fun vs H2 => sp (.ref C :: vs) H2 Q (E σ)
theorem pe_cmethS (he : PE X o ta) (r : CRead X.K C mc) (c : CMet X.K C mc m p g) (F : FnR X.prog X.w X.K X.mg X.base CX k g sp) (hr : Room k X.A) (hx : ∀ σ, PassesAt CX X σ (E σ)) (ha : PA X (e :: es) t)
    (hst : starEach (e :: es) X.env = (false, eval e X.env) :: starEach es X.env := by rfl) (hpl : (backTo pos (starEach es X.env)).any (·.1) = false := by rfl)
    (ht : eval (.Call (.Attribute o m apos) (e :: es) [] pos) X.env = (do
      let ov ← eval o X.env
      standAt apos.atName
      let (f, first) ← holding [ov] (getMethod ov m pl)
      callWith pos f first (backTo pos (starEach (e :: es) X.env)) (backToKw pos (keywordEach [] X.env))) := by rfl) :
    PE X (.Call (.Attribute o m apos) (e :: es) [] pos) (tCMethS C sp E ta t) := by
  refine ⟨fun pins s σ H Q I h => PySem.W.methodCall_KW (pl := pl) (thn (he.run pins s σ H _ I h) fun u s1 ⟨x, H1, I1, rx, ex, q⟩ => ?_) ht⟩
  subst ex
  obtain rfl : u = Value.ref C := rx
  refine getmethcm_ok I1 r c fun s2 I2 => callwith_cm I2 (base_none I1 (Nat.le_refl _)) c.fi (thn (ha.run pos _ s2 σ H1 _ I2 q) fun us s3 ⟨vs, H2, I3, rv, q2⟩ => ⟨⟨pin_at I3, I3.kIn⟩, ?_⟩) hst hpl
  exact run_cmS F hr (hx σ) I3 rv q2
end
end Ru
set_option Elab.async false
set_option maxRecDepth 100000
set_option autoImplicit false
/-! super().__init__(..) of a plain class of the program, as a last line. -/
namespace Er
open PySem L2 PySem.Spec PyProof.Rows PySem.Calls
/-- a promise of a def by its place, of a promise of it -/
theorem fnR_of {P : Program} {w : World} {K : PySem.W.Frag} {mg : Str → Option Value} {base : Heap} {CX : CXT} {k : Nat} {f : Addr} {fd : FuncData} {ps : List Str} {sp : Sp} (F : FnOk P w K mg base CX k f fd ps sp) (bd : Binds K fd ps []) : FnR P w K mg base CX k f sp := by
  intro A outer s H us vs Q E hr e0 r want
  have len : us.length = ps.length := r.length.symm.trans (F.len _ _ _ _ want)
  have bt : BindsTo s fd ⟨us, []⟩ (ps.zip us) := by
    have z := bd s us (e0.mod.kin.keeps fun b o e => (e0.bs b o e).1) (by rw [List.append_nil]; exact len)
    rw [List.append_nil] at z
    exact z
  exact F.run A outer s H ⟨us, []⟩ us vs Q E hr e0 bt r want
/-- what is written of the class C, of its __init__ at fI (its cell at cc, its code at cda), and of the __init__ above, at f2 -/
structure SupC (prog : Program) (K : PySem.W.Frag) (C fI cc cda f2 : Addr) : Prop where
  cls : ∃ cd oD, PySem.W.clsIn K C = some cd ∧ K.lookup C = some oD ∧ oD.data = .cls cd
  sup : PySem.W.ks_superIn K C C "__init__" = some (some (.ref f2))
  ty : PySem.W.typeIn K (.ref f2) = some (.type "function")
  fi : PySem.W.fnIn K f2 = true
  any_ : PySem.W.nsIn K cStatics "thirdparty.any" = some none
  self_ : PySem.W.mroIn K C (.ref C) = some true
  cell : ∃ cl cld csl, K.lookup cc = some ⟨cl, cld, .cell (some (.ref C)), csl⟩
  code : ∃ ccl cdd vs ccs file tf, K.lookup cda = some ⟨ccl, cdd, .fields vs, ccs⟩ ∧ vs[2]? = some (.str file tf) ∧ ((prog.main.file : Str) == file) = true
  top : (prog.main.scope.names.lookup ("super" : Str)).isSome = false
section
variable {P : Program} {w : World} {K : PySem.W.Frag} {mg : Str → Option Value} {base : Heap}
theorem start_inv2 {ps : List Str} {qual : Str} {scope : Scope} {f cda cc : Addr} {A : Around} {outer : List Env} {s : Shared} {H : Hp} {us : List Value} {vs : List V} {h0 : Heap} {tk : Nat} (S : ErrS ps scope) (hcell : ∃ cl cld C csl, K.lookup cc = some ⟨cl, cld, .cell (some (.ref C)), csl⟩) (hd : A.handled = none) (e0 : Env0 P w K mg base A outer s H)
    (hl : vs.length = ps.length) (r : Vals vs us) (hns : h0.Ns s.heap.objs.size (fun x => (ps.zip us).reverse.lookup x)) (keep : ∀ b o, s.heap.get? b = some o → h0.get? b = some o) :
    Inv (exX P w K mg base ps qual scope f cda cc A outer s H) [] (L2.start ps vs) H { s with heap := h0, toks := tk } := by
  obtain ⟨cl, cld, C, csl, hcell⟩ := hcell
  have bc := e0.mod.kin _ _ hcell
  have one : ∀ {x : Str} {c : Addr}, ([(("__class__" : Str), cc)] : List (Str × Addr)).lookup x = some c → x = "__class__" ∧ c = cc := by
    intro x c e
    by_cases q : x = "__class__"
    · subst q
      have z : some cc = some c := e
      exact ⟨rfl, (Option.some.inj z).symm⟩
    · have q2 : (x == ("__class__" : Str)) = false := by simpa using q
      simp [List.lookup, q2] at e
  have noex : ∀ b : Addr, b ∉ (exX P w K mg base ps qual scope f cda cc A outer s H).ex := fun b z => absurd (show b ∈ ([] : List Addr) from z) (by simp)
  refine ⟨⟨e0.mod, S.kind, rfl, rfl, Nat.le_refl _, fun x y c h1 h2 => ?_, fun x hx => ?_, fun x c z _ => absurd (show false = true from z) Bool.false_ne_true, fun _ => hd, Around.frames_deeper e0.frames, .inr ⟨rfl, rfl⟩, fun b z => absurd z (noex b), e0.bs, e0.bsz, fun b _ _ => noex b, fun b z => absurd z (noex b), e0.funs, e0.frf⟩,
    rfl, e0.bare, Un.kept keep, ⟨_, hns, fun i x v h1 h2 h3 => ?_⟩, fun x c h => ?_, e0.hok.fresh (Nat.le_refl _), fun x c h => ?_, fun p hp => absurd (show p ∈ ([] : List (Addr × Obj)) from hp) (by simp), e0.hok.kept keep, ?_⟩
  · exact (one h1).1.trans (one h2).1.symm
  · have hx' : scope.names.lookup x = some .cell ∨ scope.names.lookup x = some .free := hx
    rcases hx' with z | z
    · exact absurd rfl (S.nocell _ (PySem.mem_of_lookup z))
    · refine ⟨cc, ?_⟩
      show ([(("__class__" : Str), cc)] : List (Str × Addr)).lookup x = some cc
      rw [S.free x z]
      rfl
  · have hi : i < vs.length := by
      have q := (List.getElem?_eq_some_iff.mp h1).1
      have q : i < ps.length := q
      omega
    have ha : vs[i]? = some v := by
      unfold L2.start at h2
      rw [List.getElem?_append_left (by simpa using hi), List.getElem?_map] at h2
      cases e : vs[i]? with
      | none => rw [e] at h2; cases h2
      | some a => rw [e] at h2; cases h2; rfl
    obtain ⟨u, hu, rv⟩ := r.get ha
    have hp : ps[i]? = some x := h1
    exact ⟨u, rv, .inl ⟨S.par x (List.mem_of_getElem? hp), zip_rev S.nd (r.length.symm.trans hl) hp hu⟩⟩
  · obtain ⟨_, rfl⟩ := one h
    exact ⟨_, _, keep _ _ (e0.bs _ _ bc).1, rfl⟩
  · obtain ⟨_, rfl⟩ := one h
    exact (e0.bs _ _ bc).2
  · unfold L2.start
    show _ = ps.length
    rw [List.length_append, List.length_map, List.length_replicate]
    omega
/-- one statement ahead of the line -/
theorem at_cons {X : Cx} {st : Stmt} {rest body : List Stmt} {tp : TS} {pins : List (Addr × Obj)} {σ : L2.St} {H : Hp} {s : Shared} {Q : Flow → Shared → Prop} {E : Value → Shared → Prop} (hxe : X.xe = fun _ _ => False) (hp : PS X st tp) (I : Inv X pins σ H s)
    (h : tp { nx := fun σ' H' => ∀ s', Inv X pins σ' H' s' → _root_.PySem.wpAt (model X.prog X.w) X.A (.func body X.env) (execs rest X.env) Q E s', rt := fun _ _ => False } σ H) :
    _root_.PySem.wpAt (model X.prog X.w) X.A (.func body X.env) (execs (st :: rest) X.env) Q E s := by
  refine ks_wpAt_execs_cons (wpAt_of_wpAny (wpAny_mono (hp.run pins s σ H _ I h) (fun fl s1 out => ?_) fun e s1 z => ?_))
  · cases fl with
    | next => obtain ⟨σ', H', J, q⟩ := out; exact q s1 J
    | ret u => obtain ⟨_, _, _, _, _, z⟩ := out; exact z.elim
    | brk => obtain ⟨_, _, _, z⟩ := out; exact z.elim
    | cont => obtain ⟨_, _, _, z⟩ := out; exact z.elim
  · rw [hxe] at z
    exact z.elim
/-- super().__init__(e, ..), the last line -/
theorem superAt {ps : List Str} {qual : Str} {scope : Scope} {C fI cc cda f2 x dx : Addr} {A : Around} {outer : List Env} {s0 s : Shared} {H0 H : Hp} {fd : FuncData} {oc : Value} {od : Option Addr} {osl : Array (Option Value)} {ar : Arg} {fs : List (Str × V)} {body : List Stmt} {e : Expr} {es : List Expr} {t : TA} {k : Nat} {sp : Sp}
    {pins : List (Addr × Obj)} {σ : L2.St} {Qn : Hp → Prop} {Q : Flow → Shared → Prop} {E : Value → Shared → Prop} {p0 p1 p2 p4 p5 : Pos} {pl : Sem Bool} (S : ErrS ps scope) (T : SupC P K C fI cc cda f2) (lk : K.lookup fI = some ⟨oc, od, .func fd, osl⟩) (hp : (fd.params.posonlyargs ++ fd.params.args).head? = some ar) (har : ar.arg = "self") (gs : mg "super" = none)
    (F2 : FnR P w K mg base CX0 k f2 sp) (hr : Room k (exX P w K mg base ps qual scope fI cda cc A outer s0 H0).A) (ha : PA (exX P w K mg base ps qual scope fI cda cc A outer s0 H0) (e :: es) t) (hs0 : σ[0]? = some (some (.ref x))) (hx : H x = some (.ins C dx fs)) (I : Inv (exX P w K mg base ps qual scope fI cda cc A outer s0 H0) pins σ H s)
    (want : t σ H fun vs H1 => sp (.ref x :: vs) H1 (fun _ H2 => Qn H2) fun _ _ _ => False) (go : ∀ s' H', Inv (exX P w K mg base ps qual scope fI cda cc A outer s0 H0) pins σ H' s' → Qn H' → Q .next s')
    (he : eval (.Call (.Attribute (.Call (.Name "super" p0) [] [] p1) "__init__" p2) (e :: es) [] p4) (exX P w K mg base ps qual scope fI cda cc A outer s0 H0).env = (do
        let ov ← attributeBase (.Call (.Name "super" p0) [] [] p1) "__init__" (exX P w K mg base ps qual scope fI cda cc A outer s0 H0).env (eval (.Call (.Name "super" p0) [] [] p1) (exX P w K mg base ps qual scope fI cda cc A outer s0 H0).env)
        standAt p2.atName
        let (f, first) ← holding [ov] (getMethod ov "__init__" pl)
        callWith p4 f first (backTo p4 (starEach (e :: es) (exX P w K mg base ps qual scope fI cda cc A outer s0 H0).env)) []) := by rfl)
    (hi : interactive (exX P w K mg base ps qual scope fI cda cc A outer s0 H0).env = false := by rfl) (hsw : swapsWith (.Call (.Attribute (.Call (.Name "super" p0) [] [] p1) "__init__" p2) (e :: es) [] p4) none p5.line (exX P w K mg base ps qual scope fI cda cc A outer s0 H0).env = pure false := by rfl)
    (hst : starEach (e :: es) (exX P w K mg base ps qual scope fI cda cc A outer s0 H0).env = (false, eval e (exX P w K mg base ps qual scope fI cda cc A outer s0 H0).env) :: starEach es (exX P w K mg base ps qual scope fI cda cc A outer s0 H0).env := by rfl) (hpl : (backTo p4 (starEach es (exX P w K mg base ps qual scope fI cda cc A outer s0 H0).env)).any (·.1) = false := by rfl) :
    _root_.PySem.wpAt (model P w) (exX P w K mg base ps qual scope fI cda cc A outer s0 H0).A (.func body (exX P w K mg base ps qual scope fI cda cc A outer s0 H0).env) (exec (.Expr (.Call (.Attribute (.Call (.Name "super" p0) [] [] p1) "__init__" p2) (e :: es) [] p4) p5) (exX P w K mg base ps qual scope fI cda cc A outer s0 H0).env) Q E s := by
  obtain ⟨cd, oD, hcd, hD, hDd⟩ := T.cls
  obtain ⟨ccl, cdd, vs, ccs, file, tf, hcode, hvs, hfile⟩ := T.code
  obtain ⟨cl, cld, csl, hcell⟩ := T.cell
  have along : PySem.W.alongIn K "__init__" ((cd.mro.dropWhile (· != .ref C)).drop 1) = some (some (.ref f2)) := by
    obtain ⟨cd', h1, h2⟩ := Option.bind_eq_some_iff.mp T.sup
    rw [hcd] at h1
    cases h1
    exact h2
  have KX : K.In s.heap := I.kIn
  obtain ⟨od', J⟩ := Rg.instAt I hx
  have ne : x ≠ C := PySem.W.ks_ne KX J hcd
  obtain ⟨mb, hmb, hbb⟩ := I.mod.blt
  obtain ⟨m, hns, hl⟩ := I.loc
  have hloc : scope.names.lookup ("self" : Str) = some .local := S.par _ (List.mem_of_getElem? S.self_)
  have hself : m "self" = some (.ref x) := by
    obtain ⟨u, ru, look⟩ := hl 0 "self" (.ref x) S.self_ hs0 (.inl hloc)
    obtain rfl : u = Value.ref x := ru
    rcases look with ⟨_, q⟩ | ⟨hk, _⟩
    · exact q
    · exfalso
      have hk' : scope.names.lookup ("self" : Str) = some .cell ∨ scope.names.lookup ("self" : Str) = some .free := hk
      rw [hloc] at hk'
      rcases hk' with z | z <;> cases z
  have I0 := I
  obtain ⟨hh, g, d, tk, os⟩ := s
  refine PySem.ks_wpAt_Expr_any (PySem.ks_wpAt_MethodCall (PySem.ks_wpAt_super_base (env := PySem.W.ksEnv qual scope s0.heap.objs.size fI (.ref cda) cc) S.sup S.cls (by decide) rfl (KX _ _ lk) rfl hp rfl (KX _ _ hcode) rfl hvs hfile T.top ?_) he) hi hsw
  refine PySem.W.ks_loadName_global S.kind S.sup (loadGlobal_builtin (env := PySem.W.ksEnv qual scope s0.heap.objs.size fI (.ref cda) cc) (I.mod.glob.keeps I.bk) gs (hmb.keeps I.bk) ((hbb _ (by decide)).trans (by decide +kernel : bootBuiltins "super" = some (.type "super"))) ⟨rfl, ?_⟩)
  rw [har]
  refine wpAny_loadName_free S.kind S.cls rfl ⟨_, KX _ _ hcell, rfl⟩ (wpAny_loadName_local S.kind hloc hns hself (PySem.ks_wpAny_isType_cls (KX _ _ hD) hDd ⟨rfl, ?_⟩))
  refine PySem.ks_wpAny_call_super (KX _ _ hD) hDd J.at_ J.cls (fun c e => ?_) (PySem.W.looks_mroIn KX T.self_) (fun h1 hso keep => ?_)
  · have q := J.no
    unfold PySem.W.notCls at q
    rw [e] at q
    exact Bool.noConfusion q
  have X1 := KX.keeps keep
  obtain ⟨of, hof, hofc⟩ : ∃ of, h1.get? f2 = some of ∧ of.cls = .type "function" := by
    have ht' : (K.lookup f2).map (·.cls) = some (.type "function") := T.ty
    cases z : K.lookup f2 with
    | none => rw [z] at ht'; cases ht'
    | some of => rw [z] at ht'; exact ⟨of, X1 _ _ z, Option.some.inj ht'⟩
  refine PySem.ks_wpAny_getMethod_super hso (PySem.W.looks_opaque X1 T.any_) (l₀ := cd.mro) (fun A Q E s k q => wpAny_bind (PySem.W.looks_clsIn X1 hcd A _ E s k (wpAny_pure q))) rfl X1 along hof hofc ne (by decide) ?_
  have I1 := I0.kept (t' := tk) keep
  have I2 := ClX.pin_new (o := PySem.W.methodObj (.ref f2) (.ref x)) (h' := h1.push (PySem.W.methodObj (.ref f2) (.ref x))) (a := h1.objs.size) (t' := tk + 1) I1 (fun _ _ z => Heap.get?_push_of_some _ z) (Nat.le_refl _) (Heap.get?_push_size h1 rfl) (fun v z => nomatch z)
  refine ClX.callwith_cm I2 (ClX.base_none I1 (Nat.le_refl _)) T.fi (wpAny_mono (ha.run p4 _ _ σ H _ I2 want) (fun us s3 ⟨vs, H2, I3, rv, q2⟩ => ⟨⟨ClX.pin_at I3, I3.kIn⟩, ?_⟩) fun _ _ z => False.elim z) hst hpl
  exact wpAny_mono (ClX.run_cm F2 hr pass0 I3 rv q2) (fun v s' ⟨u, H', I', r, q⟩ => go s' H' I' q) fun _ _ z => False.elim z
/-- a def whose last line is super().__init__(..) -/
theorem ok_sup {k : Nat} {ps : List Str} {name qual : Str} {params : Arguments} {body : List Stmt} {scope : Scope} {C f cda cc f2 : Addr} {oc dV kV doc pm ct : Value} {od an : Option Addr} {osl : Array (Option Value)} {sp : Sp} (T : SupC P K C f cc cda f2) (S : ErrS ps scope)
    (lk : K.lookup f = some ⟨oc, od, .func (PySem.W.ksFn name qual params body scope dV kV doc pm an (.ref cda) ct cc), osl⟩) (hcd : PySem.W.codeIn K (.ref cda) qual = true) (len : ∀ vs H Q E, sp vs H Q E → vs.length = ps.length)
    (hbody : ∀ (A : Around) (outer : List Env) (s : Shared) (H : Hp) (vs : List V) (Q : VK) (E : XK), Room k (exX P w K mg base ps qual scope f cda cc A outer s H).A → sp vs H Q E → ∀ s1, Inv (exX P w K mg base ps qual scope f cda cc A outer s H) [] (L2.start ps vs) H s1 →
      _root_.PySem.wpAt (model P w) (exX P w K mg base ps qual scope f cda cc A outer s H).A (.func body (exX P w K mg base ps qual scope f cda cc A outer s H).env) (execs body (exX P w K mg base ps qual scope f cda cc A outer s H).env)
        (fun fl s2 => fl = .next ∧ ∃ σ' H2, Inv (exX P w K mg base ps qual scope f cda cc A outer s H) [] σ' H2 s2 ∧ Q .non H2) (fun _ _ => False) s1) :
    FnOk P w K mg base CX0 (k + 1) f (PySem.W.ksFn name qual params body scope dV kV doc pm an (.ref cda) ct cc) ps sp := by
  refine ⟨len, fun A outer s H args us vs Q E hr e0 hbind r hsp => ?_⟩
  have there : ∀ b o, base.get? b = some o → s.heap.get? b = some o := fun b o e => (e0.bs b o e).1
  have KX : K.In s.heap := e0.mod.kin.keeps there
  have hl := len _ _ _ _ hsp
  obtain ⟨cl, cld, csl, hcell⟩ := T.cell
  refine ks_codeAny_call_defAt hr.depth (KX _ _ lk) rfl (e0.mod.nolimit.keeps there) (PySem.W.codeRec_of KX hcd) rfl hbind S.nocell (fun x hx => S.par _ (List.of_mem_zip hx).1) (fun h0 hns keep => ?_) S.co S.gen S.kind
  have I0 := start_inv2 (w := w) (qual := qual) (f := f) (cda := cda) (tk := s.toks + (ps.zip us).length) S ⟨_, _, _, _, hcell⟩ hr.hd e0 hl r hns keep
  refine ks_wpAt_mono (hbody A outer s H vs Q E (hr.deeper _) hsp _ I0) (fun fl s2 out => ?_) fun _ _ z => False.elim z
  obtain ⟨rfl, σ', H2, J, q⟩ := out
  exact ⟨V.non, H2, J.os, J.bare, J.base, J.hok, rfl, q⟩
end
end Er
set_option Elab.async false
set_option maxRecDepth 100000
set_option autoImplicit false
/-! enumerate over a tuple -/
namespace Tn
open PySem L2 PySem.Spec PyProof.Rows PySem.Calls
open Builtin
set_option maxHeartbeats 1000000 in
theorem enumNew {v : Value} {o : Obj} {G : Heap → Prop} (B : Begins v o G) :
    Meets (Builtin.«enumerate.__new__» ⟨[.type "enumerate", v], []⟩) (fun _ R s => G s.heap ∧
      R (.ok (.ret (.ref (s.heap.push o).objs.size))) { s with heap := (s.heap.push o).push { cls := .type "enumerate", data := .fields #[.none, .bool false, .ref s.heap.objs.size, rawInt 0, .none, .none] } }) :=
  .of_wp fun prog w A R s h => by
    obtain ⟨hp, g, d, tk, os⟩ := s; obtain ⟨h1, h⟩ := h
    have hsub := sub_enumerate
    have q1 : ∀ {A' : Around} {E : Value → Shared → Prop} {Q : Value → Shared → Prop}, Q (.ref hp.objs.size) ⟨hp.push o, g, d, tk, os⟩ → wpAny (model prog w) A' (pyIter v) Q E ⟨hp, g, d, tk, os⟩ :=
      fun q => B.iter prog w _ _ ⟨hp, g, d, tk, os⟩ _ h1 q
    wp_walk using q1
    refine wpAny_stack_any fun st => wpAny_pure ?_
    split
    · rename_i c _ _ _ _ _
      cases (c == Value.type "enumerate")
      · wp_walk using q1
        exact ⟨_, rfl, h⟩
      · wp_walk using q1
        exact ⟨_, rfl, h⟩
    · wp_walk using q1
      exact ⟨_, rfl, h⟩
section
variable {prog : Program} {w : World} {A : Around} {E : Value → Shared → Prop} {s : Shared}
theorem enumBegins {v : Value} {o : Obj} {G : Heap → Prop} {Q : Value → Shared → Prop} (B : Begins v o G) (h1 : G s.heap)
    (h : ∀ h', IsEnum h' (s.heap.objs.size + 1) s.heap.objs.size 0 .none → h'.get? s.heap.objs.size = some o → h'.objs.size = s.heap.objs.size + 2 →
      (∀ b o, s.heap.get? b = some o → h'.get? b = some o) → Q (.ref (s.heap.objs.size + 1)) { s with heap := h' }) :
    wpAny (model prog w) A (call (.type "enumerate") [v]) Q E s := by
  refine callType_new F.called_enumerate (by decide) (F.typeCall_enumerate_1 _) (F.newCall_enumerate_1 _) (fun obj => F.args_object_init_2 obj _) F.entry_enumerate_new
    (enumNew B) ⟨h1, ?_⟩
  have hz : (s.heap.push o).objs.size = s.heap.objs.size + 1 := Heap.size_push ..
  show _ ∧ _
  rw [hz]
  have he : IsEnum ((s.heap.push o).push { cls := .type "enumerate", data := .fields #[.none, .bool false, .ref s.heap.objs.size, rawInt 0, .none, .none] }) (s.heap.objs.size + 1) s.heap.objs.size 0 .none := by
    have := Heap.get?_push_size (s.heap.push o) (o := { cls := .type "enumerate", data := .fields #[.none, .bool false, .ref s.heap.objs.size, rawInt 0, .none, .none] }) rfl
    rw [hz] at this; exact this
  refine ⟨⟨_, he, rfl⟩, h _ he (Heap.get?_push_of_some _ (Heap.get?_push_size _ B.free)) (by rw [Heap.size_push, hz]) fun b o x => Heap.get?_push_of_some _ (Heap.get?_push_of_some _ x)⟩
end
/-- the tuple at a, each item in a new pair -/
def Iet (K : PySem.W.Frag) (a : Addr) : It :=
  ⟨fun i H => ∃ (xs : List V) (x : V), SqT K H a xs ∧ xs[i]? = some x, fun i H v H' => ∃ T x, v = .ref T ∧ H T = none ∧ H' = upd H T (.tup [.int (i : Nat), x]) ∧ ∀ xs, SqT K H a xs → xs[i]? = some x, fun i H => ∃ xs : List V, SqT K H a xs ∧ xs.length ≤ i⟩
theorem turn_enumT {P : Program} {w : World} {K : PySem.W.Frag} {elts : List Expr} {kk : Nat} {tpos : Pos} (a e it : Addr) (hae : a ≠ it) (hae2 : e ≠ a) :
    Turn P w K (.Tuple elts kk tpos) (Iet K a) [e, it] e (fun i h => (∃ old, IsEnum h e it ((i : Nat) : Int) old) ∧ h.IsTupleIter it a i ∧ e ≠ it) where
  mem := by simp
  obj := fun i h st b hb => by
    obtain ⟨⟨old, he⟩, ⟨o, ho, hc, hd⟩, _⟩ := st
    have e' : b = e ∨ b = it := by simpa using hb
    rcases e' with z | z
    · rw [z]; exact ⟨_, he, fun v q => nomatch q⟩
    · rw [z]; exact ⟨o, ho, fun v q => by rw [hd] at q; cases q⟩
  keep := fun i h h' st k => let ⟨⟨old, he⟩, hi, hne⟩ := st; ⟨⟨old, k e (by simp) _ he⟩, hi.at fun o q => k it (by simp) o q, hne⟩
  item := by
    intro X hP hw hK hc i pins s σ H E I hf st hg
    subst hP hw hK
    obtain ⟨⟨old, he⟩, hit, hne⟩ := st
    obtain ⟨xs, x, hq, hx⟩ := hg
    obtain ⟨its, rv, p, hz⟩ := I.tuple hq
    obtain ⟨u, hu, ru⟩ := rv.get hx
    have hel : e < s.heap.objs.size := Heap.lt_size he
    have hil : it < s.heap.objs.size := by obtain ⟨_, q, _⟩ := hit; exact Heap.lt_size q
    have hT : s.heap.IsTuple a its.toArray := p
    have hlt : i < its.toArray.size := by
      have := (List.getElem?_eq_some_iff.mp hu).1
      simpa using this
    have D := Draws.tuple (prog := X.prog) (w := X.w) (A := X.A.in1) (show X.A.in1.handled = none from I.ok.hd hc) it a hae its.toArray
    refine wpAny_pyNext_enum_itemD (n := its.toArray.size) D he ⟨hit, hT⟩ hlt hne (by simp [hne, hae2]) fun y h' tk hy ho hs' hT' hsz hk => ?_
    have hyu : y = u := by
      have hy2 : its.toArray[i]? = some y := hy
      rw [List.getElem?_toArray, hu] at hy2
      exact (Option.some.inj hy2).symm
    subst hyu
    obtain ⟨hit', _⟩ := hs'
    refine ⟨_, rfl, wpAny_letOwnedTupleGo_enum (s := { s with heap := h', toks := tk + 1 }) ho fun h'' he' sb => ?_⟩
    have hT2 : h''.get? s.heap.objs.size = some { cls := .type "tuple", data := .seq #[.int i tk, y] } := (sb.2 _ (Nat.ne_of_gt hel)).trans hT'
    have new : ObjOk X.prog X.w (upd H s.heap.objs.size (.tup [.int (i : Nat), x])) h'' s.heap.objs.size (.tup [.int (i : Nat), x]) :=
      ⟨by show 2 ≤ sizeLine; decide, [.int i tk, y], .cons ⟨_, rfl⟩ (.cons ru .nil), ⟨_, hT2, rfl, _, rfl⟩⟩
    have I1 : Inv X pins σ (upd H s.heap.objs.size (.tup [.int (i : Nat), x])) { s with heap := h'', toks := tk + 1 } :=
      I.turnedNew (ch := [e, it]) (fun b ob hb q => (sb.2 b (fun z => hb (by simp [z]))).trans (hk b ob (fun z => hb (by simp [z])) (fun z => hb (by simp [z])) q)) hf (Nat.le_refl _) new
    refine ⟨.ref s.heap.objs.size, _, I1, rfl, ⟨_, x, rfl, I.hok.fresh (Nat.le_refl _), rfl, fun ys hy => by rw [I.tuple_inj hy hq]; exact hx⟩, ⟨⟨y, ?_⟩, hit'.at fun o q => (sb.2 it (Ne.symm hne)).trans q, hne⟩, fun b hb => ?_⟩
    · have e1 : ((i + 1 : Nat) : Int) = (i : Int) + 1 := by omega
      rw [e1]; exact he'
    · have hb' : b < s.heap.objs.size := by
        have e' : b = e ∨ b = it := by simpa using hb
        rcases e' with z | z
        · rw [z]; exact hel
        · rw [z]; exact hil
      rw [upd_ne (Nat.ne_of_lt hb')]
      exact (hf b hb).1
  done := by
    intro X hP hw hK hc i pins s σ H E I hf st hg
    subst hP hw hK
    obtain ⟨⟨old, he⟩, hit, hne⟩ := st
    obtain ⟨xs, hq, hx⟩ := hg
    obtain ⟨its, rv, p, hz⟩ := I.tuple hq
    obtain ⟨f0, f1, f2, f3, f4, f5⟩ := hf it (by simp)
    have hl := rv.length
    have hT : s.heap.IsTuple a its.toArray := p
    have D : Draws X.prog X.w X.A.in1 it [it, a] i (fun _ _ => False) (fun j h => j = i ∧ h.IsTupleIter it a i ∧ h.IsTuple a its.toArray) :=
      { live := fun _ _ q => let ⟨o, ho, _⟩ := q.2.1; ⟨o, ho⟩
        frame := fun j h h' q hk => ⟨q.1, q.2.1.at fun o z => hk it (by simp) o z, q.2.2.at fun o z => hk a (by simp) o z⟩
        item := fun j s Q E hj q => absurd q.1 (Nat.ne_of_lt hj)
        done := fun s Q E q hE => wpAny_nextOf_tuple_end (I.ok.hd hc) q.2.1 q.2.2 (by simp; omega) hE }
    exact wpAny_pyNext_enum_endD D he ⟨rfl, hit, hT⟩ fun h' eb => ⟨rfl, I.turned (t' := s.toks) (fun b o hb q => eb b o hb q) f0 f1 f3 f4 f5⟩
  self := fun A i s Q E st h => let ⟨⟨_, he⟩, _⟩ := st; wpAny_pyIter_enum he h
def iEnumT (K : PySem.W.Frag) (ta : TA) : TI := fun σ H R => ta σ H fun vs H1 => ∃ a xs, vs = [.ref a] ∧ SqT K H1 a xs ∧ R (Iet K a) H1
theorem pi_enumT {X : Cx} {e : Expr} {ta : TA} {p pos tpos : Pos} {elts : List Expr} {kk : Nat} (hg : Gl X "enumerate") (hm : X.mg "enumerate" = none) (ha : PA X [e] ta) (hs : starEach [e] X.env = [(false, eval e X.env)] := by rfl) :
    PI X (.Tuple elts kk tpos) (.Call (.Name "enumerate" p) [e] [] pos) (iEnumT X.K ta) := by
  refine ⟨fun pins s σ H R I h => ?_⟩
  refine Call_ (ld_blt I hg hm boot_enumerate (PyProof.Rows.callWith_type1 (thn (ha.run pos pins s σ H _ I h) fun us s1 ⟨vs, H1, I1, r1, q1⟩ => ?_) hs rfl))
  obtain ⟨a, xs, ex, hq, q⟩ := q1
  subst ex
  cases r1 with
  | cons r rr =>
    cases rr
    cases r
    obtain ⟨its, rv, p', hz⟩ := I1.tuple hq
    have hT : s1.heap.IsTuple a its.toArray := p'
    have hal : a < s1.heap.objs.size := by obtain ⟨_, q, _⟩ := hT; exact Heap.lt_size q
    refine enumBegins (begins_tuple a its.toArray) hT fun h' he hit hsz hk => wpAny_pyIter_enum he ?_
    have I2 : Inv X pins σ H1 { s1 with heap := h' } := I1.kept (t' := s1.toks) hk
    refine ⟨s1.heap.objs.size + 1, [s1.heap.objs.size + 1, s1.heap.objs.size], _, _, H1, rfl, I2, turn_enumT a (s1.heap.objs.size + 1) s1.heap.objs.size (Nat.ne_of_lt hal) (Nat.ne_of_gt (Nat.lt_succ_of_lt hal)), ⟨⟨.none, he⟩, ⟨_, hit, rfl, rfl⟩, Nat.succ_ne_self _⟩, fun b hb => ?_, q⟩
    have e' : b = s1.heap.objs.size + 1 ∨ b = s1.heap.objs.size := by simpa using hb
    have hle : s1.heap.objs.size ≤ b := by
      rcases e' with z | z
      · rw [z]; exact Nat.le_add_right _ _
      · rw [z]; exact Nat.le_refl _
    exact I1.fpOk hle (I1.hok.fresh hle)
theorem walk_enumT {K : PySem.W.Frag} {a : Addr} {xs : List V} : Walk (Iet K a) xs.length (fun H => SqT K H a xs) (YPair (fun i => some (.int (i : Nat))) (fun i => xs[i]?)) := by
  refine ⟨fun i _ hi q => ⟨xs, xs[i], q, by simp [hi]⟩, fun _ q => ⟨xs, q, Nat.le_refl _⟩, fun i H v H' _ q y => ?_⟩
  obtain ⟨T, x, h1, h2, h3, h4⟩ := y
  exact ⟨T, .int (i : Nat), x, h1, h2, h3, rfl, h4 xs q⟩
end Tn

set_option Elab.async false
set_option maxRecDepth 100000
set_option autoImplicit false
/-! cls(..), cls a local name that holds a class of the program -/
namespace Tn
open PySem L2 PySem.Spec PyProof.Rows PySem.Calls StX
section
variable {X : Cx} {CX : CXT} {k : Nat} {f C : Addr} {sp : Sp} {E : XK} {x : Str} {e : Expr} {es : List Expr} {te tf : TE} {t : TA} {p sp_ pos : Pos}
def tMakeV (C : Addr) (sp : Sp) (E : XK) (tf : TE) (t : TA) : TE := fun σ H Q => tf σ H fun y H1 => y = V.ref C ∧ tMakeR C sp E t σ H1 Q
theorem pe_makeV (M : Mk X.K C f) (F : FnR X.prog X.w X.K X.mg X.base CX k f sp) (hr : Room (k + 1) X.A) (hx : Passes CX X E) (hf : PE X (.Name x p) tf) (ha : PA X (e :: es) t)
    (he : starEach (e :: es) X.env = (false, eval e X.env) :: starEach es X.env := by rfl) (hpl : (backTo pos (starEach es X.env)).any (·.1) = false := by rfl) : PE X (.Call (.Name x p) (e :: es) [] pos) (tMakeV C sp E tf t) := by
  refine ⟨fun pins s σ H Q I h => ?_⟩
  refine wpAny_Call_Name_kw (thn (hf.run pins s σ H _ I h) fun u s1 ⟨y, H1, I1, ry, ey, q⟩ => ?_)
  subst ey
  obtain rfl : u = Value.ref C := ry
  refine PySem.W.callWith_K (h₀ := X.base) I1.ok.mod.kin M.kp (thn (ha.run pos pins s1 σ H1 _ I1 q) fun us s2 ⟨vs, H2, I2, r, q2⟩ => ⟨I2.kIn, ?_⟩) he hpl
  exact run_makeR M F hr hx I2 r q2
/-- cls(e, .., *y) -/
theorem pe_makeV2 (M : Mk X.K C f) (F : FnR X.prog X.w X.K X.mg X.base CX k f sp) (hr : Room (k + 1) X.A) (hx : Passes CX X E) (hf : PE X (.Name x p) tf) (ha : PA X (e :: es) t)
    (he : starEach (e :: es) X.env = (false, eval e X.env) :: starEach es X.env := by rfl) (hst : (backTo pos (starEach es X.env)).any (·.1) = true := by rfl) : PE X (.Call (.Name x p) (e :: es) [] pos) (tMakeV C sp E tf t) := by
  refine ⟨fun pins s σ H Q I h => ?_⟩
  refine wpAny_Call_Name_kw (thn (hf.run pins s σ H _ I h) fun u s1 ⟨y, H1, I1, ry, ey, q⟩ => ?_)
  subst ey
  obtain rfl : u = Value.ref C := ry
  refine PySem.W.callWith_S2 (h₀ := X.base) I1.ok.mod.kin M.kp (thn (ha.run pos pins s1 σ H1 _ I1 q) fun us s2 ⟨vs, H2, I2, r, q2⟩ => ⟨I2.kIn, ?_⟩) he hst
  exact run_makeR M F hr hx I2 r q2
/-- cls(*y) -/
def tMakeV1 (K : PySem.W.Frag) (C : Addr) (sp : Sp) (E : XK) (tf te : TE) : TE := fun σ H Q => tf σ H fun y H1 => y = V.ref C ∧ te σ H1 fun z H2 => ∃ a xs, z = V.ref a ∧ (SqT K H2 a xs ∨ SqL K H2 a xs) ∧ ∀ x dx, H2 x = Option.none → H2 dx = Option.none → dx ≠ x →
  sp (V.ref x :: xs) (upd (upd H2 dx (.own x)) x (.ins C dx [])) (fun v H3 => v = .non ∧ Q (.ref x) H3) E
theorem pe_makeV1 (M : Mk X.K C f) (F : FnR X.prog X.w X.K X.mg X.base CX k f sp) (hr : Room (k + 1) X.A) (hx : Passes CX X E) (hf : PE X (.Name x p) tf) (he : PE X e te)
    (hst : starEach [.Starred e sp_] X.env = [(true, eval e X.env)] := by rfl) : PE X (.Call (.Name x p) [.Starred e sp_] [] pos) (tMakeV1 X.K C sp E tf te) := by
  refine ⟨fun pins s σ H Q I h => ?_⟩
  refine wpAny_Call_Name_kw (thn (hf.run pins s σ H _ I h) fun u s1 ⟨y, H1, I1, ry, ey, q⟩ => ?_)
  subst ey
  obtain rfl : u = Value.ref C := ry
  refine PySem.W.callWith_S (h₀ := X.base) I1.ok.mod.kin M.kp (thn (he.run pins s1 σ H1 _ I1 q) fun v s2 ⟨z, H2, I2, rz, a, xs, ez, hxs, q2⟩ => ?_) hst
  subst ez
  obtain rfl : v = Value.ref a := rz
  exact star_any I2 hxs fun us s3 I3 rv => ⟨I3.kIn, run_makeR M F hr hx I3 rv q2⟩
end
end Tn

set_option Elab.async false
set_option maxRecDepth 100000
set_option autoImplicit false
/-! is_integer, is_from_to, is_letter, is_pair of any value -/
namespace Kx
open PySem L2 PySem.Spec PyProof.Rows Rg Er Ru
abbrev sFromTo : Stmt := top 15
abbrev sIsLetter : Stmt := top 16
abbrev sIsPair : Stmt := top 29
def NoOf (K : PySem.W.Frag) (T : String) (H : Hp) (x : V) : Prop := ∃ t, TyX K H x t ∧ PySem.W.kitOne K t (.type T) = some false
def lt1 (z : Str) : Bool := match z.cps.toList with
  | [c] => decide (c ∈ abc.cps.toList)
  | _ => false
/-- x is a letter, or is none -/
def LtX (K : PySem.W.Frag) (H : Hp) (x : V) (b : Bool) : Prop := (∃ z : Str, x = .str z ∧ z.length ≤ 1000 ∧ b = lt1 z) ∨ (b = false ∧ NoOf K "str" H x)
/-- x is an integer, or is none -/
def IzX (K : PySem.W.Frag) (H : Hp) (x : V) (o : Option Int) : Prop := (∃ i, x = .int i ∧ o = some i) ∨ (o = none ∧ ((∃ c, x = .bl c) ∨ NoOf K "int" H x))
def inB (lo hi : Int) : Option Int → Bool
  | some i => decide (lo ≤ i) && decide (i ≤ hi)
  | none => false
/-- x is a pair of a letter and a weight, or is none -/
def PrX (K : PySem.W.Frag) (H : Hp) (x : V) (b : Bool) : Prop := (∃ a u v b1 o2, x = .ref a ∧ H a = some (.tup [u, v]) ∧ LtX K H u b1 ∧ IzX K H v o2 ∧ b = (b1 && inB 0 9 o2)) ∨
  (b = false ∧ ((∃ a xs, x = .ref a ∧ H a = some (.tup xs) ∧ xs.length ≠ 2) ∨ NoOf K "tuple" H x))
def spFromToA (K : PySem.W.Frag) : Sp := fun vs H Q _ => ∃ x o lo hi, vs = [x, .int lo, .int hi] ∧ IzX K H x o ∧ Q (.bl (inB lo hi o)) H
def spIsLetterA (K : PySem.W.Frag) : Sp := fun vs H Q _ => ∃ x b, vs = [x] ∧ LtX K H x b ∧ Q (.bl b) H
def spIsPairA (K : PySem.W.Frag) : Sp := fun vs H Q _ => ∃ x b, vs = [x] ∧ PrX K H x b ∧ Q (.bl b) H
theorem bIxT {X : Cx} {a b : Expr} {ta tb : TE} {pos : Pos} (ha : PE X a ta) (hb : PE X b tb) (hs : PlainIx b := by intro _ _; rfl) : PE X (.Subscript a b pos) (tOp (rIxT X.K) ta tb) := pe_ix ix_tup ha hb hs
section
variable {P : Program} {w : World} {K : PySem.W.Frag} {mg : Str → Option Value} {base : Heap}
theorem scFromTo : FnScope ["value", "low", "high"] ["value", "low", "high"] (defScope sFromTo) := ⟨rfl, rfl, rfl, by decide +kernel, rfl, by decide +kernel, by decide +kernel⟩
theorem ok_fromToA {f : Addr} {fd : FuncData} (F : L2.Fun K "is_from_to" "is_from_to" sFromTo f fd) (T : Txt mg) (mB : mg "bool" = none) : FnOk P w K mg base CX0 2 f fd ["value", "low", "high"] (spFromToA K) := by
  refine F.ok scFromTo (fun vs H Q E h => ?_) (fun cdv A outer s H vs Q E hr h => ?_)
  · obtain ⟨x, o, lo, hi, rfl, _⟩ := h
    rfl
  · obtain ⟨x, o, lo, hi, rfl, how, k⟩ := h
    refine ⟨_, pss_one (ps_ret (pe_and (bIsi (by rfl) T.isi (pv 0) (pe_bltn (v := .ty "int") (by rfl) T.int (by decide +kernel) rfl)) (pe_and (pe_not (bIsi (by rfl) T.isi (pv 0) (pe_bltn (v := .ty "bool") (by rfl) mB (by decide +kernel) rfl))) (pe_one (pe_chain op_le op_le (pv 1) (pv 0) (pv 2)))))), ?_⟩
    rcases how with ⟨i, rfl, rfl⟩ | ⟨rfl, ⟨c, rfl⟩ | ⟨t, ty, no⟩⟩
    · refine ⟨_, rfl, .int i, .ty "int", _, _, true, rfl, .ty "int", .base (.int i), kit_ty (by decide +kernel), true, rfl, iteT ?_⟩
      refine ⟨_, rfl, .int i, .ty "bool", _, _, false, rfl, .ty "bool", .base (.int i), kit_ty (by decide +kernel), false, rfl, true, rfl, iteT ?_⟩
      refine ⟨_, rfl, _, rfl, lo, i, rfl, rfl, _, rfl, ?_⟩
      by_cases h : lo ≤ i
      · rw [decide_eq_true h]
        refine iteT ⟨_, rfl, i, hi, rfl, rfl, ?_⟩
        have k : Q (.bl (decide (lo ≤ i) && decide (i ≤ hi))) H := k
        rw [decide_eq_true h, Bool.true_and] at k
        exact k
      · rw [decide_eq_false h]
        have k : Q (.bl (decide (lo ≤ i) && decide (i ≤ hi))) H := k
        rw [decide_eq_false h, Bool.false_and] at k
        exact iteF k
    · refine ⟨_, rfl, .bl c, .ty "int", _, _, true, rfl, .ty "int", .base (.bl c), kit_ty (by decide +kernel), true, rfl, iteT ?_⟩
      exact ⟨_, rfl, .bl c, .ty "bool", _, _, true, rfl, .ty "bool", .base (.bl c), kit_ty (by decide +kernel), true, rfl, false, rfl, iteF k⟩
    · exact ⟨_, rfl, x, .ty "int", _, _, false, rfl, .ty "int", ty, no, false, rfl, iteF k⟩
theorem scIsLetter : FnScope ["value"] ["value"] (defScope sIsLetter) := ⟨rfl, rfl, rfl, by decide +kernel, rfl, by decide +kernel, by decide +kernel⟩
theorem ok_isLetterA {f : Addr} {fd : FuncData} (F : L2.Fun K "is_letter" "is_letter" sIsLetter f fd) (T : Txt mg) (mS : mg "str" = none) {tk : Tok} (mL : mg "LETTERS" = some (.str abc tk)) : FnOk P w K mg base CX0 1 f fd ["value"] (spIsLetterA K) := by
  refine F.ok scIsLetter (fun vs H Q E h => ?_) (fun cdv A outer s H vs Q E hr h => ?_)
  · obtain ⟨x, b, rfl, _⟩ := h
    rfl
  · obtain ⟨x, b, rfl, how, k⟩ := h
    refine ⟨_, pss_one (ps_ret (pe_and (bIsi (by rfl) T.isi (pv 0) (pe_bltn (v := .ty "str") (by rfl) mS (by decide +kernel) rfl)) (pe_and (pe_cmpR op_eq (bLen (by rfl) T.len (pv 0)) pe_int (nomark _))
      (pe_one (pe_cmpR op_in_sign (pv 0) (pe_glob (v := .str abc) (by rfl) mL ⟨_, rfl⟩) rfl))))), ?_⟩
    rcases how with ⟨z, rfl, few, rfl⟩ | ⟨rfl, t, ty, no⟩
    · refine ⟨_, rfl, .str z, .ty "str", _, _, true, rfl, .ty "str", .base (.str z), kit_ty (by decide +kernel), true, rfl, iteT ?_⟩
      refine ⟨_, rfl, _, z.length, rfl, ⟨len_small few, rfl⟩, rfl, _, rfl, ?_⟩
      obtain ⟨⟨L⟩⟩ := z
      match L, few, k with
      | [c], _, k => exact iteT ⟨_, rfl, c, abc, rfl, rfl, k⟩
      | [], _, k => exact iteF k
      | a :: b :: r, _, k =>
        rw [decide_eq_false (by intro q; injection q with q; simp [Str.length] at q; omega)]
        exact iteF k
    · exact ⟨_, rfl, x, .ty "str", _, _, false, rfl, .ty "str", ty, no, false, rfl, iteF k⟩
theorem scIsPair : FnScope ["value"] ["value"] (defScope sIsPair) := ⟨rfl, rfl, rfl, by decide +kernel, rfl, by decide +kernel, by decide +kernel⟩
theorem ok_isPairA {f f1 f2 : Addr} {fd fd1 fd2 : FuncData} (F : L2.Fun K "is_pair" "is_pair" sIsPair f fd) (T : Txt mg) (mT : mg "tuple" = none)
    (G1 : FnOk P w K mg base CX0 1 f1 fd1 ["value"] (spIsLetterA K)) (m1 : mg "is_letter" = some (.ref f1)) (k1 : PySem.W.keepIn K (.ref f1) = true) (b1 : L2.Binds K fd1 ["value"] [])
    (G2 : FnOk P w K mg base CX0 2 f2 fd2 ["value", "low", "high"] (spFromToA K)) (m2 : mg "is_from_to" = some (.ref f2)) (k2 : PySem.W.keepIn K (.ref f2) = true) (b2 : L2.Binds K fd2 ["value", "low", "high"] []) :
    FnOk P w K mg base CX0 3 f fd ["value"] (spIsPairA K) := by
  refine F.ok scIsPair (fun vs H Q E h => ?_) (fun cdv A outer s H vs Q E hr h => ?_)
  · obtain ⟨x, b, rfl, _⟩ := h
    rfl
  · obtain ⟨x, b, rfl, how, k⟩ := h
    refine ⟨_, pss_one (ps_ret (pe_and (bIsi (by rfl) T.isi (pv 0) (pe_bltn (v := .ty "tuple") (by rfl) mT (by decide +kernel) rfl)) (pe_and (pe_cmpR op_eq (bLen (by rfl) T.len (pv 0)) pe_int (nomark _))
      (pe_and (pe_call G1 (hr.mono (by decide)) (by rfl) m1 k1 b1 .nil pass0 (pa_cons (bIxT (pv 0) pe_int) pa_nil)) (pe_one (pe_call G2 hr (by rfl) m2 k2 b2 .nil pass0 (pa_cons (bIxT (pv 0) pe_int) (pa_cons pe_int (pa_cons pe_int pa_nil)))))))) ), ?_⟩
    rcases how with ⟨t, u, v, b1, o2, rfl, ht, hu, hv, rfl⟩ | ⟨rfl, ⟨t, xs, rfl, ht, l2⟩ | ⟨ty', ty, no⟩⟩
    · refine ⟨_, rfl, .ref t, .ty "tuple", _, _, true, rfl, .ty "tuple", .base (.tup ht), kit_ty (by decide +kernel), true, rfl, iteT ?_⟩
      refine ⟨_, rfl, _, 2, rfl, .inr ⟨_, SqT.of ht, rfl⟩, rfl, true, rfl, iteT ?_⟩
      refine ⟨_, rfl, t, _, 0, _, rfl, rfl, SqT.of ht, rfl, u, b1, rfl, hu, b1, rfl, ?_⟩
      cases b1 with
      | false => exact iteF k
      | true => exact iteT ⟨_, rfl, t, _, 1, _, rfl, rfl, SqT.of ht, rfl, v, o2, 0, 9, rfl, hv, by rw [Bool.true_and] at k; exact k⟩
    · refine ⟨_, rfl, .ref t, .ty "tuple", _, _, true, rfl, .ty "tuple", .base (.tup ht), kit_ty (by decide +kernel), true, rfl, iteT ?_⟩
      refine ⟨_, rfl, _, xs.length, rfl, .inr ⟨_, SqT.of ht, rfl⟩, rfl, _, rfl, ?_⟩
      rw [decide_eq_false (by intro q; injection q with q; omega)]
      exact iteF k
    · exact ⟨_, rfl, x, .ty "tuple", _, _, false, rfl, .ty "tuple", ty, no, false, rfl, iteF k⟩
end
end Kx

set_option Elab.async false
set_option maxRecDepth 100000
set_option autoImplicit false
/-! Weights.__init__ of any entries -/
namespace Kx
open PySem L2 PySem.Spec PyProof.Rows Rg Er Ru Tn
abbrev sWInit : Stmt := inClass (top 28) 0
/-- at t a pair of a letter and a weight -/
def PairAt (H : Hp) (t : Addr) (c : Nat) (n : Int) : Prop := H t = some (.tup [.str ⟨#[c]⟩, .int n]) ∧ c ∈ abc.cps.toList ∧ 0 ≤ n ∧ n ≤ 9
theorem g12 : ¬ (("_signs" : Str) = "pairs") := by decide +kernel
def wf1 (z : Str) : List (Str × V) := putF "_signs" (.str z) []
def wf (z : Str) (p : Addr) : List (Str × V) := putF "pairs" (.ref p) (wf1 z)
theorem wf_signs (z : Str) (p : Addr) : (wf z p).lookup ("_signs" : Str) = some (.str z) := by
  unfold wf wf1
  rw [lookup_putF, if_neg g12, lookup_putF, if_pos rfl]
theorem wf_pairs (z : Str) (p : Addr) : (wf z p).lookup ("pairs" : Str) = some (.ref p) := by
  unfold wf
  rw [lookup_putF, if_pos rfl]
theorem PairAt.same {H H' : Hp} {t : Addr} {c : Nat} {n : Int} (h : PairAt H t c n) (e : Same H H') : PairAt H' t c n := ⟨e _ _ h.1, h.2⟩
structure WT (K : PySem.W.Frag) (C : Addr) : Prop where
  cl : Cls K C
  n1 : NoAttr K C "_signs"
  n2 : NoAttr K C "pairs"
theorem Same.putNew' {H H' : Hp} {q : Addr} {o : HO} (h : H' q = none) (e : Same H H') : Same H (upd H' q o) := fun b u z => by rw [upd_ne (ne_of_none (e _ _ z) h)]; exact e _ _ z
/-- pairs of letters and weights -/
def PairsD (H : Hp) (xs : List V) (es : List (Nat × Int)) : Prop := xs.length = es.length ∧ ∀ (i : Nat) (e : Nat × Int), es[i]? = some e → ∃ t, xs[i]? = some (.ref t) ∧ PairAt H t e.1 e.2
theorem PairsD.mono {H H' : Hp} {xs : List V} {es : List (Nat × Int)} (h : PairsD H xs es) (e : ∀ t c n, PairAt H t c n → PairAt H' t c n) : PairsD H' xs es := ⟨h.1, fun i c q => let ⟨t, a, b⟩ := h.2 i c q; ⟨t, a, e _ _ _ b⟩⟩
def letters (es : List (Nat × Int)) : Str := ⟨(es.map (·.1)).toArray⟩
/-- at a the weights of these pairs, whose tuple holds xs -/
def Wts (C : Addr) (H : Hp) (a : Addr) (es : List (Nat × Int)) (xs : List V) : Prop := ∃ dx p, H a = some (.ins C dx (wf (letters es) p)) ∧ H p = some (.tup xs) ∧ PairsD H xs es
theorem Wts.same {C a : Addr} {H H' : Hp} {es : List (Nat × Int)} {xs : List V} (h : Wts C H a es xs) (e : Same H H') : Wts C H' a es xs := let ⟨dx, p, h1, h2, h3⟩ := h; ⟨dx, p, e _ _ h1, e _ _ h2, h3.mono fun _ _ _ q => q.same e⟩
def spStar (n : Nat) (sp : Sp) : Sp := fun vs H Q E => ∃ ws rest, vs = ws ++ rest ∧ ws.length = n ∧ rest.length ≤ sizeLine ∧ ∀ p, H p = Option.none → sp (ws ++ [V.ref p]) (upd H p (.tup rest)) Q E
/-- lists stay lists, tuples stay as they are -/
structure KeepT (H H' : Hp) : Prop where
  l : ∀ q xs, H q = some (.lst xs) → ∃ ys, H' q = some (.lst ys)
  t : ∀ q xs, H q = some (.tup xs) → H' q = some (.tup xs)
theorem Same.keepT {H H' : Hp} (e : Same H H') : KeepT H H' := ⟨fun q xs h => ⟨xs, e _ _ h⟩, fun q xs h => e _ _ h⟩
theorem KeepT.trans {H H1 H2 : Hp} (a : KeepT H H1) (b : KeepT H1 H2) : KeepT H H2 := ⟨fun q xs h => let ⟨_, h1⟩ := a.l q xs h; b.l q _ h1, fun q xs h => b.t q _ (a.t q xs h)⟩
theorem KeepT.put {H : Hp} {q : Addr} {xs ys : List V} (h : H q = some (.lst xs)) : KeepT H (upd H q (.lst ys)) := by
  refine ⟨fun r zs hr => ?_, fun r zs hr => ?_⟩
  · by_cases e : r = q
    · subst e; exact ⟨ys, upd_same⟩
    · exact ⟨zs, by rw [upd_ne e]; exact hr⟩
  · have e : r ≠ q := by rintro rfl; rw [h] at hr; cases hr
    rw [upd_ne e]; exact hr
theorem Ink.keepT {c p : Addr} {n m : Nat} {H H' : Hp} (pen : PenAt c m H p) (i : Ink c p n H H') : KeepT H H' := by
  refine ⟨fun r zs hr => ?_, fun r zs hr => ?_⟩
  · by_cases e : r = p
    · subst e
      obtain ⟨ns, x, g, h1, _⟩ := i.2
      exact ⟨_, h1⟩
    · exact ⟨zs, i.1 _ _ e hr⟩
  · have e : r ≠ p := by
      rintro rfl
      obtain ⟨ns, x, g, h1, _⟩ := pen
      rw [h1] at hr; cases hr
    exact i.1 _ _ e hr
theorem PairAt.keep {H H' : Hp} {t : Addr} {c : Nat} {n : Int} (h : PairAt H t c n) (e : KeepT H H') : PairAt H' t c n := ⟨e.t _ _ h.1, h.2⟩
/-- equal to itself wherever it stands in a list -/
def Sm (v : V) : Prop := flatB v = true ∨ ∃ c, v = .ref c
def EntX (K : PySem.W.Frag) (H : Hp) (v : V) (o : Option (Nat × Int)) : Prop := (∃ t c n, v = .ref t ∧ PairAt H t c n ∧ o = some (c, n)) ∨ (o = none ∧ Sm v ∧ ∀ H', KeepT H H' → PrX K H' v false)
theorem EntX.keep {K : PySem.W.Frag} {H H' : Hp} {v : V} {o : Option (Nat × Int)} (h : EntX K H v o) (e : KeepT H H') : EntX K H' v o := by
  rcases h with ⟨t, c, n, rfl, p, rfl⟩ | ⟨rfl, sm, p⟩
  · exact .inl ⟨t, c, n, rfl, p.keep e, rfl⟩
  · exact .inr ⟨rfl, sm, fun H2 e2 => p H2 (e.trans e2)⟩
theorem EntX.same {K : PySem.W.Frag} {H H' : Hp} {v : V} {o : Option (Nat × Int)} (h : EntX K H v o) (e : Same H H') : EntX K H' v o := h.keep (Same.keepT e)
def Ents (K : PySem.W.Frag) (H : Hp) (xs : List V) (os : List (Option (Nat × Int))) : Prop := xs.length = os.length ∧ ∀ (i : Nat) (o : Option (Nat × Int)), os[i]? = some o → ∃ v, xs[i]? = some v ∧ EntX K H v o
/-- the first entry that is refused -/
def badFrom : Nat → List Nat → List (Option (Nat × Int)) → Option Nat
  | _, _, [] => none
  | i, _, none :: _ => some i
  | i, seen, some (c, _) :: r => if c ∈ seen then some i else badFrom (i + 1) (seen ++ [c]) r
def spWInitA (K : PySem.W.Frag) (C CB : Addr) : Sp := fun vs H Q E => ∃ (a dx p : Addr) (xs : List V) (os : List (Option (Nat × Int))), vs = [.ref a, .ref p] ∧ H a = some (.ins C dx []) ∧ H p = some (.tup xs) ∧ Ents K H xs os ∧
  (¬ (1 ≤ xs.length ∧ xs.length ≤ 4) → raised CB "part" (.str "many") E H) ∧
  (1 ≤ xs.length ∧ xs.length ≤ 4 → match badFrom 0 [] os with
    | some i => ∀ H', Same H H' → raised CB "part" (.int (i : Nat)) E H'
    | none => ∀ es H', os = es.map some → Ext1 a H H' → Wts C H' a es xs → Q .non H')
section
variable {P : Program} {w : World} {K : PySem.W.Frag} {mg : Str → Option Value} {base : Heap}
theorem scWInit : FnScope ["self", "pairs", "signs", "at", "pair"] ["self", "pairs"] (defScope sWInit) := ⟨rfl, rfl, rfl, by decide +kernel, rfl, by decide +kernel, by decide +kernel⟩
theorem starOkX {x qual pv : Str} {st : Stmt} {f : Addr} {fd : FuncData} {N ps : List Str} {k : Nat} {sp : Sp} (F : L2.Fun K x qual st f fd) (S : FnScope N (ps ++ [pv]) (defScope st))
    (hb : ∀ (kV doc pm : Value) (an : Option Addr) (cdv ct : Value) (us rest : List Value), us.length = ps.length → bindArgs (PySem.W.fnOf x qual (defArgs st) (defBody st) (defScope st) .none kV doc pm an cdv ct) ⟨us ++ rest, []⟩ = (newTuple rest >>= fun t => pure (ps.zip us ++ [(pv, t)])))
    (hbody : ∀ (cdv : Value) (A : Around) (outer : List Env) (s : Shared) (H : Hp) (vs : List V) (Q : VK) (E : XK), Room k (A.deeper (envOfC qual (defScope st) s.heap.objs.size f cdv)) → sp vs H Q E →
      ∃ t, PSs (cxOf (L2.CX P w) P w K mg base N qual (defScope st) f cdv A outer s H E) (defBody st) t ∧ t { nx := fun _ H' => Q .non H', rt := Q } (L2.start N vs) H) : FnR P w K mg base (L2.CX P w) (k + 1) f (spStar ps.length sp) := by
  obtain ⟨oc, od, kV, doc, pm, an, cdv, ct, osl, rfl, lk, hcd⟩ := F.ex
  exact StX.fn_star lk hcd S StX.cxUp (hb kV doc pm an cdv ct) fun A outer s H vs Q E hr hsp => hbody cdv A outer s H vs Q E hr hsp
theorem ok_wInitA {C CB f f1 f2 : Addr} {fd fd1 fd2 : FuncData} (F : L2.Fun K "__init__" "Weights.__init__" sWInit f fd) (T : Txt mg) (M : WT K C) (R : ErrB P w K mg base "BadSigns" "part" CB) (mE : mg "enumerate" = none)
    (G1 : FnOk P w K mg base CX0 2 f1 fd1 ["value", "low", "high"] (spFromToA K)) (m1 : mg "is_from_to" = some (.ref f1)) (k1 : PySem.W.keepIn K (.ref f1) = true) (b1 : L2.Binds K fd1 ["value", "low", "high"] [])
    (G2 : FnOk P w K mg base CX0 3 f2 fd2 ["value"] (spIsPairA K)) (m2 : mg "is_pair" = some (.ref f2)) (k2 : PySem.W.keepIn K (.ref f2) = true) (b2 : L2.Binds K fd2 ["value"] []) :
    FnR P w K mg base (L2.CX P w) 4 f (spStar 1 (spWInitA K C CB)) := by
  obtain ⟨fi, fdi, psi, r1, r2, r3, r4⟩ := R.init
  refine starOkX (N := ["self", "pairs", "signs", "at", "pair"]) (ps := ["self"]) (pv := "pairs") (sp := spWInitA K C CB) F scWInit (fun kV doc pm an cdv ct => StX.bind_star1 (B := fun us => bindArgs (PySem.W.fnOf "__init__" "Weights.__init__" (defArgs sWInit) (defBody sWInit) (defScope sWInit) .none kV doc pm an cdv ct) ⟨us, []⟩) (fun a => rfl) (fun a r rs => rfl)) (fun cdv A outer s H vs Q E hr h => ?_)
  obtain ⟨a, dx, p, xs, os, rfl, ha, hp, ents, many, good⟩ := h
  have nd := scWInit.nd
  have hr2 := hr.mono (show 2 ≤ 3 by decide)
  have tk := takes_of (X := cxOf (L2.CX P w) P w K mg base ["self", "pairs", "signs", "at", "pair"] "Weights.__init__" (defScope sWInit) f cdv A outer s H E) rfl rfl rfl rfl
  refine ⟨_, pss_cons (ps_if (pt_not (pt_val (pe_call G1 hr2 (by rfl) m1 k1 b1 .nil pass0 (pa_cons (bLen (by rfl) T.len (pv 1)) (pa_cons pe_int (pa_cons pe_int pa_nil)))))) (pss_one (ps_raise1 rfl tk R.O r1 r2 r3 hr2 r4 (by rfl) R.mgC pe_str)) pss_nil)
    (pss_cons (ps_set (i := 2) nd rfl (.inl rfl) pe_str)
    (pss_cons (ps_for (passes_of (X := cxOf (L2.CX P w) P w K mg base ["self", "pairs", "signs", "at", "pair"] "Weights.__init__" (defScope sWInit) f cdv A outer s H E) rfl) rfl (pi_enumT (by rfl) mE (pa_cons (pv 1) pa_nil)) (pg_tup rfl (pgs_cons (pg_name (i := 3) nd rfl (.inl rfl)) (pgs_cons (pg_name (i := 4) nd rfl (.inl rfl)) pgs_nil)))
      (pss_cons (ps_if (PW.pt (pw_or (pt_not (pt_val (pe_call G2 hr (by rfl) m2 k2 b2 .nil pass0 (pa_cons (pv 4) pa_nil)))) (pw_or1 (pt_cmpR op_in_sign (bIxT (pv 4) pe_int) (pv 2) rfl)))) (pss_one (ps_raise1 rfl tk R.O r1 r2 r3 hr2 r4 (by rfl) R.mgC (pv 3))) pss_nil)
      (pss_one (ps_set (i := 2) nd rfl (.inl rfl) (pe_op op_add_str (pv 2) (bIxT (pv 4) pe_int))))))
    (pss_cons (ps_fld (pv 0) (pv 2) rfl) (pss_one (ps_fld (pv 0) (pv 1) rfl))))), ?_⟩
  have hl := ents.1
  refine ⟨_, rfl, _, xs.length, rfl, .inr ⟨_, SqT.of hp, rfl⟩, _, some (xs.length : Int), 1, 4, rfl, .inl ⟨_, rfl, rfl⟩, _, rfl, ?_⟩
  by_cases hc : 1 ≤ xs.length ∧ xs.length ≤ 4
  · have e : inB 1 4 (some (xs.length : Int)) = true := by
      show (decide ((1 : Int) ≤ (xs.length : Int)) && decide ((xs.length : Int) ≤ 4)) = true
      simp
      omega
    rw [e]
    refine iteF ⟨_, rfl, ?_⟩
    have good := good hc
    refine ⟨p, xs, rfl, SqT.of hp, for_it walk_enumT (fun j σ' H' => ∃ (es : List (Nat × Int)) (y1 y2 : Option V), σ' = [some (.ref a), some (.ref p), some (.str (letters es)), y1, y2] ∧ Same H H' ∧ es.length = j ∧ badFrom 0 [] os = badFrom j (es.map (·.1)) (os.drop j) ∧ ∀ (i : Nat) (e : Nat × Int), es[i]? = some e → ∃ t, xs[i]? = some (.ref t) ∧ PairAt H t e.1 e.2 ∧ os[i]? = some (some e))
      ⟨[], none, none, rfl, Same.refl H, rfl, rfl, fun i c q => by simp at q⟩ (fun j σ' H' _ ⟨_, _, _, _, q, _⟩ => SqT.of (q _ _ hp)) ?_ ?_⟩
    · rintro j x σ' H' H2 hj ⟨es, y1, y2, rfl, s0, lj, ej, prs⟩ ⟨t0, u1, u2, rfl, ht0, rfl, e1, e2⟩
      cases e1
      have hj' : j < os.length := by omega
      replace e2 : xs[j]? = some u2 := e2
      obtain ⟨o, ho⟩ : ∃ o, os[j]? = some o := ⟨_, List.getElem?_eq_getElem hj'⟩
      obtain ⟨v, hv, ev⟩ := ents.2 j o ho
      rw [e2] at hv
      cases hv
      have s1 : Same H (upd H' t0 (.tup [.int (j : Nat), u2])) := Same.putNew' ht0 s0
      refine ⟨t0, _, rfl, SqT.of upd_same, rfl, _, _, rfl, _, _, rfl, rfl, ?_⟩
      generalize upd H' t0 (.tup [.int (j : Nat), u2]) = H3 at s1 ⊢
      have ev3 := ev.same s1
      have dr : os.drop j = o :: os.drop (j + 1) := by
        rw [List.drop_eq_getElem_cons hj']
        congr 1
        rw [List.getElem?_eq_getElem hj'] at ho
        exact Option.some.inj ho
      have raise : badFrom j (es.map (·.1)) (os.drop j) = some j → raised CB "part" (.int (j : Nat)) E H3 := fun q => by
        rw [ej, q] at good
        exact good H3 s1
      rcases ev3 with ⟨t, c, n, rfl, pt, rfl⟩ | ⟨rfl, _, pr⟩
      · have lt : lt1 (⟨#[c]⟩ : Str) = true := decide_eq_true pt.2.1
        have ib : inB 0 9 (some n) = true := by
          show (decide ((0 : Int) ≤ n) && decide (n ≤ 9)) = true
          simp [pt.2.2.1, pt.2.2.2]
        refine ⟨_, rfl, .ref t, true, rfl, .inl ⟨t, _, _, true, some n, rfl, pt.1, .inl ⟨⟨#[c]⟩, rfl, by show 1 ≤ 1000; decide, lt.symm⟩, .inl ⟨n, rfl, rfl⟩, by rw [ib]; rfl⟩, true, rfl, iteF ?_⟩
        refine ⟨_, rfl, t, _, 0, _, rfl, rfl, SqT.of pt.1, rfl, _, rfl, c, _, rfl, rfl, _, rfl, ?_⟩
        have mem : (c ∈ (letters es).cps.toList) ↔ c ∈ es.map (·.1) := by unfold letters; rw [List.toList_toArray]
        by_cases hm : c ∈ es.map (·.1)
        · rw [decide_eq_true (mem.mpr hm)]
          refine iteT ⟨_, rfl, raise ?_⟩
          rw [dr]
          show (if c ∈ es.map (·.1) then some j else _) = some j
          rw [if_pos hm]
        · rw [decide_eq_false (fun q => hm (mem.mp q))]
          refine iteF ⟨_, rfl, _, rfl, t, _, 0, _, rfl, rfl, SqT.of pt.1, rfl, _, _, rfl, rfl, ?_, ?_⟩
          · show (es.map (·.1)).toArray.size + 1 ≤ sizeLine
            rw [List.size_toArray, List.length_map, sizeLine_eq]
            omega
          · refine ⟨es ++ [(c, n)], some (.int (j : Nat)), some (.ref t), ?_, s1, by rw [List.length_append, lj]; rfl, ?_, ?_⟩
            · show [some (V.ref a), some (V.ref p), some (V.str (letters es ++ (⟨#[c]⟩ : Str))), some (V.int (j : Nat)), some (V.ref t)] = _
              have ea : (letters es ++ (⟨#[c]⟩ : Str)) = letters (es ++ [(c, n)]) := by
                unfold letters
                rw [List.map_append]
                show (⟨(es.map (·.1)).toArray ++ #[c]⟩ : Str) = _
                simp
              rw [ea]
            · rw [ej, dr]
              show (if c ∈ es.map (·.1) then some j else badFrom (j + 1) (es.map (·.1) ++ [c]) (os.drop (j + 1))) = _
              rw [if_neg hm, List.map_append]
              rfl
            · intro i c' hi
              by_cases lt' : i < es.length
              · rw [List.getElem?_append_left lt'] at hi
                exact prs i c' hi
              · rw [List.getElem?_append_right (by omega)] at hi
                have i0 : i - es.length = 0 := by
                  cases z : i - es.length with
                  | zero => rfl
                  | succ m => rw [z] at hi; simp at hi
                rw [i0] at hi
                have ec : (c, n) = c' := by simpa using hi
                have ei : i = j := by omega
                subst ec ei
                rcases ev with ⟨t', c', n', e', p', q'⟩ | ⟨q', _⟩
                · cases e'
                  cases q'
                  exact ⟨t, e2, p', ho⟩
                · cases q'
      · refine ⟨_, rfl, u2, false, rfl, pr _ (Same.keepT (Same.refl _)), false, rfl, iteT ⟨_, rfl, raise ?_⟩⟩
        rw [dr]
        rfl
    · rintro σ' H' ⟨es, y1, y2, rfl, s0, lj, ej, prs⟩
      have dn : os.drop xs.length = [] := List.drop_eq_nil_of_le (by omega)
      rw [ej, dn] at good
      have good' : ∀ es' H', os = es'.map some → Ext1 a H H' → Wts C H' a es' xs → Q .non H' := good
      have ec : os = es.map some := by
        refine List.ext_getElem? fun i => ?_
        rw [List.getElem?_map]
        by_cases hi : i < es.length
        · obtain ⟨t, _, _, h3⟩ := prs i es[i] (List.getElem?_eq_getElem hi)
          rw [h3, List.getElem?_eq_getElem hi]
          rfl
        · rw [List.getElem?_eq_none (by omega), List.getElem?_eq_none (by omega)]
          rfl
      refine ⟨_, rfl, _, rfl, a, C, dx, [], rfl, s0 _ _ ha, M.cl, M.n1, by show 0 < 1000; decide, ?_⟩
      refine ⟨_, rfl, _, rfl, a, C, dx, _, rfl, upd_same, M.cl, M.n2, by show 1 < 1000; decide, ?_⟩
      have na : p ≠ a := by rintro rfl; rw [hp] at ha; cases ha
      have pl : PairsD H xs es := ⟨by omega, fun i c hi => let ⟨t, h1, h2, _⟩ := prs i c hi; ⟨t, h1, h2⟩⟩
      refine good' es _ ec (Ext1.trans (Same.ext1 a s0) (Ext1.trans Ext1.put Ext1.put)) ⟨dx, p, upd_same, ?_, pl.mono fun t c n q => ⟨?_, q.2⟩⟩
      · rw [upd_ne na, upd_ne na]; exact s0 _ _ hp
      · have nt : t ≠ a := by rintro rfl; rw [q.1] at ha; cases ha
        rw [upd_ne nt, upd_ne nt]; exact s0 _ _ q.1
  · have e : inB 1 4 (some (xs.length : Int)) = false := by
      show (decide ((1 : Int) ≤ (xs.length : Int)) && decide ((xs.length : Int) ≤ 4)) = false
      cases h1 : decide ((1 : Int) ≤ (xs.length : Int)) with
      | false => rfl
      | true =>
        have := of_decide_eq_true h1
        rw [decide_eq_false (by omega)]
        rfl
    rw [e]
    exact iteT (many hc)
end
end Kx

set_option Elab.async false
set_option maxRecDepth 100000
set_option autoImplicit false
/-! Weights.of, signs, len, in, [ ] -/
namespace Kx
open PySem L2 PySem.Spec PyProof.Rows Rg Er Ru Tn
abbrev sWOf : Stmt := inClass (top 28) 1
abbrev sWSigns : Stmt := inClass (top 28) 2
abbrev sWLen : Stmt := inClass (top 28) 3
abbrev sWHas : Stmt := inClass (top 28) 4
abbrev sWItem : Stmt := inClass (top 28) 5
theorem made_same {C x dx : Addr} {H : Hp} (hx : H x = none) (hd : H dx = none) : Same H (upd (upd H dx (.own x)) x (.ins C dx [])) := fun b o e => by
  rw [upd_ne (ne_of_none e hx), upd_ne (ne_of_none e hd)]
  exact e
theorem same_ext1 {x : Addr} {H H1 H2 : Hp} (hx : H x = none) (a : Same H H1) (b : Ext1 x H1 H2) : Same H H2 := fun c o e => b c o (ne_of_none e hx) (a c o e)
theorem Ents.keep {K : PySem.W.Frag} {H H' : Hp} {xs : List V} {os : List (Option (Nat × Int))} (h : Ents K H xs os) (e : KeepT H H') : Ents K H' xs os := ⟨h.1, fun i o q => let ⟨v, a, b⟩ := h.2 i o q; ⟨v, a, b.keep e⟩⟩
theorem Ents.same {K : PySem.W.Frag} {H H' : Hp} {xs : List V} {os : List (Option (Nat × Int))} (h : Ents K H xs os) (e : Same H H') : Ents K H' xs os := ⟨h.1, fun i o q => let ⟨v, a, b⟩ := h.2 i o q; ⟨v, a, b.same e⟩⟩
def spWOfA (K : PySem.W.Frag) (C CB : Addr) : Sp := fun vs H Q E => ∃ (l : Addr) (xs : List V) (os : List (Option (Nat × Int))), vs = [.ref C, .ref l] ∧ Sq H l xs ∧ Ents K H xs os ∧ xs.length ≤ 1000 ∧
  (¬ (1 ≤ xs.length ∧ xs.length ≤ 4) → ∀ H', Same H H' → raised CB "part" (.str "many") E H') ∧
  (1 ≤ xs.length ∧ xs.length ≤ 4 → match badFrom 0 [] os with
    | some i => ∀ H', Same H H' → raised CB "part" (.int (i : Nat)) E H'
    | none => ∀ es H' a, os = es.map some → Same H H' → Wts C H' a es xs → Q (.ref a) H')
def spWLen (C : Addr) : Sp := fun vs H Q _ => ∃ a es xs, vs = [.ref a] ∧ Wts C H a es xs ∧ Q (.int (es.length : Nat)) H
def spWHas (K : PySem.W.Frag) (C : Addr) : Sp := fun vs H Q _ => ∃ a es xs x b, vs = [.ref a, x] ∧ Wts C H a es xs ∧ LtX K H x b ∧ (b = false → Q (.bl false) H) ∧ ∀ c : Nat, x = .str ⟨#[c]⟩ → Q (.bl (decide (c ∈ es.map (·.1)))) H
theorem lt1_sign {z : Str} (h : lt1 z = true) : ∃ c, z = ⟨#[c]⟩ ∧ c ∈ abc.cps.toList := by
  obtain ⟨⟨L⟩⟩ := z
  match L, h with
  | [c], h => exact ⟨c, rfl, of_decide_eq_true h⟩
section
variable {P : Program} {w : World} {K : PySem.W.Frag} {mg : Str → Option Value} {base : Heap}
theorem scWOf : FnScope ["cls", "pairs"] ["cls", "pairs"] (defScope sWOf) := ⟨rfl, rfl, rfl, by decide +kernel, rfl, by decide +kernel, by decide +kernel⟩
theorem ok_wOfA {C CB f g : Addr} {fd : FuncData} (F : L2.Fun K "of" "Weights.of" sWOf f fd) (M : Mk K C g) (G : FnR P w K mg base (L2.CX P w) 4 g (spStar 1 (spWInitA K C CB))) : FnOk P w K mg base (L2.CX P w) 6 f fd ["cls", "pairs"] (spWOfA K C CB) := by
  refine F.okX scWOf (fun vs H Q E h => ?_) (fun cdv A outer s H vs Q E hr h => ?_)
  · obtain ⟨l, xs, os, rfl, _⟩ := h
    rfl
  · obtain ⟨l, xs, os, rfl, hl, es, few, many, good⟩ := h
    have tk := takes_of (X := cxOf (L2.CX P w) P w K mg base ["cls", "pairs"] "Weights.of" (defScope sWOf) f cdv A outer s H E) rfl rfl rfl rfl
    refine ⟨_, pss_one (ps_ret (pe_makeV1 M G hr (passes_call tk fun _ _ _ _ h => h) (pv 0) (pv 1))), ?_⟩
    refine ⟨_, rfl, rfl, _, rfl, l, xs, rfl, hl.elim (fun q => .inr (SqL.of q)) (fun q => .inl (SqT.of q)), fun x dx hx hd ne => ⟨[.ref x], xs, rfl, rfl, by rw [sizeLine_eq]; omega, fun p hp => ?_⟩⟩
    have s1 : Same H (upd (upd H dx (.own x)) x (.ins C dx [])) := made_same hx hd
    have s2 : Same H (upd (upd (upd H dx (.own x)) x (.ins C dx [])) p (.tup xs)) := Same.putNew' hp s1
    refine ⟨x, dx, p, xs, os, rfl, ?_, upd_same, es.same s2, fun h => many h _ s2, fun h => ?_⟩
    · rw [upd_ne (ne_of_none upd_same hp)]
      exact upd_same
    · have g := good h
      cases e : badFrom 0 [] os with
      | some i =>
        rw [e] at g
        exact fun H' s3 => g H' (Same.trans s2 s3)
      | none =>
        rw [e] at g
        exact fun es' H' ec e1 wt => ⟨rfl, g es' H' x ec (same_ext1 hx s2 e1) wt⟩
theorem scWSigns : FnScope ["self"] ["self"] (defScope sWSigns) := ⟨rfl, rfl, rfl, by decide +kernel, rfl, by decide +kernel, by decide +kernel⟩
theorem ok_wSigns {C f : Addr} {fd : FuncData} (F : L2.Fun K "signs" "Weights.signs" sWSigns f fd) (M : WT K C) : FnOk P w K mg base CX0 1 f fd ["self"] (getSp C "_signs") := by
  refine F.ok scWSigns (fun vs H Q E h => ?_) (fun cdv A outer s H vs Q E hr h => ?_)
  · obtain ⟨a, dx, fs, v, rfl, _⟩ := h
    rfl
  · obtain ⟨a, dx, fs, v, rfl, e, l, q⟩ := h
    exact ⟨_, pss_one (ps_ret (pe_fld (pv 0) rfl)), _, rfl, a, C, dx, fs, v, rfl, e, M.cl, M.n1, l, q⟩
theorem scWLen : FnScope ["self"] ["self"] (defScope sWLen) := ⟨rfl, rfl, rfl, by decide +kernel, rfl, by decide +kernel, by decide +kernel⟩
theorem ok_wLen {C f : Addr} {fd : FuncData} (F : L2.Fun K "__len__" "Weights.__len__" sWLen f fd) (T : Txt mg) (M : WT K C) : FnOk P w K mg base CX0 1 f fd ["self"] (spWLen C) := by
  refine F.ok scWLen (fun vs H Q E h => ?_) (fun cdv A outer s H vs Q E hr h => ?_)
  · obtain ⟨a, es, xs, rfl, _⟩ := h
    rfl
  · obtain ⟨a, es, xs, rfl, ⟨dx, p, ha, hp, ps⟩, k⟩ := h
    rw [← ps.1] at k
    exact ⟨_, pss_one (ps_ret (bLen (by rfl) T.len (pe_fld (pv 0) rfl))), _, rfl, a, C, dx, _, _, rfl, ha, M.cl, M.n2, wf_pairs _ _, _, xs.length, rfl, .inr ⟨_, SqT.of hp, rfl⟩, k⟩
theorem scWHas : FnScope ["self", "x"] ["self", "x"] (defScope sWHas) := ⟨rfl, rfl, rfl, by decide +kernel, rfl, by decide +kernel, by decide +kernel⟩
theorem ok_wHas {C f f1 ps_ gs : Addr} {fd fd1 fds : FuncData} (F : L2.Fun K "__contains__" "Weights.__contains__" sWHas f fd) (M : WT K C)
    (G1 : FnOk P w K mg base CX0 1 f1 fd1 ["value"] (spIsLetterA K)) (m1 : mg "is_letter" = some (.ref f1)) (k1 : PySem.W.keepIn K (.ref f1) = true) (b1 : L2.Binds K fd1 ["value"] [])
    (po : PropOf K C "signs" ps_ gs) (GS : FnOk P w K mg base CX0 1 gs fds ["self"] (getSp C "_signs")) (bS : L2.Binds K fds ["self"] []) : FnOk P w K mg base CX0 3 f fd ["self", "x"] (spWHas K C) := by
  refine F.ok scWHas (fun vs H Q E h => ?_) (fun cdv A outer s H vs Q E hr h => ?_)
  · obtain ⟨a, es, xs, x, b, rfl, _⟩ := h
    rfl
  · obtain ⟨a, es, xs, x, b, rfl, ⟨dx, p, ha, hp, ps⟩, hx, no, yes⟩ := h
    refine ⟨_, pss_one (ps_ret (pe_and (pe_call G1 (hr.mono (by decide)) (by rfl) m1 k1 b1 .nil pass0 (pa_cons (pv 1) pa_nil)) (pe_one (pe_cmpR op_in_sign (pv 1) (pe_prop (pv 0) M.cl po GS hr bS .nil pass0 rfl) rfl)))), ?_⟩
    refine ⟨_, rfl, x, b, rfl, hx, b, rfl, ?_⟩
    cases b with
    | false => exact iteF (no rfl)
    | true =>
      rcases hx with ⟨z, rfl, _, e⟩ | ⟨e, _⟩
      · obtain ⟨c, rfl, _⟩ := lt1_sign e.symm
        have y := yes c rfl
        refine iteT ⟨_, rfl, _, rfl, a, dx, _, rfl, ha, a, dx, _, _, rfl, ha, wf_signs _ _, c, _, rfl, rfl, ?_⟩
        rw [show (letters es).cps.toList = es.map (·.1) from by unfold letters; rw [List.toList_toArray]]
        exact y
      · cases e
theorem idx0 {cs : List Nat} {c : Nat} (h : c ∈ cs) : ∃ k, Txt.index0 (⟨cs.toArray⟩ : Str) ⟨#[c]⟩ = some k ∧ cs[k]? = some c := by
  unfold Txt.index0
  rcases StrLaws.occ_head (⟨cs.toArray⟩ : Str) ⟨#[c]⟩ 1 (Nat.le_refl 1) with ⟨_, hn⟩ | ⟨k, r, e, hat, _⟩
  · obtain ⟨k, hk, e⟩ := List.getElem_of_mem h
    exact absurd ((StrLaws.subAt_one (⟨cs.toArray⟩ : Str) c k).mpr (by simpa using (List.getElem?_eq_getElem hk).trans (congrArg some e))) (hn k)
  · have q := (StrLaws.subAt_one (⟨cs.toArray⟩ : Str) c k).mp hat
    refine ⟨k, ?_, by simpa using q⟩
    rw [e]
    rfl
def spWItem (K : PySem.W.Frag) (C CB : Addr) : Sp := fun vs H Q E => ∃ a es xs x b, vs = [.ref a, x] ∧ Wts C H a es xs ∧ LtX K H x b ∧
  (b = false → raised CB "part" x E H) ∧ ∀ c : Nat, x = .str ⟨#[c]⟩ → (c ∉ es.map (·.1) → raised CB "part" x E H) ∧ ∀ n : Int, (c, n) ∈ es → Q (.int n) H
theorem scWItem : FnScope ["self", "at"] ["self", "at"] (defScope sWItem) := ⟨rfl, rfl, rfl, by decide +kernel, rfl, by decide +kernel, by decide +kernel⟩
theorem ok_wItem {C CB f f1 ps_ gs : Addr} {fd fd1 fds : FuncData} (F : L2.Fun K "__getitem__" "Weights.__getitem__" sWItem f fd) (M : WT K C) (R : ErrB P w K mg base "BadSigns" "part" CB)
    (G1 : FnOk P w K mg base CX0 3 f1 fd1 ["self", "x"] (spWHas K C)) (b1 : L2.Binds K fd1 ["self", "x"] []) (aH : PySem.W.findIn K (.ref C) "__contains__" = some (some (.ref f1))) (nH : PySem.W.isFn K (.ref f1) = true)
    (po : PropOf K C "signs" ps_ gs) (GS : FnOk P w K mg base CX0 1 gs fds ["self"] (getSp C "_signs")) (bS : L2.Binds K fds ["self"] []) : FnOk P w K mg base (L2.CX P w) 4 f fd ["self", "at"] (spWItem K C CB) := by
  obtain ⟨fi, fdi, psi, r1, r2, r3, r4⟩ := R.init
  refine F.okX scWItem (fun vs H Q E h => ?_) (fun cdv A outer s H vs Q E hr h => ?_)
  · obtain ⟨a, es, xs, x, b, rfl, _⟩ := h
    rfl
  · obtain ⟨a, es, xs, x, b, rfl, ⟨dx, p, ha, hp, ps⟩, hx, no, yes⟩ := h
    have tk := takes_of (X := cxOf (L2.CX P w) P w K mg base ["self", "at"] "Weights.__getitem__" (defScope sWItem) f cdv A outer s H E) rfl rfl rfl rfl
    have hr2 := hr.mono (show 2 ≤ 3 by decide)
    refine ⟨_, pss_cons (ps_if (pt_cmpR (op_hasnt G1 hr b1 pass0 aH nH) (pv 1) (pv 0) rfl) (pss_one (ps_raise1 rfl tk R.O r1 r2 r3 hr2 r4 (by rfl) R.mgC (pv 1))) pss_nil)
      (pss_one (ps_ret (bIxT (pe_ix ix_tup (pe_fld (pv 0) rfl) (pe_bmS PySem.F.plainAttrs_str PySem.F.slot_str_index PySem.F.type_str_index (mt_indexX rfl tk) (pe_prop (pv 0) M.cl po GS hr2 bS .nil pass0 rfl) (pa_cons (pv 1) pa_nil)) (fun _ _ => rfl)) pe_int))), ?_⟩
    refine ⟨_, rfl, _, rfl, a, dx, _, rfl, ha, a, es, xs, x, b, rfl, ⟨dx, p, ha, hp, ps⟩, hx, fun e => ⟨false, rfl, _, rfl, iteT ⟨_, rfl, no e⟩⟩, fun c ex => ?_⟩
    obtain ⟨n1, y1⟩ := yes c ex
    by_cases hc : c ∈ es.map (·.1)
    · rw [decide_eq_true hc]
      refine ⟨true, rfl, _, rfl, iteF ?_⟩
      subst ex
      obtain ⟨k0, hk0', ck0⟩ := idx0 hc
      have hk0 : Txt.index0 (letters es) ⟨#[c]⟩ = some k0 := hk0'
      refine ⟨_, rfl, a, C, dx, _, _, rfl, ha, M.cl, M.n2, wf_pairs _ _, _, rfl, a, dx, _, rfl, ha, a, dx, _, _, rfl, ha, wf_signs _ _, rfl, _, rfl, _, _, rfl, rfl, fun k hk => ?_, fun hn => ?_⟩
      · rw [hk0] at hk
        cases hk
        obtain ⟨⟨c', n⟩, he, rfl⟩ : ∃ e, es[k0]? = some e ∧ e.1 = c := by
          rw [List.getElem?_map] at ck0
          cases z : es[k0]? with
          | none => rw [z] at ck0; cases ck0
          | some e => rw [z] at ck0; exact ⟨e, rfl, Option.some.inj ck0⟩
        obtain ⟨t, e3, pt⟩ := ps.2 k0 _ he
        refine ⟨p, xs, (k0 : Nat), .ref t, rfl, rfl, SqT.of hp, atI_int (by omega) (by rw [show ((k0 : Int)).toNat = k0 from by omega]; exact e3), ?_⟩
        exact ⟨t, _, 1, .int n, rfl, rfl, SqT.of pt.1, rfl, y1 n (List.mem_of_getElem? he)⟩
      · rw [hk0] at hn
        cases hn
    · rw [decide_eq_false hc]
      exact ⟨false, rfl, _, rfl, iteT ⟨_, rfl, n1 hc⟩⟩
end
end Kx

set_option Elab.async false
set_option maxRecDepth 100000
set_option autoImplicit false
/-! Weights == -/
namespace Kx
open PySem L2 PySem.Spec PyProof.Rows Rg Er Ru Tn
abbrev sWEq : Stmt := inClass (top 28) 7
structure InsT (K : PySem.W.Frag) (C : Addr) : Prop where
  cl : Cls K C
  ha : PySem.W.findIn K (.ref C) "__class__" = some (some (.builtin "object.__class__"))
  hn : PySem.W.specialIn K (.builtin "object.__class__") "__get__" = some (some (.builtin "getset_descriptor.__get__"))
  htk : PySem.W.takesIn K (.builtin "object.__class__") = some true
  hm : PySem.W.mroIn K C (.type "object") = some true
theorem InsT.ty {K : PySem.W.Frag} {C a dx : Addr} {H : Hp} {fs : List (Str × V)} (T : InsT K C) (e : H a = some (.ins C dx fs)) : TyX K H (.ref a) (.ref C) := .base (.ins e T.cl T.ha T.hn T.htk T.hm)
def dPair (e : Nat × Int) : PyData := .tuple [.str ⟨#[e.1]⟩, .int e.2]
def dPairs (es : List (Nat × Int)) : PyData := .tuple (es.map dPair)
theorem eqvPair (e f : Nat × Int) : PyData.eqv (dPair e) (dPair f) = decide (e = f) := by
  obtain ⟨c, n⟩ := e
  obtain ⟨d, m⟩ := f
  unfold dPair
  simp only [PyData.eqv, PyData.eqvAll, Bool.and_true]
  by_cases h : (c, n) = (d, m)
  · cases h; simp
  · rw [decide_eq_false h]
    by_cases h1 : c = d
    · subst h1
      have h2 : ¬ n = m := fun q => h (by rw [q])
      simp [h2]
    · simp [h1]
theorem eqvPairs : ∀ es fs : List (Nat × Int), PyData.eqvAll (es.map dPair) (fs.map dPair) = decide (es = fs)
  | [], [] => rfl
  | [], _ :: _ => rfl
  | _ :: _, [] => rfl
  | e :: r, f :: t => by
    simp only [List.map_cons, PyData.eqvAll, eqvPair, eqvPairs r t]
    by_cases h1 : e = f
    · by_cases h2 : r = t
      · simp [h1, h2]
      · simp [h1, h2]
    · simp [h1]
theorem eqvD (es fs : List (Nat × Int)) : PyData.eqv (dPairs es) (dPairs fs) = decide (es = fs) := by
  unfold dPairs
  simp only [PyData.eqv]
  exact eqvPairs es fs
theorem dpAllPairs {K : PySem.W.Frag} {H : Hp} : ∀ {xs : List V} {es : List (Nat × Int)}, PairsD H xs es → DpAll K H xs (es.map dPair)
  | [], [], _ => .nil
  | [], _ :: _, h => by have := h.1; simp at this
  | _ :: _, [], h => by have := h.1; simp at this
  | x :: r, e :: t, h => by
    obtain ⟨a, ha, p⟩ := h.2 0 e rfl
    cases ha
    exact .cons (.tup (SqT.of p.1) (.cons (.str _) (.cons (.int _) .nil))) (dpAllPairs ⟨by have := h.1; simpa using this, fun i f q => h.2 (i + 1) f q⟩)
theorem dpPairs {K : PySem.W.Frag} {H : Hp} {p : Addr} {xs : List V} {es : List (Nat × Int)} (hp : H p = some (.tup xs)) (h : PairsD H xs es) : Dp K H (.ref p) (dPairs es) := .tup (SqT.of hp) (dpAllPairs h)
theorem abc_lt {c : Nat} (h : c ∈ abc.cps.toList) : c < 0x110000 := by
  have q : abc.cps.toList.all (fun c => decide (c < 0x110000)) = true := by decide +kernel
  exact of_decide_eq_true (List.all_eq_true.mp q c h)
theorem layPairs : ∀ {es : List (Nat × Int)}, (∀ e ∈ es, e.1 ∈ abc.cps.toList) → PyData.canLayAll0 (es.map dPair) = true ∧ PyData.depthAll (es.map dPair) ≤ 1
  | [], _ => ⟨rfl, Nat.zero_le _⟩
  | e :: r, h => by
    obtain ⟨a, b⟩ := layPairs (es := r) fun x hx => h x (List.mem_cons_of_mem _ hx)
    have lt := abc_lt (h e List.mem_cons_self)
    refine ⟨?_, ?_⟩
    · simp only [List.map_cons, PyData.canLayAll0, dPair, PyData.canLay0, a, Bool.and_true]
      simpa [PyData.strOk] using lt
    · simp only [List.map_cons, PyData.depthAll, dPair, PyData.depth]
      omega
theorem shapedPairs {es : List (Nat × Int)} (h : ∀ e ∈ es, e.1 ∈ abc.cps.toList) : SeqAt.shaped (dPairs es) = true := by
  obtain ⟨a, b⟩ := layPairs h
  show (PyData.canLayAll0 (es.map dPair) && decide (PyData.depthAll (es.map dPair) + 1 ≤ 64)) = true
  rw [a, decide_eq_true (by omega)]
  rfl
theorem PairsD.abc {H : Hp} {xs : List V} {es : List (Nat × Int)} (h : PairsD H xs es) : ∀ e ∈ es, e.1 ∈ abc.cps.toList := fun e he => by
  obtain ⟨i, hi⟩ := List.mem_iff_getElem?.mp he
  obtain ⟨t, _, p⟩ := h.2 i e hi
  exact p.2.1
def spWEq (K : PySem.W.Frag) (C : Addr) : Sp := fun vs H Q _ => ∃ a es xs y, vs = [.ref a, y] ∧ Wts C H a es xs ∧ ((∃ b fs ys, y = .ref b ∧ Wts C H b fs ys ∧ Q (.bl (decide (es = fs))) H) ∨ ((∃ t, TyX K H y t ∧ PySem.W.kitOne K t (.ref C) = some false) ∧ Q (.bl false) H))
section
variable {P : Program} {w : World} {K : PySem.W.Frag} {mg : Str → Option Value} {base : Heap}
theorem scWEq : FnScope ["self", "other"] ["self", "other"] (defScope sWEq) := ⟨rfl, rfl, rfl, by decide +kernel, rfl, by decide +kernel, by decide +kernel⟩
theorem ok_wEq {C f : Addr} {fd : FuncData} (F : L2.Fun K "__eq__" "Weights.__eq__" sWEq f fd) (T : Txt mg) (M : WT K C) (gC : mg "Weights" = some (.ref C)) (I : InsT K C) (rk : PySem.W.kitOne K (.ref C) (.ref C) = some true) : FnOk P w K mg base CX0 1 f fd ["self", "other"] (spWEq K C) := by
  refine F.ok scWEq (fun vs H Q E h => ?_) (fun cdv A outer s H vs Q E hr h => ?_)
  · obtain ⟨a, es, xs, y, rfl, _⟩ := h
    rfl
  · obtain ⟨a, es, xs, y, rfl, ⟨dx, p, ha, hp, ps⟩, h⟩ := h
    refine ⟨_, pss_one (ps_ret (pe_and (bIsi (by rfl) T.isi (pv 1) (pe_glob (v := .ref C) (by rfl) gC rfl)) (pe_one (pe_cmpR (op_eqD hr.units) (pe_fld (pv 0) rfl) (pe_fld (pv 1) rfl) (nomark _))))), ?_⟩
    rcases h with ⟨b, fs, ys, rfl, ⟨dy, q, hb, hq, qs⟩, k⟩ | ⟨⟨t, ty, no⟩, k⟩
    · refine ⟨_, rfl, .ref b, .ref C, _, _, true, rfl, .own C, I.ty hb, rk, true, rfl, iteT ?_⟩
      refine ⟨_, rfl, a, C, dx, _, _, rfl, ha, M.cl, M.n2, wf_pairs _ _, _, rfl, b, C, dy, _, _, rfl, hb, M.cl, M.n2, wf_pairs _ _, _, _, dpPairs hp ps, dpPairs hq qs, shapedPairs ps.abc, shapedPairs qs.abc, ?_⟩
      rw [eqvD]
      exact k
    · exact ⟨_, rfl, y, .ref C, _, _, false, rfl, .own C, ty, no, false, rfl, iteF k⟩
end
end Kx

set_option Elab.async false
set_option maxRecDepth 100000
set_option autoImplicit false
set_option pp.maxSteps 400
set_option pp.deepTerms false
/-! weights of rows, and the rows one behind the other -/
namespace Kx
open PySem PySem.StrLaws PySem.Builtin PySem.Builtin.Str
theorem cnt_run (s : Str) (c limit : Nat) : ∀ (m cur : Nat) (st : Array Nat × Nat), st.snd ≤ cur → cur + m = s.length + 1 → st.fst.size + m ≤ limit →
    (forIn (List.range' cur m) st (occBody s ⟨#[c]⟩ s.length limit)).run.fst.size = st.fst.size + (s.cps.toList.drop cur).count c
  | 0, cur, st, h1, h2, h3 => by
    have : s.cps.toList.drop cur = [] := List.drop_eq_nil_of_le (by show s.cps.toList.length ≤ cur; rw [Array.length_toList]; show s.length ≤ cur; omega)
    rw [this]
    rfl
  | m + 1, cur, st, h1, h2, h3 => by
    rw [List.range'_succ, List.forIn_cons]
    unfold occBody
    have one : (⟨#[c]⟩ : Str).length = 1 := rfl
    split
    · rename_i hc
      have at_ := (subAt_one s c cur).mp ⟨hc.1.2, hc.2⟩
      obtain ⟨lt, e⟩ := List.getElem?_eq_some_iff.mp at_
      rw [List.drop_eq_getElem_cons lt, e, List.count_cons_self]
      have := cnt_run s c limit m (cur + 1) (st.fst.push cur, cur + (⟨#[c]⟩ : Str).length) (by rw [one]; exact Nat.le_refl _) (by omega) (by show (st.fst.push cur).size + m ≤ limit; rw [Array.size_push]; omega)
      refine this.trans ?_
      show (st.fst.push cur).size + _ = _
      rw [Array.size_push]; omega
    · rename_i hc
      have := cnt_run s c limit m (cur + 1) (st.fst, st.snd) (by show st.snd ≤ cur + 1; omega) (by omega) (by show st.fst.size + m ≤ limit; omega)
      refine this.trans ?_
      show st.fst.size + _ = _
      by_cases lt : cur < s.cps.toList.length
      · rw [List.drop_eq_getElem_cons lt, List.count_cons_of_ne]
        intro e
        have q := (subAt_one s c cur).mpr (List.getElem?_eq_some_iff.mpr ⟨lt, by first | exact e | exact e.symm⟩)
        exact hc ⟨⟨⟨by show st.fst.size < limit; omega, h1⟩, q.1⟩, q.2⟩
      · rw [List.drop_eq_nil_of_le (by omega), List.drop_eq_nil_of_le (by omega)]
theorem count_one (s : Str) (c : Nat) : Txt.count s ⟨#[c]⟩ = ((s.cps.toList.count c : Nat) : Int) := by
  unfold Txt.count
  rw [occ_eq, Array.length_toList]
  have := cnt_run s c (s.length + 1) (s.length + 1) 0 ((#[] : Array Nat), 0) (Nat.le_refl _) (by omega) (by show 0 + (s.length + 1) ≤ s.length + 1; omega)
  rw [show s.length + 1 - 0 = s.length + 1 from rfl, this, List.drop_zero]
  show ((0 + _ : Nat) : Int) = _
  rw [Nat.zero_add]
/-- the weight of a row by its signs -/
def wtC (es : List (Nat × Int)) (l : List Nat) : Int := (es.map fun e => e.2 * ((l.count e.1 : Nat) : Int)).sum
def wtS (es : List (Nat × Int)) (l : List Nat) : Int := (l.map fun c => (es.lookup c).getD 0).sum
theorem wtC_nil : ∀ (es : List (Nat × Int)), wtC es [] = 0
  | [] => rfl
  | e :: r => by
    have := wtC_nil r
    unfold wtC at this ⊢
    rw [List.map_cons, List.sum_cons, this]
    simp
theorem wtC_cons_no : ∀ {es : List (Nat × Int)} {c : Nat} {l : List Nat}, c ∉ es.map (·.1) → wtC es (c :: l) = wtC es l
  | [], _, _, _ => rfl
  | e :: r, c, l, h => by
    rw [List.map_cons, List.mem_cons] at h
    have ih := wtC_cons_no (es := r) (c := c) (l := l) fun z => h (.inr z)
    unfold wtC at ih ⊢
    rw [List.map_cons, List.sum_cons, List.map_cons, List.sum_cons, ih, List.count_cons_of_ne (fun z => h (.inl z))]
theorem wtC_cons : ∀ {es : List (Nat × Int)} {c : Nat} {l : List Nat}, (es.map (·.1)).Nodup → c ∈ es.map (·.1) → wtC es (c :: l) = (es.lookup c).getD 0 + wtC es l
  | [], _, _, _, h => by cases h
  | e :: r, c, l, nd, h => by
    rw [List.map_cons, List.nodup_cons] at nd
    by_cases q : c = e.1
    · subst q
      have ih := wtC_cons_no (es := r) (l := l) nd.1
      unfold wtC at ih ⊢
      rw [List.map_cons, List.sum_cons, List.map_cons, List.sum_cons, ih, List.count_cons_self, show (e :: r).lookup e.1 = some e.2 from by
        obtain ⟨a, b⟩ := e
        simp [List.lookup]]
      show e.2 * ((List.count e.1 l + 1 : Nat) : Int) + _ = e.2 + (e.2 * _ + _)
      rw [Int.natCast_add, Int.mul_add]
      omega
    · have h' : c ∈ r.map (·.1) := (List.mem_cons.mp h).resolve_left q
      have ih := wtC_cons (l := l) nd.2 h'
      unfold wtC at ih ⊢
      rw [List.map_cons, List.sum_cons, List.map_cons, List.sum_cons, ih, List.count_cons_of_ne (fun z => q z), show (e :: r).lookup c = r.lookup c from by
        obtain ⟨a, b⟩ := e
        have : (c == a) = false := by simpa using q
        simp [List.lookup, this]]
      omega
theorem wt_eq {es : List (Nat × Int)} (nd : (es.map (·.1)).Nodup) : ∀ {l : List Nat}, (∀ c ∈ l, c ∈ es.map (·.1)) → wtS es l = wtC es l
  | [], _ => (wtC_nil es).symm
  | c :: l, h => by
    rw [wtC_cons nd (h c List.mem_cons_self), ← wt_eq nd fun d hd => h d (List.mem_cons_of_mem _ hd)]
    rfl
/-! ### rows in order -/
/-- the row behind, its last sign first, by indexes below k -/
def sucR (k : Nat) : List Nat → Option (List Nat)
  | [] => none
  | d :: r => if d + 1 < k then some ((d + 1) :: r) else (sucR k r).map (0 :: ·)
def allR (k : Nat) : Nat → List (List Nat)
  | 0 => [[]]
  | n + 1 => (allR k n).flatMap fun r => (List.range k).map (· :: r)
/-- from x on, by f, all of L -/
inductive RunOf {α : Type} (f : α → Option α) : α → List α → Prop
  | last {x : α} : f x = none → RunOf f x [x]
  | more {x y : α} {L : List α} : f x = some y → RunOf f y L → RunOf f x (x :: L)
theorem run_block {k : Nat} {x : List Nat} {M : List (List Nat)} (h : (sucR k x = none ∧ M = []) ∨ ∃ y, sucR k x = some y ∧ RunOf (sucR k) (0 :: y) M) : ∀ (m j : Nat), j + m = k → 0 < m → RunOf (sucR k) (j :: x) ((List.range' j m).map (· :: x) ++ M)
  | 0, _, _, p => by omega
  | 1, j, e, _ => by
    have no : ¬ j + 1 < k := by omega
    rcases h with ⟨h1, rfl⟩ | ⟨y, h1, h2⟩
    · refine .last ?_
      unfold sucR
      rw [if_neg no, h1]; rfl
    · refine .more (y := 0 :: y) ?_ h2
      unfold sucR
      rw [if_neg no, h1]; rfl
  | m + 2, j, e, _ => by
    refine .more (y := (j + 1) :: x) ?_ (run_block h (m + 1) (j + 1) (by omega) (by omega))
    unfold sucR
    rw [if_pos (by omega)]
theorem run_up {k : Nat} (pos : 0 < k) {x : List Nat} {L : List (List Nat)} (h : RunOf (sucR k) x L) : RunOf (sucR k) (0 :: x) (L.flatMap fun r => (List.range k).map (· :: r)) := by
  induction h with
  | last e =>
    have := run_block (M := []) (.inl ⟨e, rfl⟩) k 0 (Nat.zero_add _) pos
    rw [List.range_eq_range']
    simpa [List.flatMap] using this
  | more e _ ih =>
    have := run_block (.inr ⟨_, e, ih⟩) k 0 (Nat.zero_add _) pos
    rw [List.flatMap_cons, List.range_eq_range']
    rw [List.range_eq_range'] at this
    exact this
theorem run_all {k : Nat} (pos : 0 < k) : ∀ n, RunOf (sucR k) (List.replicate n 0) (allR k n)
  | 0 => .last rfl
  | n + 1 => run_up pos (run_all pos n)
theorem suc_len {k : Nat} : ∀ {r r' : List Nat}, sucR k r = some r' → r'.length = r.length
  | [], _, h => by cases h
  | d :: r, r', h => by
    unfold sucR at h
    split at h
    · cases h; rfl
    · cases q : sucR k r with
      | none => rw [q] at h; cases h
      | some y =>
        rw [q] at h
        cases h
        simp [suc_len q]
theorem suc_low {k : Nat} (pos : 0 < k) : ∀ {r r' : List Nat}, sucR k r = some r' → (∀ d ∈ r, d < k) → ∀ d ∈ r', d < k
  | [], _, h, _ => by cases h
  | d :: r, r', h, l => by
    unfold sucR at h
    split at h
    · cases h
      intro e he
      rcases List.mem_cons.mp he with rfl | he
      · assumption
      · exact l e (List.mem_cons_of_mem _ he)
    · cases q : sucR k r with
      | none => rw [q] at h; cases h
      | some y =>
        rw [q] at h
        cases h
        intro e he
        rcases List.mem_cons.mp he with rfl | he
        · exact pos
        · exact suc_low pos q (fun d hd => l d (List.mem_cons_of_mem _ hd)) e he
/-- a row's text, of its indexes, the last first -/
def encR (cs r : List Nat) : Str := ⟨(r.reverse.map fun d => cs.getD d 0).toArray⟩
theorem encR_len (cs r : List Nat) : (encR cs r).length = r.length := by
  show ((r.reverse.map fun d => cs.getD d 0).toArray).size = _
  simp
/-- what stands behind the last signs that are none but the last letter -/
theorem suc_form {k : Nat} : ∀ (r : List Nat), (∀ d ∈ r, d < k) → (∃ m, r = List.replicate m (k - 1) ∧ sucR k r = none) ∨ ∃ m d r2, r = List.replicate m (k - 1) ++ d :: r2 ∧ d + 1 < k ∧ sucR k r = some (List.replicate m 0 ++ (d + 1) :: r2)
  | [], _ => .inl ⟨0, rfl, rfl⟩
  | d :: r, l => by
    have ld := l d List.mem_cons_self
    by_cases c : d + 1 < k
    · refine .inr ⟨0, d, r, rfl, c, ?_⟩
      unfold sucR
      rw [if_pos c]; rfl
    · have ed : d = k - 1 := by omega
      rcases suc_form r fun e he => l e (List.mem_cons_of_mem _ he) with ⟨m, h1, h2⟩ | ⟨m, e, r2, h1, h2, h3⟩
      · refine .inl ⟨m + 1, by rw [h1, ed]; rfl, ?_⟩
        unfold sucR
        rw [if_neg c, h2]; rfl
      · refine .inr ⟨m + 1, e, r2, by rw [h1, ed]; rfl, h2, ?_⟩
        unfold sucR
        rw [if_neg c, h3]; rfl
/-- rstrip of one sign -/
theorem rstrip_one {l : List Nat} {c m : Nat} (h : ∀ d, l.getLast? = some d → d ≠ c) : Txt.rstripChars ⟨(l ++ List.replicate m c).toArray⟩ ⟨#[c]⟩ = ⟨l.toArray⟩ := by
  have pc : ∀ d, (⟨#[c]⟩ : Str).cps.contains d = decide (d = c) := fun d => by
    show (#[c] : Array Nat).contains d = _
    simp [eq_comm]
  have run : ((l ++ List.replicate m c).reverse.takeWhile (⟨#[c]⟩ : Str).cps.contains) = List.replicate m c := by
    rw [List.reverse_append, List.reverse_replicate, List.takeWhile_append_of_pos (fun d hd => by rw [pc, List.eq_of_mem_replicate hd]; simp)]
    have : l.reverse.takeWhile (⟨#[c]⟩ : Str).cps.contains = [] := by
      cases q : l.reverse with
      | nil => rfl
      | cons d r =>
        have hd : l.getLast? = some d := by
          have : l = (d :: r).reverse := by rw [← q, List.reverse_reverse]
          rw [this]; simp
        rw [List.takeWhile_cons, pc, decide_eq_false (h d hd)]
        rfl
    rw [this, List.append_nil]
  have lo : stripLo (⟨#[c]⟩ : Str).cps.contains false ⟨(l ++ List.replicate m c).toArray⟩ = 0 := rfl
  have hi : stripHi (⟨#[c]⟩ : Str).cps.contains true ⟨(l ++ List.replicate m c).toArray⟩ 0 = l.length := by
    unfold stripHi
    rw [if_pos rfl]
    show (l ++ List.replicate m c).toArray.size - (((l ++ List.replicate m c).drop 0).reverse.takeWhile _).length = _
    rw [List.drop_zero, run, List.size_toArray, List.length_append, List.length_replicate]
    omega
  show Txt.stripBy (⟨#[c]⟩ : Str).cps.contains false true ⟨(l ++ List.replicate m c).toArray⟩ = _
  unfold Txt.stripBy stripSame stripped
  rw [lo, hi]
  split
  · rename_i q
    have e : l.length = (l ++ List.replicate m c).length := by
      have := (Bool.and_eq_true_iff.mp q).2
      have := beq_iff_eq.mp this
      exact this.trans (by show (l ++ List.replicate m c).toArray.size = _; rw [List.size_toArray])
    have m0 : m = 0 := by rw [List.length_append, List.length_replicate] at e; omega
    subst m0
    simp
  · refine TL.ext_tl ?_
    show ((l ++ List.replicate m c).toArray.extract 0 l.length).toList = l
    rw [Array.toList_extract]
    simp
end Kx

set_option Elab.async false
set_option maxRecDepth 100000
set_option autoImplicit false
set_option pp.maxSteps 400
set_option pp.deepTerms false
/-! what is a row; its weight; its place -/
namespace Kx
open PySem L2 PySem.Spec PyProof.Rows Rg Er Ru Tn
abbrev sWrong : Stmt := top 18
abbrev sCheckRow : Stmt := top 19
abbrev sWeigh : Stmt := top 20
abbrev sWCall : Stmt := inClass (top 28) 8
abbrev sWPlace : Stmt := inClass (top 28) 9
def Word (z w : Str) : Prop := ∀ c ∈ w.cps.toList, c ∈ z.cps.toList
theorem take_all (p : Nat → Bool) : ∀ l : List Nat, (∀ c ∈ l, p c = true) → l.takeWhile p = l
  | [], _ => rfl
  | c :: r, h => by
    rw [List.takeWhile_cons, h c List.mem_cons_self, if_pos rfl, take_all p r fun d hd => h d (List.mem_cons_of_mem _ hd)]
theorem strip_word {z w : Str} (h : Word z w) : Txt.lstripChars w z = Str.empty := by
  have e : w.cps.toList.takeWhile z.cps.contains = w.cps.toList := take_all _ _ fun c hc => by
    have q := h c hc
    simpa using q
  have el : w.cps.toList.length = w.length := by simp [Str.length]
  have lo : stripLo z.cps.contains true w = w.length := by unfold stripLo; simp [e, el]
  show Txt.stripBy z.cps.contains true false w = Str.empty
  unfold Txt.stripBy stripSame stripped
  rw [lo]
  have hi : stripHi z.cps.contains false w w.length = w.length := rfl
  rw [hi]
  by_cases q : w.length = 0
  · have e0 : w = Str.empty := by
      obtain ⟨a⟩ := w
      have : a = #[] := Array.eq_empty_of_size_eq_zero q
      subst this; rfl
    subst e0; rfl
  · have f : (w.length == 0) = false := by simpa using q
    rw [f, Bool.false_and, if_neg Bool.false_ne_true]
    show (⟨w.cps.extract w.length w.length⟩ : Str) = Str.empty
    have : w.cps.extract w.length w.length = #[] := by
      simp
      exact Nat.min_le_left _ _
    rw [this]; rfl
def spWrong : Sp := fun vs H Q _ => ∃ z wd : Str, vs = [.str z, .str wd] ∧ Word z wd ∧ wd.length ≤ 1000 ∧ Q .non H
abbrev W0 : WX := fun _ _ _ _ => False
theorem bIndex {X : Cx} (hc : X.calm = true) (tk : Takes X W0) {o e : Expr} {to te : TE} {apos cpos : Pos} (ho : PE X o to) (he : PE X e te) (hbase : attributeBase o "index" X.env (eval o X.env) = eval o X.env := by rfl)
    (hfew : ((backTo cpos (starEach [e] X.env)).all (fun x => !x.1) && (backToKw cpos (keywordEach [] X.env)).all (fun x => x.1.isSome) && decide ([e].length + ([] : List Keyword).length + (if ([] : List Keyword).isEmpty then 0 else 1) < 30)) = true := by rfl)
    (hline : (apos.endLine == cpos.line) = true := by rfl) (hs : starEach [e] X.env = (false, eval e X.env) :: starEach [] X.env := by rfl) (hplain : (backTo cpos (starEach [] X.env)).any (·.1) = false := by rfl) :
    PE X (.Call (.Attribute o "index" apos) [e] [] cpos) (tBMS X.K "str" (rIndexX W0) to (tCons te tNil)) :=
  pe_bmS PySem.F.plainAttrs_str PySem.F.slot_str_index PySem.F.type_str_index (mt_indexX hc tk) ho (pa_cons he pa_nil hs) hbase hfew hline hs hplain
/-- x is no row of the signs z: i is told -/
def Bad (K : PySem.W.Frag) (H : Hp) (z : Str) (x : V) (i : Int) : Prop :=
  (∃ wd : Str, x = .str wd ∧ wd.length ≤ 1000 ∧ Txt.lstripChars wd z ≠ Str.empty ∧ (Txt.lstripChars wd z).length ≤ 1000 ∧ i = (wd.length : Nat) - ((Txt.lstripChars wd z).length : Nat)) ∨ (∃ t, TyX K H x t ∧ PySem.W.kitOne K t (.type "str") = some false ∧ i = 0)
def spWrongB (K : PySem.W.Frag) : Sp := fun vs H Q _ => ∃ (z : Str) (x : V) (i : Int), vs = [.str z, x] ∧ Bad K H z x i ∧ Q (.int i) H
def spCheckB (K : PySem.W.Frag) (C : Addr) : Sp := fun vs H _ E => ∃ (z : Str) (x : V) (i : Int), vs = [.str z, x] ∧ Bad K H z x i ∧ raised C "at" (.int i) E H
section
variable {P : Program} {w : World} {K : PySem.W.Frag} {mg : Str → Option Value} {base : Heap}
theorem scWrong : FnScope ["signs", "value", "rest"] ["signs", "value"] (defScope sWrong) := ⟨rfl, rfl, rfl, by decide +kernel, rfl, by decide +kernel, by decide +kernel⟩
theorem ok_wrong {f : Addr} {fd : FuncData} (F : L2.Fun K "wrong_at" "wrong_at" sWrong f fd) (T : Txt mg) (mS : mg "str" = none) : FnOk P w K mg base CX0 1 f fd ["signs", "value"] spWrong := by
  refine F.ok scWrong (fun vs H Q E h => ?_) (fun cdv A outer s H vs Q E hr h => ?_)
  · obtain ⟨z, wd, rfl, _⟩ := h
    rfl
  · obtain ⟨z, wd, rfl, hw, hl, k⟩ := h
    have nd := scWrong.nd
    refine ⟨_, pss_cons (ps_if (pt_not (pt_val (bIsi (by rfl) T.isi (pv 1) (pe_bltn (v := .ty "str") (by rfl) mS (by decide +kernel) rfl)))) (pss_one (ps_ret pe_int)) pss_nil)
      (pss_cons (ps_set (i := 2) nd rfl (.inl rfl) (pe_bm PySem.F.plainAttrs_str PySem.F.slot_str_lstrip PySem.F.type_str_lstrip mt_lstripChars (pv 1) (pa_cons (pv 0) pa_nil)))
      (pss_cons (ps_if (pt_cmpR op_eq (pv 2) pe_str (nomark _)) (pss_one (ps_ret pe_non)) pss_nil) (pss_one ps_never))), ?_⟩
    refine ⟨_, rfl, .str wd, .ty "str", _, _, true, rfl, .ty "str", .base (.str wd), kit_ty (by decide +kernel), true, rfl, iteF ?_⟩
    refine ⟨_, rfl, rfl, _, rfl, wd, z, rfl, rfl, len_small hl, ?_⟩
    rw [strip_word hw]
    exact ⟨_, rfl, rfl, _, rfl, iteT k⟩
theorem scCheckRow : FnScope ["signs", "value", "at"] ["signs", "value"] (defScope sCheckRow) := ⟨rfl, rfl, rfl, by decide +kernel, rfl, by decide +kernel, by decide +kernel⟩
theorem ok_checkRow {f f1 : Addr} {fd fd1 : FuncData} (F : L2.Fun K "check_row" "check_row" sCheckRow f fd) (G : FnOk P w K mg base CX0 1 f1 fd1 ["signs", "value"] spWrong) (m1 : mg "wrong_at" = some (.ref f1)) (k1 : PySem.W.keepIn K (.ref f1) = true)
    (b1 : L2.Binds K fd1 ["signs", "value"] []) : FnOk P w K mg base CX0 2 f fd ["signs", "value"] spWrong := by
  refine F.ok scCheckRow (fun vs H Q E h => ?_) (fun cdv A outer s H vs Q E hr h => ?_)
  · obtain ⟨z, wd, rfl, _⟩ := h
    rfl
  · obtain ⟨z, wd, rfl, hw, hl, k⟩ := h
    have nd := scCheckRow.nd
    refine ⟨_, pss_cons (ps_set (i := 2) nd rfl (.inl rfl) (pe_call G hr (by rfl) m1 k1 b1 .nil pass0 (pa_cons (pv 0) (pa_cons (pv 1) pa_nil)))) (pss_one (ps_if (pt_cmp (pc_notN (pv 2))) (pss_one ps_never) pss_nil)), ?_⟩
    exact ⟨_, rfl, _, rfl, z, wd, rfl, hw, hl, _, rfl, _, rfl, iteF k⟩
theorem ok_wrongB {f : Addr} {fd : FuncData} (F : L2.Fun K "wrong_at" "wrong_at" sWrong f fd) (T : Txt mg) (mS : mg "str" = none) : FnOk P w K mg base CX0 1 f fd ["signs", "value"] (spWrongB K) := by
  refine F.ok scWrong (fun vs H Q E h => ?_) (fun cdv A outer s H vs Q E hr h => ?_)
  · obtain ⟨z, x, i, rfl, _⟩ := h
    rfl
  · obtain ⟨z, x, i, rfl, bad, k⟩ := h
    have nd := scWrong.nd
    refine ⟨_, pss_cons (ps_if (pt_not (pt_val (bIsi (by rfl) T.isi (pv 1) (pe_bltn (v := .ty "str") (by rfl) mS (by decide +kernel) rfl)))) (pss_one (ps_ret pe_int)) pss_nil)
      (pss_cons (ps_set (i := 2) nd rfl (.inl rfl) (pe_bm PySem.F.plainAttrs_str PySem.F.slot_str_lstrip PySem.F.type_str_lstrip mt_lstripChars (pv 1) (pa_cons (pv 0) pa_nil)))
      (pss_cons (ps_if (pt_cmpR op_eq (pv 2) pe_str (nomark _)) (pss_one (ps_ret pe_non)) pss_nil) (pss_one (ps_ret (pe_op op_sub (bLen (by rfl) T.len (pv 1)) (bLen (by rfl) T.len (pv 2))))))), ?_⟩
    rcases bad with ⟨wd, rfl, hl, ne, hl2, rfl⟩ | ⟨t, ty, no, rfl⟩
    · refine ⟨_, rfl, .str wd, .ty "str", _, _, true, rfl, .ty "str", .base (.str wd), kit_ty (by decide +kernel), true, rfl, iteF ?_⟩
      refine ⟨_, rfl, rfl, _, rfl, wd, z, rfl, rfl, len_small hl, ?_⟩
      refine ⟨_, rfl, rfl, _, rfl, ?_⟩
      have e : decide (V.str (Txt.lstripChars wd z) = V.str "") = false := decide_eq_false fun q => ne (V.str.inj q)
      rw [e]
      exact iteF ⟨_, rfl, _, wd.length, rfl, ⟨len_small hl, rfl⟩, _, rfl, _, (Txt.lstripChars wd z).length, rfl, ⟨len_small hl2, rfl⟩, _, _, rfl, rfl, k⟩
    · exact ⟨_, rfl, x, .ty "str", _, _, false, rfl, .ty "str", ty, no, _, rfl, iteT k⟩
theorem ok_checkB {f f1 C : Addr} {fd fd1 : FuncData} (F : L2.Fun K "check_row" "check_row" sCheckRow f fd) (G : FnOk P w K mg base CX0 1 f1 fd1 ["signs", "value"] (spWrongB K)) (m1 : mg "wrong_at" = some (.ref f1)) (k1 : PySem.W.keepIn K (.ref f1) = true)
    (b1 : L2.Binds K fd1 ["signs", "value"] []) (R : ErrB P w K mg base "BadRow" "at" C) : FnOk P w K mg base (L2.CX P w) 3 f fd ["signs", "value"] (spCheckB K C) := by
  obtain ⟨fi, fdi, psi, r1, r2, r3, r4⟩ := R.init
  refine F.okX scCheckRow (fun vs H Q E h => ?_) (fun cdv A outer s H vs Q E hr h => ?_)
  · obtain ⟨z, x, i, rfl, _⟩ := h
    rfl
  · obtain ⟨z, x, i, rfl, bad, k⟩ := h
    have nd := scCheckRow.nd
    have tk := takes_of (X := cxOf (L2.CX P w) P w K mg base ["signs", "value", "at"] "check_row" (defScope sCheckRow) f cdv A outer s H E) rfl rfl rfl rfl
    refine ⟨_, pss_cons (ps_set (i := 2) nd rfl (.inl rfl) (pe_call G (hr.mono (by decide)) (by rfl) m1 k1 b1 .nil pass0 (pa_cons (pv 0) (pa_cons (pv 1) pa_nil)))) (pss_one (ps_if (pt_cmp (pc_notN (pv 2))) (pss_one (ps_raise1 rfl tk R.O r1 r2 r3 hr r4 (by rfl) R.mgC (pv 2))) pss_nil)), ?_⟩
    exact ⟨_, rfl, _, rfl, z, x, i, rfl, bad, _, rfl, _, rfl, iteT ⟨_, rfl, k⟩⟩
/-- the weight of a row by the pairs -/
def spWeigh : Sp := fun vs H Q _ => ∃ (p : Addr) (xs : List V) (es : List (Nat × Int)) (wd : Str), vs = [.ref p, .str wd] ∧ H p = some (.tup xs) ∧ PairsD H xs es ∧ es.length ≤ 4 ∧ wd.length ≤ 1000 ∧ ∀ H', Same H H' → Q (.int (wtC es wd.cps.toList)) H'
theorem scWeigh : FnScope ["pairs", "row", "sign", "weight"] ["pairs", "row"] (defScope sWeigh) := ⟨rfl, rfl, rfl, by decide +kernel, rfl, by decide +kernel, by decide +kernel⟩
abbrev tCount (K : PySem.W.Frag) (a b : TE) : TE := tBM K "str" (fun x xs H Q => ∃ a b, x = .str a ∧ xs = [.str b] ∧ Q (.int (Txt.count a b)) H) a (tCons b tNil)
/-- a comprehension over pairs, for two names, whose elements are told by the turn, over a heap that only grows -/
theorem lcPairs {J : It} {n : Nat} {G : Hp → Prop} {Y : Nat → Hp → V → Hp → Prop} (w : Walk J n G Y) {i j : Nat} {te : TE} {σ : L2.St} {H1 : Hp} {D : Addr} {Qd : Hp → Prop} (f : Nat → V) (hn : n < sizeLine) (hD : H1 D = none) (hG : ∀ H', Same H1 H' → G H')
    (hY : ∀ m H' x H2, Y m H' x H2 → H2 = H') (hw : ∀ a b : V, wipe ((((wipe σ [i, j]).set i (some a)).set j (some b))) [i, j] = wipe σ [i, j])
    (el : ∀ m x H' (Q : VK), m < n → Same H1 H' → Y m H' x H' → (∀ H4, Same H' H4 → Q (f m) H4) → ∃ t a b, x = .ref t ∧ SqT K H' t [a, b] ∧ te (((wipe σ [i, j]).set i (some a)).set j (some b)) H' Q)
    (hd : ∀ H', Same H1 H' → H' D = some (.lst ((List.range n).map f)) → Qd H') :
    ∃ W : Nat → Nat → Hp → Prop, (∃ m, W 0 m (upd H1 D (.lst []))) ∧ ∀ k m H, W k m H →
      (J.stop k H ∧ Qd H) ∨ (J.go k H ∧ ∃ Nx : Hp → Prop, (∀ H', Nx H' → ∃ m', m' < m ∧ W (k + 1) m' H') ∧ ∀ x H', J.yld k H x H' → gTup K 2 (gCons (gName i) (gCons (gName j) gNil)) x (wipe σ [i, j]) H' fun σ2 H2 => wipe σ2 [i, j] = wipe σ [i, j] ∧ tYes σ2 H2 fun b H3 =>
        if b = true then te σ2 H3 fun y H4 => ∃ acc, H4 D = some (.lst acc) ∧ acc.length < sizeLine ∧ Nx (upd H4 D (.lst (acc ++ [y]))) else Nx H3) := by
  refine lc_it w (fun m H' => Same H1 H' ∧ H' D = some (.lst ((List.range m).map f))) ⟨Same.new hD, upd_same⟩ (fun m H' _ q => hG H' q.1) ?_ fun H' q => hd H' q.1 q.2
  rintro m x H' H2 hm ⟨s1, hl⟩ y
  obtain rfl := hY _ _ _ _ y
  obtain ⟨t, a, b, rfl, ht, q⟩ := el m x H2 (fun y H4 => ∃ acc, H4 D = some (.lst acc) ∧ acc.length < sizeLine ∧ (Same H1 (upd H4 D (.lst (acc ++ [y]))) ∧ upd H4 D (.lst (acc ++ [y])) D = some (.lst ((List.range (m + 1)).map f)))) hm s1 y fun H4 s4 => by
    refine ⟨_, s4 _ _ hl, ?_, Same.putNew hD (s1.trans s4), ?_⟩
    · rw [List.length_map, List.length_range]; omega
    · rw [upd_same, List.range_succ, List.map_append]
      rfl
  refine ⟨t, [a, b], rfl, ht, rfl, a, [b], rfl, b, [], rfl, rfl, hw a b, ?_⟩
  unfold tYes
  dsimp only
  rw [if_pos rfl]
  exact q
theorem map_getD {α β : Type} {f : α → β} {l : List α} {d : α} : (List.range l.length).map (fun i => f (l.getD i d)) = l.map f := by
  refine List.ext_getElem (by simp) fun i h1 h2 => ?_
  simp at h1 h2
  simp [List.getD_eq_getElem?_getD, List.getElem?_eq_getElem h2]
theorem ok_weigh {f : Addr} {fd : FuncData} (F : L2.Fun K "weigh" "weigh" sWeigh f fd) (mS : mg "sum" = none) : FnOk P w K mg base CX0 1 f fd ["pairs", "row"] spWeigh := by
  refine F.ok scWeigh (fun vs H Q E h => ?_) (fun cdv A outer s H vs Q E hr h => ?_)
  · obtain ⟨p, xs, es, wd, rfl, _⟩ := h
    rfl
  · obtain ⟨p, xs, es, wd, rfl, hp, pd, l4, hl, k⟩ := h
    have nd := scWeigh.nd
    refine ⟨_, pss_one (ps_ret (pe_callB (cr_sum rfl) (by rfl) mS (by decide +kernel) (pa_cons (pe_lc (own := [("sign", 2), ("weight", 3)]) (g := gTup K 2 (gCons (gName 2) (gCons (gName 3) gNil))) (tt := tYes) (te := tOp (rI CMul fun i j => .int (i * j)) (tVar 3) (tCount K (tVar 1) (tVar 2))) rfl nd (pi_tup (pv 0)) (blkOk_by (own := [("sign", 2), ("weight", 3)]) (N := ["pairs", "row", "sign", "weight"]) (sc := defScope sWeigh) (by decide +kernel))
      (fun _ _ _ _ _ => pg_tup rfl (pgs_cons (pg_name (i := 2) nd rfl (Or.inl rfl)) (pgs_cons (pg_name (i := 3) nd rfl (Or.inl rfl)) pgs_nil))) (fun _ _ _ _ _ => pts_nil) (fun _ _ _ _ _ => pe_op op_mul (pv 3) (pe_bm PySem.F.plainAttrs_str PySem.F.slot_str_count PySem.F.type_str_count mt_count (pv 1) (pa_cons (pv 2) pa_nil)))) pa_nil))), ?_⟩
    have al := pd.1
    refine ⟨_, rfl, p, rfl, ⟨_, SqT.of hp⟩, fun D hD => ?_⟩
    refine lcPairs (K := K) walk_tup (fun i => .int ((es.getD i (0, 0)).2 * ((wd.cps.toList.count (es.getD i (0, 0)).1 : Nat) : Int))) (by rw [sizeLine_eq]; omega) hD (fun H' s => SqT.of (s _ _ hp)) (fun _ _ _ _ y => y.1) (fun _ _ => rfl) ?_ ?_
    · rintro i x H' Q' hi s1 ⟨_, hx⟩ q
      have hi' : i < es.length := by rw [← al]; exact hi
      obtain ⟨t, et, pt⟩ := pd.2 i _ (List.getElem?_eq_getElem hi')
      rw [hx] at et
      cases et
      have eg : es.getD i (0, 0) = es[i] := by simp [List.getD_eq_getElem?_getD, List.getElem?_eq_getElem hi']
      have cl : wd.cps.toList.count es[i].1 ≤ 1000 := Nat.le_trans List.count_le_length (by rw [Array.length_toList]; exact hl)
      refine ⟨t, _, _, rfl, SqT.of (pt.same s1).1, _, rfl, _, rfl, rfl, _, rfl, wd, ⟨#[es[i].1]⟩, rfl, rfl, _, _, rfl, rfl, ?_, ?_⟩
      · rw [count_one]
        have := pt.2.2
        exact .inl ⟨by omega, by omega⟩
      · rw [count_one]
        have := q _ (Same.refl H')
        rw [eg] at this
        exact this
    intro H1 s1 hD1
    have : wtC es wd.cps.toList = ((List.range es.length).map fun i => (es.getD i (0, 0)).2 * ((wd.cps.toList.count (es.getD i (0, 0)).1 : Nat) : Int)).sum := by
      unfold wtC
      rw [map_getD (f := fun e : Nat × Int => e.2 * ((wd.cps.toList.count e.1 : Nat) : Int))]
    refine ⟨D, _, rfl, SqL.of (by rw [List.map_map]; rw [al] at hD1; exact hD1), ?_⟩
    rw [← this]
    exact k H1 s1
end
end Kx

set_option Elab.async false
set_option maxRecDepth 100000
set_option autoImplicit false
set_option pp.maxSteps 400
set_option pp.deepTerms false
/-! drawn texts -/
namespace Kx
open PySem L2 PySem.Spec PyProof.Rows Rg Er Ru Tn
abbrev sText : Stmt := top 38
abbrev sWeight : Stmt := top 40
def sg (d : Nat) : V := V.str ⟨#[d]⟩
theorem bIxS {X : Cx} {a b : Expr} {ta tb : TE} {pos : Pos} (ha : PE X a ta) (hb : PE X b tb) (hs : PlainIx b := by intro _ _; rfl) : PE X (.Subscript a b pos) (tOp rIxS ta tb) := pe_ix ix_str ha hb hs
def spText : Sp := fun vs H Q _ => ∃ (c p l : Addr) (n m : Nat) (cs : List Nat), vs = [.ref p, .ref l, .int (m : Int)] ∧ n ≤ 900000 ∧ m ≤ 10 ∧ PenAt c n H p ∧ l ≠ p ∧ H l = some (.lst (cs.map sg)) ∧ 0 < cs.length ∧ cs.length ≤ 30 ∧
  ∀ (ds : List Nat) H', (∀ d ∈ ds, d ∈ cs) → ds.length = m → Ink c p (n + 10) H H' → Q (.str ⟨ds.toArray⟩) H'
section
variable {P : Program} {w : World} {K : PySem.W.Frag} {mg : Str → Option Value} {base : Heap}
abbrev nText : List Str := ["_law_pen_here", "_law_signs", "_law_many", "_law_k"]
theorem scText : FnScope nText ["_law_pen_here", "_law_signs", "_law_many"] (defScope sText) := ⟨rfl, rfl, rfl, by decide +kernel, rfl, by decide +kernel, by decide +kernel⟩
theorem ok_text {f f2 : Addr} {fd fd2 : FuncData} (F : L2.Fun K "_law_text" "_law_text" sText f fd) (T : Txt mg)
    (G2 : FnOk P w K mg base CX0 2 f2 fd2 ["_law_pen_here", "_law_things"] spPick) (m2 : mg "_law_pick" = some (.ref f2)) (k2 : PySem.W.keepIn K (.ref f2) = true) (b2 : L2.Binds K fd2 ["_law_pen_here", "_law_things"] []) :
    FnOk P w K mg base CX0 3 f fd ["_law_pen_here", "_law_signs", "_law_many"] spText := by
  refine F.ok scText (fun vs H Q E h => ?_) (fun cdv A outer s H vs Q E hr h => ?_)
  · obtain ⟨c, p, l, n, m, cs, rfl, _⟩ := h
    rfl
  · obtain ⟨c, p, l, n, m, cs, rfl, nb, mb, pen, lp, hl, c0, c30, k⟩ := h
    have nd := scText.nd
    refine ⟨_, pss_one (ps_ret (pe_join pe_str (pe_lc (own := [("_law_k", 3)]) (g := gName 3) (tt := tYes) rfl nd (pi_range1 (by rfl) T.range (pa_cons (pv 2) pa_nil)) (blkOk_by (N := nText) (sc := defScope sText) (by decide +kernel))
          (fun _ _ _ _ _ => pg_name (i := 3) nd rfl (Or.inl rfl)) (fun _ _ _ _ _ => pts_nil) (fun _ _ _ _ _ => pe_call G2 hr (by rfl) m2 k2 b2 .nil pass0 (pa_cons (pv 0) (pa_cons (pv 1) pa_nil)))))), ?_⟩
    refine ⟨⟨_, rfl⟩, _, rfl, m, rfl, by omega, by omega, fun D hD => ?_⟩
    have Dp := pen.ne1 hD
    have Dl : l ≠ D := ne_of_none hl hD
    refine lcGen walk_range (fun i H' acc => Ink c p (n + i) H H' ∧ H' l = some (.lst (cs.map sg)) ∧ ∃ ds : List Nat, acc = ds.map sg ∧ ∀ d ∈ ds, d ∈ cs) (by rw [sizeLine_eq]; omega) ⟨(Ink.start pen).new hD, by rw [upd_ne Dl]; exact hl, [], rfl, fun _ h => nomatch h⟩ (fun _ _ _ _ _ => trivial) (fun _ _ _ _ y => y.1) ?_ ?_
    · rintro i x H' acc Q' hi hDl hl2 ⟨ink, hl', ds, rfl, sub⟩ y q
      have hi8 : i < m := hi
      refine ⟨_, rfl, _, rfl, c, p, n + i, by omega, ink.2, .inl ⟨l, _, rfl, lp, hl', by rw [List.length_map]; exact c0, by rw [List.length_map]; omega, fun v H4 hv pen4 x4 => ?_⟩⟩
      obtain ⟨d, hd, rfl⟩ := List.mem_map.mp hv
      refine q _ H4 (x4 _ _ Dp hDl) ⟨Ink.putNew (n := n + (i + 1)) ⟨Ext1.trans ink.1 x4, pen4⟩ pen hD, ?_, ds ++ [d], by rw [List.map_append]; rfl, ?_⟩
      · rw [upd_ne Dl]; exact x4 _ _ lp hl'
      · intro e he
        rcases List.mem_append.mp he with he | he
        · exact sub e he
        · rw [List.mem_singleton.mp he]; exact hd
    · rintro H2 acc hDl hl2 ⟨ink, _, ds, rfl, sub⟩
      have hm : ds.length = m := by rw [List.length_map] at hl2; exact hl2
      refine ⟨_, D, ds.map fun d => ⟨#[d]⟩, rfl, rfl, .inl (SqL.of (by rw [List.map_map]; exact hDl)), ?_, ?_⟩
      · rw [sum_one, List.length_map]
        show ds.length + ds.length * 0 ≤ 16777216
        omega
      · rw [join_one]
        exact k ds _ sub hm (ink.mono (by omega))
end
end Kx

set_option Elab.async false
set_option maxRecDepth 100000
set_option autoImplicit false
set_option pp.maxSteps 400
set_option pp.deepTerms false
/-! _law_weight, _law_pairs -/
namespace Kx
open PySem L2 PySem.Spec PyProof.Rows Rg Er Ru Tn
abbrev sPairs : Stmt := top 39
def ky (c : Nat) : Key := .inr ⟨#[c]⟩
theorem ky_inj {a b : Nat} (h : ky a = ky b) : a = b := by
  have h1 : (⟨#[a]⟩ : Str) = ⟨#[b]⟩ := Sum.inr.inj h
  simpa using h1
theorem abc_ix : ∀ m, m < 26 → abc.cps.toList[m]? = some (97 + m) := by decide +kernel
theorem putK_app {acc : List (Key × V)} {k : Key} {v : V} (h : ∀ kv ∈ acc, kv.1 ≠ k) : putK acc k v = acc ++ [(k, v)] := by
  unfold putK
  rw [if_neg]
  intro z
  obtain ⟨kv, m, e⟩ := List.any_eq_true.mp z
  exact h kv m (of_decide_eq_true e)
theorem merge_app : ∀ (more acc : List (Key × V)), ((acc ++ more).map (·.1)).Nodup → mergeK acc more = acc ++ more
  | [], acc, _ => by rw [List.append_nil]; rfl
  | (k, v) :: r, acc, nd => by
    have e : ∀ kv ∈ acc, kv.1 ≠ k := fun kv m z => by
      rw [List.map_append, List.map_cons] at nd
      exact (List.pairwise_append.mp nd).2.2 kv.1 (List.mem_map.mpr ⟨kv, m, rfl⟩) k List.mem_cons_self z
    show mergeK (putK acc k v) r = _
    rw [putK_app e, merge_app r (acc ++ [(k, v)]) (by rw [List.append_assoc]; exact nd), List.append_assoc]
    rfl
theorem merge_self {kvs : List (Key × V)} (nd : (kvs.map (·.1)).Nodup) : mergeK [] kvs = kvs := by rw [merge_app kvs [] (by simpa using nd)]; rfl
def kvW (es : List (Nat × Int)) : List (Key × V) := es.map fun e => (ky e.1, V.int e.2)
theorem kvW_nodup {es : List (Nat × Int)} (nd : (es.map (·.1)).Nodup) : ((kvW es).map (·.1)).Nodup := by
  unfold kvW
  rw [List.map_map, show ((fun kv : Key × V => kv.1) ∘ fun e : Nat × Int => (ky e.1, V.int e.2)) = ky ∘ (·.1) from rfl, ← List.map_map]
  rw [List.nodup_iff_pairwise_ne] at nd ⊢
  exact List.Pairwise.map _ (fun a b ne z => ne (ky_inj z)) nd
theorem kvW_get : ∀ {es : List (Nat × Int)} {c : Nat}, c ∈ es.map (·.1) → valV (kvW es) (ky c) = some (.int ((es.lookup c).getD 0))
  | [], _, h => by cases h
  | (a, n) :: r, c, h => by
    by_cases q : c = a
    · subst q
      have : (List.lookup c ((c, n) :: r)) = some n := by simp [List.lookup]
      rw [this]
      unfold valV kvW
      rw [List.map_cons, List.find?_cons_of_pos (by simp)]
      rfl
    · have h' : c ∈ r.map (·.1) := (List.mem_cons.mp h).resolve_left q
      have ih := kvW_get h'
      have e1 : (c == a) = false := by simpa using q
      have : (List.lookup c ((a, n) :: r)) = r.lookup c := by simp [List.lookup, e1]
      rw [this, ← ih]
      unfold valV kvW
      rw [List.map_cons, List.find?_cons_of_neg (by
        intro z
        exact q (ky_inj (of_decide_eq_true z)).symm)]
theorem pairs_refs {K : PySem.W.Frag} {H : Hp} : ∀ {es : List (Nat × Int)} {xs : List V}, PairsD H xs es → ∃ ps : List Addr, xs = ps.map V.ref ∧ Paired (fun p (kv : Key × V) => SqT K H p [kV kv.1, kv.2]) ps (kvW es)
  | [], xs, h => ⟨[], List.eq_nil_of_length_eq_zero h.1, .nil⟩
  | e :: r, [], h => by have := h.1; simp at this
  | e :: r, x :: xs, h => by
    obtain ⟨t, h1, h2⟩ := h.2 0 e rfl
    obtain ⟨ps, e1, e2⟩ := pairs_refs (K := K) (es := r) (xs := xs) ⟨by have := h.1; simpa using this, fun i d hd => by simpa using h.2 (i + 1) d (by simpa using hd)⟩
    have ex : x = .ref t := by simpa using h1
    exact ⟨t :: ps, by rw [ex, e1]; rfl, .cons (SqT.of h2.1) e2⟩
def spWeight : Sp := fun vs H Q _ => ∃ (L : Addr) (xs : List V) (es : List (Nat × Int)) (l : List Nat), vs = [.ref L, .str ⟨l.toArray⟩] ∧ H L = some (.lst xs) ∧ PairsD H xs es ∧ es.length ≤ 4 ∧ (es.map (·.1)).Nodup ∧ (∀ c ∈ l, c ∈ es.map (·.1)) ∧ l.length ≤ 1000 ∧
  ∀ H', Same H H' → Q (.int (wtC es l)) H'
section
variable {P : Program} {w : World} {K : PySem.W.Frag} {mg : Str → Option Value} {base : Heap}
abbrev nWeight : List Str := ["_law_pairs_here", "_law_row", "_law_scale", "_law_sign"]
theorem scWeight : FnScope nWeight ["_law_pairs_here", "_law_row"] (defScope sWeight) := ⟨rfl, rfl, rfl, by decide +kernel, rfl, by decide +kernel, by decide +kernel⟩
theorem ok_weight {f : Addr} {fd : FuncData} (F : L2.Fun K "_law_weight" "_law_weight" sWeight f fd) (mD : mg "dict" = none) (mS : mg "sum" = none) : FnOk P w K mg base CX0 1 f fd ["_law_pairs_here", "_law_row"] spWeight := by
  refine F.ok scWeight (fun vs H Q E h => ?_) (fun cdv A outer s H vs Q E hr h => ?_)
  · obtain ⟨L, xs, es, l, rfl, _⟩ := h
    rfl
  · obtain ⟨L, xs, es, l, rfl, hL, pd, l4, nd0, mem, ll, k⟩ := h
    have nd := scWeight.nd
    refine ⟨_, pss_cons (ps_set (i := 2) nd rfl (.inr rfl) (pe_callTy (call_dictP rfl) (by rfl) mD (by decide +kernel) (pa_cons (pv 0) pa_nil)))
      (pss_one (ps_ret (pe_callB (cr_sum rfl) (by rfl) mS (by decide +kernel) (pa_cons (pe_lc (own := [("_law_sign", 3)]) (g := gName 3) (tt := tYes) (te := tDGet (tVar 2) (tVar 3)) rfl nd (pi_str (pv 1)) (blkOk_by (own := [("_law_sign", 3)]) (N := nWeight) (sc := defScope sWeight) (by decide +kernel))
        (fun _ _ _ _ _ => pg_name (i := 3) nd rfl (Or.inl rfl)) (fun _ _ _ _ _ => pts_nil) (fun _ _ _ _ _ => pe_dget (hu_of hr) (pv 2) (pv 3) (fun _ _ => rfl))) pa_nil)))), ?_⟩
    obtain ⟨ps, rfl, pr⟩ := pairs_refs (K := K) pd
    refine ⟨_, rfl, L, ps, kvW es, rfl, SqL.of hL, pr, fun d hd => ?_⟩
    rw [merge_self (kvW_nodup nd0)]
    have s1 : Same H (upd H d (.dK (kvW es))) := Same.new hd
    have e1 : upd H d (.dK (kvW es)) d = some (.dK (kvW es)) := upd_same
    generalize upd H d (.dK (kvW es)) = H1 at s1 e1 ⊢
    refine ⟨_, rfl, _, rfl, fun D hD => ?_⟩
    refine lcMap walk_str (fun i => V.int ((es.lookup (l.getD i 0)).getD 0)) (by show l.toArray.size < _; rw [sizeLine_eq]; simp; omega) hD (fun _ _ => trivial) (fun _ _ _ _ y => y.1) ?_ ?_
    · rintro i x H' Q' hi s2 ⟨_, c, hc, rfl⟩ q
      have hc' : l[i]? = some c := by simpa using hc
      have g := DGet.k (k := ky c) (s2 _ _ e1)
      rw [kvW_get (mem c (List.mem_of_getElem? hc'))] at g
      refine ⟨_, rfl, _, rfl, d, _, rfl, g, ?_⟩
      have := q _ (Same.refl H')
      rw [show l.getD i 0 = c from by rw [List.getD_eq_getElem?_getD, hc']; rfl] at this
      exact this
    intro H2 s2 hD2
    have : wtC es l = ((List.range l.toArray.size).map fun i => (es.lookup (l.getD i 0)).getD 0).sum := by
      rw [← wt_eq nd0 mem, List.size_toArray, map_getD (f := fun c => (es.lookup c).getD 0)]
      rfl
    refine ⟨D, _, rfl, SqL.of (by rw [List.map_map]; exact hD2), ?_⟩
    rw [← this]
    exact k _ (Same.trans s1 s2)
/-! ### _law_pairs -/
theorem Ink.freeOf {c p q : Addr} {n : Nat} {H H' : Hp} (i : Ink c p n H H') (e : H' q = none) : H q = none := by
  cases z : H q with
  | none => rfl
  | some o =>
    rw [i.1 q o (i.2.ne1 e) z] at e
    cases e
def ltr (f s : Int) (k : Nat) : Nat := 97 + ((f + s * (k : Int)) % 26).toNat
theorem ltr_inj {f r : Int} {i j : Nat} (f0 : 0 ≤ f) (f1 : f < 26) (r0 : 0 ≤ r) (r1 : r < 6) (hi : i < 4) (hj : j < 4) (h : ltr f (2 * r + 1) i = ltr f (2 * r + 1) j) : i = j := by
  unfold ltr at h
  obtain rfl | rfl | rfl | rfl | rfl | rfl : r = 0 ∨ r = 1 ∨ r = 2 ∨ r = 3 ∨ r = 4 ∨ r = 5 := by omega
  all_goals omega
theorem ltr_nodup {f r : Int} {m : Nat} (f0 : 0 ≤ f) (f1 : f < 26) (r0 : 0 ≤ r) (r1 : r < 6) (hm : m ≤ 4) : ((List.range m).map (ltr f (2 * r + 1))).Nodup := by
  rw [List.nodup_iff_pairwise_ne, List.pairwise_map]
  refine List.Pairwise.imp_of_mem ?_ (List.nodup_iff_pairwise_ne.mp List.nodup_range)
  intro a b ha hb ne z
  exact ne (ltr_inj f0 f1 r0 r1 (by have := List.mem_range.mp ha; omega) (by have := List.mem_range.mp hb; omega) z)
theorem ltr_abc (f s : Int) (k : Nat) : ltr f s k ∈ abc.cps.toList := List.mem_of_getElem? (abc_ix _ (by omega))
theorem PairsD.keep {H H' : Hp} {xs : List V} {es : List (Nat × Int)} (h : PairsD H xs es) (e : KeepT H H') : PairsD H' xs es := h.mono fun _ _ _ q => q.keep e
theorem PairsD.push {H : Hp} {xs : List V} {es : List (Nat × Int)} {t : Addr} {c : Nat} {n : Int} (h : PairsD H xs es) (q : PairAt H t c n) : PairsD H (xs ++ [.ref t]) (es ++ [(c, n)]) := by
  refine ⟨by simp [h.1], fun i e he => ?_⟩
  have hl := h.1
  by_cases lt : i < es.length
  · rw [List.getElem?_append_left lt] at he
    rw [List.getElem?_append_left (by omega)]
    exact h.2 i e he
  · rw [List.getElem?_append_right (by omega)] at he
    obtain ⟨i0, ei⟩ := List.getElem?_eq_some_iff.mp he
    have i0' : i - es.length = 0 := by simp at i0; omega
    rw [List.getElem?_append_right (by omega), show i - xs.length = 0 by omega]
    rw [i0'] at he
    cases he
    exact ⟨t, rfl, q⟩
theorem PairsD.set {H : Hp} {xs : List V} {es : List (Nat × Int)} {t : Addr} {c : Nat} {n : Int} (h : PairsD H xs es) (j : Nat) (q : PairAt H t c n) : PairsD H (xs.set j (.ref t)) (es.set j (c, n)) := by
  refine ⟨by simp [h.1], fun i e he => ?_⟩
  have hl := h.1
  by_cases ij : j = i
  · subst ij
    rw [List.getElem?_set] at he
    rw [List.getElem?_set]
    split at he
    · rename_i lt
      split at he
      · rename_i lt'
        cases he
        rw [if_pos rfl, if_pos (by omega)]
        exact ⟨t, rfl, q⟩
      · cases he
    · exact absurd rfl ‹_›
  · rw [List.getElem?_set_ne ij] at he
    rw [List.getElem?_set_ne ij]
    exact h.2 i e he
def spPairs : Sp := fun vs H Q _ => ∃ (c p : Addr) (n : Nat), vs = [.ref p] ∧ n ≤ 800000 ∧ PenAt c n H p ∧ ∀ (L : Addr) H' xs es, L ≠ p → H' L = some (.lst xs) → PairsD H' xs es → 1 ≤ es.length → es.length ≤ 4 → (es.map (·.1)).Nodup → (∃ e ∈ es, 0 < e.2) → Ink c p (n + 20) H H' → Q (.ref L) H'
abbrev nPairs : List Str := ["_law_pen_here", "_law_letters", "_law_first", "_law_stride", "_law_many", "_law_found", "_law_k", "_law_heavy"]
theorem scPairs : FnScope nPairs ["_law_pen_here"] (defScope sPairs) := ⟨rfl, rfl, rfl, by decide +kernel, rfl, by decide +kernel, by decide +kernel⟩
theorem ok_pairs {f f1 f2 : Addr} {fd fd1 fd2 : FuncData} (F : L2.Fun K "_law_pairs" "_law_pairs" sPairs f fd) (T : Txt mg)
    (G1 : FnOk P w K mg base CX0 1 f1 fd1 ["_law_pen_here", "_law_many"] spDraw) (m1 : mg "_law_draw" = some (.ref f1)) (k1 : PySem.W.keepIn K (.ref f1) = true) (b1 : L2.Binds K fd1 ["_law_pen_here", "_law_many"] [])
    (G2 : FnOk P w K mg base CX0 2 f2 fd2 ["_law_pen_here", "_law_things"] spPick) (m2 : mg "_law_pick" = some (.ref f2)) (k2 : PySem.W.keepIn K (.ref f2) = true) (b2 : L2.Binds K fd2 ["_law_pen_here", "_law_things"] []) :
    FnOk P w K mg base CX0 3 f fd ["_law_pen_here"] spPairs := by
  refine F.ok scPairs (fun vs H Q E h => ?_) (fun cdv A outer s H vs Q E hr h => ?_)
  · obtain ⟨c, p, n, rfl, _⟩ := h
    rfl
  · obtain ⟨c, p, n, rfl, nb, pen, k⟩ := h
    have nd := scPairs.nd
    have hr1 := hr.mono (show 1 ≤ 2 by decide)
    refine ⟨_, pss_cons (ps_set (i := 1) nd rfl (.inl rfl) pe_str)
      (pss_cons (ps_par (i := 2) (j := 3) (by rfl) nd rfl rfl (by decide) rfl rfl (pa_cons (pe_call G1 hr1 (by rfl) m1 k1 b1 .nil pass0 (pa_cons (pv 0) (pa_cons pe_int pa_nil))) (pa_cons (pe_op op_add (pe_op op_mul pe_int (pe_call G1 hr1 (by rfl) m1 k1 b1 .nil pass0 (pa_cons (pv 0) (pa_cons pe_int pa_nil)))) pe_int) pa_nil)) (by rfl))
      (pss_cons (ps_set (i := 4) nd rfl (.inl rfl) (pe_call G2 hr (by rfl) m2 k2 b2 .nil pass0 (pa_cons (pv 0) (pa_cons (pe_lst (pa_cons pe_int (pa_cons pe_int (pa_cons pe_int (pa_cons pe_int (pa_cons pe_int (pa_cons pe_int pa_nil))))))) pa_nil))))
      (pss_cons (ps_set (i := 5) nd rfl (.inl rfl) (pe_lst pa_nil))
      (pss_cons (ps_for PassesOwn.never rfl (pi_range1 (by rfl) T.range (pa_cons (pv 4) pa_nil)) (pg_name (i := 6) nd rfl (Or.inl rfl))
        (pss_one (ps_expr (pe_bm PySem.F.plainAttrs_list PySem.F.slot_list_append PySem.F.type_list_append mt_append (pv 5) (pa_cons (pe_tup (pa_cons (bIxS (pv 1) (pe_op op_mod (bInt (by rfl) T.int (pe_op op_add (pv 2) (pe_op op_mul (pv 3) (pv 6)))) pe_int))
          (pa_cons (pe_call G2 hr (by rfl) m2 k2 b2 .nil pass0 (pa_cons (pv 0) (pa_cons (pe_lst (pa_cons pe_int (pa_cons pe_int (pa_cons pe_int (pa_cons pe_int (pa_cons pe_int (pa_cons pe_int pa_nil))))))) pa_nil))) pa_nil))) pa_nil)))))
      (pss_cons (ps_set (i := 7) nd rfl (.inl rfl) (pe_call G1 hr1 (by rfl) m1 k1 b1 .nil pass0 (pa_cons (pv 0) (pa_cons (pv 4) pa_nil))))
      (pss_cons (ps_if (pt_cmpR op_eq (bIxT (bIx (pv 5) (pv 7)) pe_int) pe_int (nomark _)) (pss_one (ps_asg (pe_tup (pa_cons (bIxT (bIx (pv 5) (pv 7)) pe_int) (pa_cons pe_int pa_nil))) (pg_sub (pv 5) (pv 7) set_list))) pss_nil)
      (pss_one (ps_ret (pv 5))))))))), ?_⟩
    refine ⟨_, rfl, c, p, 26, n, rfl, by decide, by decide, by omega, pen, fun ff H1 f0 f1 pen1 x1 => ?_⟩
    refine ⟨_, rfl, c, p, 6, n + 1, rfl, by decide, by decide, by omega, pen1, fun r H2 r0 r1 pen2 x2 => ⟨_, _, rfl, rfl, .inl ⟨by decide, by decide⟩, _, _, rfl, rfl, _, _, rfl, ?_⟩⟩
    refine ⟨_, rfl, by show 6 ≤ sizeLine; decide, fun l hl => ⟨c, p, n + 2, by omega, pen2.new hl, .inl ⟨l, _, rfl, pen2.ne1 hl, upd_same, by decide, by decide, fun v H3 hv pen3 x3 => ?_⟩⟩⟩
    obtain ⟨m, rfl, mlo, mhi⟩ : ∃ m : Nat, v = .int (m : Int) ∧ 1 ≤ m ∧ m ≤ 4 := by
      simp only [List.mem_cons, List.not_mem_nil, or_false] at hv
      rcases hv with rfl | rfl | rfl | rfl | rfl | rfl
      · exact ⟨2, rfl, by decide, by decide⟩
      · exact ⟨2, rfl, by decide, by decide⟩
      · exact ⟨2, rfl, by decide, by decide⟩
      · exact ⟨3, rfl, by decide, by decide⟩
      · exact ⟨4, rfl, by decide, by decide⟩
      · exact ⟨1, rfl, by decide, by decide⟩
    have i3 : Ink c p (n + 3) H H3 := ⟨Ext1.trans x1 (Ext1.trans x2 (Ext1.trans (Ext1.new hl) x3)), pen3⟩
    clear pen1 x1 pen2 x2 hl x3 pen3 hv
    refine ⟨Nat.zero_le _, fun L hL => ?_⟩
    have Lp := i3.2.ne1 hL
    have LH : H L = none := Ink.freeOf i3 hL
    refine ⟨_, rfl, m, rfl, by omega, by omega, ?_⟩
    refine for_it walk_range (fun i σ' G => ∃ y6 y7, σ' = [some (.ref p), some (.str abc), some (.int ff), some (.int (2 * r + 1)), some (.int (m : Int)), some (.ref L), y6, y7] ∧ Ink c p (n + 3 + i) H G ∧ ∃ xs es, G L = some (.lst xs) ∧ PairsD G xs es ∧ es.length = i ∧ es.map (·.1) = (List.range i).map (ltr ff (2 * r + 1)))
      ⟨_, _, rfl, i3.new hL, [], [], upd_same, ⟨rfl, fun i e h => by cases h⟩, rfl, rfl⟩ (fun _ _ _ _ _ => trivial) ?_ ?_
    · rintro i x σ' G G' hi ⟨y6, y7, rfl, ink, xs, es, gL, pd, el, em⟩ ⟨eG, ex⟩
      subst eG
      subst ex
      have hi4 : i < m := hi
      have xl := pd.1
      refine ⟨_, rfl, .inl ⟨rfl, _, SqL.of gL⟩, ?_⟩
      have mlt : ((ff + (2 * r + 1) * (i : Int)) % 26).toNat < 26 := by omega
      have ei : V.int (0 + (i : Int)) = V.int (i : Int) := by rw [Int.zero_add]
      refine ⟨_, rfl, _, rfl, _, rfl, _, rfl, _, _, rfl, ei, .inl ⟨by omega, by omega⟩, _, _, rfl, rfl, .inl ⟨_, rfl, _, _, rfl, rfl, by show (0 : Int) < 26; decide, ?_⟩⟩
      refine ⟨abc, _, ltr ff (2 * r + 1) i, rfl, rfl, len_small (by decide), atI_int (by omega) (abc_ix _ mlt), ?_⟩
      refine ⟨_, rfl, by show 6 ≤ sizeLine; decide, fun l2 hl2 => ⟨c, p, n + 3 + i, by omega, ink.2.new hl2, .inl ⟨l2, _, rfl, ink.2.ne1 hl2, upd_same, by decide, by decide, fun v G1 hv pen4 x4 => ?_⟩⟩⟩
      obtain ⟨k2, rfl, klo, khi⟩ : ∃ k2 : Int, v = .int k2 ∧ 0 ≤ k2 ∧ k2 ≤ 9 := by
        simp only [List.mem_cons, List.not_mem_nil, or_false] at hv
        rcases hv with rfl | rfl | rfl | rfl | rfl | rfl <;> exact ⟨_, rfl, by decide, by decide⟩
      refine ⟨by show 2 ≤ sizeLine; decide, fun t ht => ?_⟩
      have i4 : Ink c p (n + 3 + i + 1) G' G1 := ⟨Ext1.trans (Ext1.new hl2) x4, pen4⟩
      have i5 := i4.new (o := .tup [.str ⟨#[ltr ff (2 * r + 1) i]⟩, .int k2]) ht
      have gL5 := i5.1 _ _ Lp gL
      have pd5 := pd.keep (Ink.keepT ink.2 i5)
      have pt : PairAt (upd G1 t (.tup [.str ⟨#[ltr ff (2 * r + 1) i]⟩, .int k2])) t (ltr ff (2 * r + 1) i) k2 := ⟨upd_same, ltr_abc _ _ _, klo, khi⟩
      have ink5 : Ink c p (n + 3 + (i + 1)) H _ := Ink.trans ink i5
      generalize upd G1 t (.tup [.str ⟨#[ltr ff (2 * r + 1) i]⟩, .int k2]) = G5 at gL5 pd5 pt ink5 ⊢
      refine ⟨L, _, _, rfl, rfl, gL5, by rw [sizeLine_eq]; omega, ?_⟩
      refine ⟨_, _, rfl, Ink.putNew ink5 pen LH, xs ++ [.ref t], es ++ [(ltr ff (2 * r + 1) i, k2)], upd_same, (pd5.push pt).keep (KeepT.put gL5), by simp [el], ?_⟩
      rw [List.map_append, em, List.range_succ, List.map_append]
      rfl
    · rintro σ' G ⟨y6, y7, rfl, ink, xs, es, gL, pd, el, em⟩
      have xl := pd.1
      refine ⟨_, rfl, _, rfl, c, p, m, n + 3 + m, rfl, by omega, by omega, by omega, ink.2, fun h G1 h0 h1 pen4 x4 => ?_⟩
      have i4 : Ink c p (n + 3 + m + 1) G G1 := ⟨x4, pen4⟩
      have gL1 := x4 _ _ Lp gL
      have pd1 := pd.keep (Ink.keepT ink.2 i4)
      have ink1 : Ink c p (n + 3 + m + 1) H G1 := Ink.trans ink i4
      have hj : h.toNat < es.length := by omega
      obtain ⟨t, et, pt⟩ := pd1.2 h.toNat _ (List.getElem?_eq_getElem hj)
      have nd1 : (es.map (·.1)).Nodup := by rw [em]; exact ltr_nodup f0 f1 r0 r1 mhi
      refine ⟨_, rfl, _, rfl, L, xs, h, .ref t, rfl, rfl, SqL.of gL1, atI_int h0 et, t, _, 1, _, rfl, rfl, SqT.of pt.1, rfl, rfl, _, rfl, ?_⟩
      by_cases z : es[h.toNat].2 = 0
      · rw [decide_eq_true (show V.int es[h.toNat].2 = V.int 0 by rw [z])]
        refine iteT ?_
        refine ⟨_, rfl, _, rfl, L, xs, h, .ref t, rfl, rfl, SqL.of gL1, atI_int h0 et, t, _, 0, _, rfl, rfl, SqT.of pt.1, rfl, by show 2 ≤ sizeLine; decide, fun t2 ht2 => ?_⟩
        have i5 := ink1.new (o := .tup [.str ⟨#[es[h.toNat].1]⟩, .int 1]) ht2
        have gL5 := (Ext1.new (p := p) (o := .tup [.str ⟨#[es[h.toNat].1]⟩, .int 1]) ht2) _ _ Lp gL1
        have pd5 := pd1.keep (Same.keepT (Same.new (o := .tup [.str ⟨#[es[h.toNat].1]⟩, .int 1]) ht2))
        have pt5 : PairAt (upd G1 t2 (.tup [.str ⟨#[es[h.toNat].1]⟩, .int 1])) t2 es[h.toNat].1 1 := ⟨upd_same, pt.2.1, by decide, by decide⟩
        generalize upd G1 t2 (.tup [.str ⟨#[es[h.toNat].1]⟩, .int 1]) = G5 at i5 gL5 pd5 pt5 ⊢
        refine ⟨_, rfl, _, rfl, L, xs, h, h.toNat, rfl, rfl, gL5, ?_, ?_⟩
        · unfold ixN
          rw [if_pos h0, if_pos (by omega)]
        · refine ⟨_, rfl, k L _ (xs.set h.toNat (.ref t2)) (es.set h.toNat (es[h.toNat].1, 1)) Lp upd_same ((pd5.set _ pt5).keep (KeepT.put gL5)) (by simp; omega) (by simp; omega) ?_ ⟨(es[h.toNat].1, 1), List.mem_iff_getElem?.mpr ⟨h.toNat, by rw [List.getElem?_set]; simp; omega⟩, by show (0 : Int) < 1; decide⟩ ((Ink.putNew i5 pen LH).mono (by omega))⟩
          have : ((es.set h.toNat (es[h.toNat].1, 1)).map (·.1)) = es.map (·.1) := by
            rw [List.map_set]
            exact List.ext_getElem (by simp) fun j h1 h2 => by
              rw [List.getElem_set]
              split
              · rename_i q; subst q; simp
              · rfl
          rw [this]; exact nd1
      · rw [decide_eq_false (fun q => z (V.int.inj q))]
        exact iteF ⟨_, rfl, k L _ xs es Lp gL1 pd1 (by omega) (by omega) nd1 ⟨es[h.toNat], List.getElem_mem hj, by have := pt.2.2.1; omega⟩ (ink1.mono (by omega))⟩
end
end Kx

set_option Elab.async false
set_option maxRecDepth 100000
set_option autoImplicit false
/-! the texts of rules, as lists of signs -/
namespace Kx
open PySem L2 PySem.Spec PyProof.Rows Rg SX
def isL (c : Nat) : Bool := decide (c ∈ abc.cps.toList)
/-- a stretch of letters -/
def lets (lo : Nat) (z : Str) : Bool := decide (lo ≤ z.length) && decide (z.length ≤ 4) && z.cps.toList.all isL
theorem takeWhile_lt (p : Nat → Bool) : ∀ l : List Nat, l.all p = false → (l.takeWhile p).length < l.length ∧ ∃ c r, l.drop (l.takeWhile p).length = c :: r ∧ p c = false
  | [], h => by simp at h
  | c :: r, h => by
    by_cases q : p c = true
    · have h2 : r.all p = false := by simpa [q] using h
      obtain ⟨a, b⟩ := takeWhile_lt p r h2
      rw [List.takeWhile_cons, q, if_pos rfl]
      exact ⟨by simpa using a, by simpa using b⟩
    · have q2 : p c = false := by simpa using q
      rw [List.takeWhile_cons, q2, if_neg (by simp)]
      exact ⟨by simp, c, r, rfl, q2⟩
theorem takeWhile_all (p : Nat → Bool) : ∀ l : List Nat, l.all p = true → l.takeWhile p = l
  | [], _ => rfl
  | c :: r, h => by
    have q : p c = true := by simp at h; exact h.1
    have h2 : r.all p = true := by simp at h ⊢; exact h.2
    rw [List.takeWhile_cons, q, if_pos rfl, takeWhile_all p r h2]
theorem isL_eq : abc.cps.contains = isL := by
  funext c
  unfold isL
  rw [← Array.contains_toList]
  simp [List.contains_iff_mem]
theorem strip_all (z : Str) (h : z.cps.toList.all isL = true) : Txt.stripChars z abc = Str.empty := by
  obtain ⟨⟨L⟩⟩ := z
  show Txt.stripBy abc.cps.contains true true ⟨⟨L⟩⟩ = Str.empty
  rw [isL_eq]
  have hl : L.takeWhile isL = L := takeWhile_all _ _ h
  unfold Txt.stripBy stripSame stripped stripLo stripHi
  simp only [if_true, hl]
  by_cases q : L = []
  · subst q; rfl
  · have e : (L.length == 0) = false := by
      cases L with
      | nil => exact absurd rfl q
      | cons a r => rfl
    rw [e, Bool.false_and, if_neg (by simp)]
    show (⟨(⟨L⟩ : Array Nat).extract L.length _⟩ : Str) = Str.empty
    have : (⟨L⟩ : Array Nat).extract L.length ((⟨⟨L⟩⟩ : Str).length - (List.takeWhile isL (List.drop L.length L).reverse).length) = #[] := by
      simp [Str.length]
    rw [this]; rfl
theorem strip_some (z : Str) (h : z.cps.toList.all isL = false) : Txt.stripChars z abc ≠ Str.empty := by
  obtain ⟨⟨L⟩⟩ := z
  show Txt.stripBy abc.cps.contains true true ⟨⟨L⟩⟩ ≠ Str.empty
  rw [isL_eq]
  obtain ⟨h1, c, r, h2, h3⟩ := takeWhile_lt isL L h
  have h4 : ((L.drop (L.takeWhile isL).length).reverse.takeWhile isL).length < (L.drop (L.takeWhile isL).length).length := by
    have := (takeWhile_lt isL (L.drop (L.takeWhile isL).length).reverse (by rw [h2]; simp [h3])).1
    rw [List.length_reverse] at this
    exact this
  rw [List.length_drop] at h4
  unfold Txt.stripBy stripSame stripped stripLo stripHi
  simp only [if_true]
  have len : (⟨⟨L⟩⟩ : Str).length = L.length := rfl
  intro z
  split at z
  · have := congrArg Str.length z
    rw [len] at this
    have e0 : Str.empty.length = 0 := rfl
    omega
  · have := congrArg Str.length z
    have e0 : Str.empty.length = 0 := rfl
    rw [e0] at this
    have e1 : ∀ i j : Nat, (Builtin.Str.strSub ⟨⟨L⟩⟩ i j).length = min j L.length - i := fun i j => by
      show ((⟨L⟩ : Array Nat).extract i j).size = _
      rw [Array.size_extract]
      rfl
    rw [e1, len] at this
    have h5 : (List.drop (List.takeWhile isL L).length L) = (L.drop (L.takeWhile isL).length) := rfl
    omega
theorem strip_iff (z : Str) : decide (Txt.stripChars z abc = Str.empty) = z.cps.toList.all isL := by
  cases h : z.cps.toList.all isL with
  | true => exact decide_eq_true (strip_all z h)
  | false => exact decide_eq_false (strip_some z h)
/-! ### the two ways to cut at the arrow -/
theorem pre62 (c : Nat) (r : List Nat) : TL.pre [62] (c :: r) = (c == 62) := by
  unfold TL.pre
  by_cases q : c = 62
  · subst q; rfl
  · have : (c == 62) = false := by simpa using q
    rw [this]
    simp [q]
theorem spl_none : ∀ (I acc : List Nat), TL.par [62] acc I = none → TL.spl [62] 0 acc I = [acc ++ I] ∧ I.all (fun c => c != 62) = true
  | [], acc, _ => by rw [TL.spl_nil, List.append_nil]; exact ⟨rfl, rfl⟩
  | c :: r, acc, h => by
    unfold TL.par at h
    rw [pre62] at h
    by_cases q : c = 62
    · subst q; simp at h
    · have q2 : (c == 62) = false := by simpa using q
      rw [q2, if_neg (by simp)] at h
      obtain ⟨a, b⟩ := spl_none r (acc ++ [c]) h
      unfold TL.spl
      rw [pre62, q2, if_neg (by simp), a]
      exact ⟨by simp, by simpa [q] using b⟩
theorem spl_some : ∀ (I acc p q : List Nat), TL.par [62] acc I = some (p, q) → TL.spl [62] 0 acc I = p :: TL.spl [62] 0 [] q
  | [], acc, _, _, h => by cases h
  | c :: r, acc, p, q, h => by
    unfold TL.par at h
    rw [pre62] at h
    by_cases e : c = 62
    · subst e
      simp at h
      obtain ⟨rfl, rfl⟩ := h
      rw [TL.spl_hit (by rw [pre62]; rfl)]
      rfl
    · have q2 : (c == 62) = false := by simpa using e
      rw [q2, if_neg (by simp)] at h
      have a := spl_some r (acc ++ [c]) p q h
      rw [show TL.spl [62] 0 acc (c :: r) = TL.spl [62] 0 (acc ++ [c]) r from by rw [TL.spl, pre62, q2, if_neg (by simp)]]
      exact a
theorem spl_pos (I acc : List Nat) : ∃ a r, TL.spl [62] 0 acc I = a :: r := by
  cases h : TL.par [62] acc I with
  | none => exact ⟨_, _, (spl_none I acc h).1⟩
  | some pq => exact ⟨_, _, spl_some I acc pq.1 pq.2 h⟩
theorem isL62 : isL 62 = false := by decide +kernel
/-- the stretches of a text between its ends, if it is a rule's -/
def rdL (I : List Nat) : Option (List Nat × List Nat) := match TL.par [62] [] I with
  | none => none
  | some (p, q) => if lets 1 (S p) && lets 0 (S q) then some (p, q) else none
theorem rdL_spl {I : List Nat} : rdL I = match TL.spl [62] 0 [] I with
    | [a, b] => if lets 1 (S a) && lets 0 (S b) then some (a, b) else none
    | _ => none := by
  unfold rdL
  cases h : TL.par [62] [] I with
  | none =>
    rw [(spl_none I [] h).1]
  | some pq =>
    obtain ⟨p, q⟩ := pq
    rw [spl_some I [] p q h]
    cases h2 : TL.par [62] [] q with
    | none =>
      rw [(spl_none q [] h2).1]
      simp
    | some pq2 =>
      obtain ⟨p2, q2⟩ := pq2
      obtain ⟨a, r, e⟩ := spl_pos q2 []
      rw [spl_some q [] p2 q2 h2, e]
      have no : lets 0 (S q) = false := by
        cases h3 : lets 0 (S q) with
        | false => rfl
        | true =>
          unfold lets at h3
          rw [Bool.and_eq_true] at h3
          have h4 : q.all isL = true := h3.2
          have h5 : ∀ (q acc : List Nat), q.all isL = true → TL.par [62] acc q = none := by
            intro q
            induction q with
            | nil => intro acc _; rfl
            | cons c r ih =>
              intro acc hq
              simp only [List.all_cons, Bool.and_eq_true] at hq
              have e : (c == 62) = false := by
                by_cases e : c = 62
                · subst e; rw [isL62] at hq; cases hq.1
                · simpa using e
              unfold TL.par
              rw [pre62, e, if_neg (by simp)]
              exact ih _ hq.2
          rw [h5 q [] h4] at h2
          cases h2
      simp [no]
end Kx

set_option Elab.async false
set_option maxRecDepth 100000
set_option autoImplicit false
/-! the marks of the ends -/
namespace Kx
open PySem L2 PySem.Spec PyProof.Rows Rg SX
def hd (z : Str) : Bool := decide (z.cps.toList.head? = some 91)
def la (z : Str) : Bool := decide (z.cps.toList.getLast? = some 93)
def bit (b : Bool) : Nat := if b then 1 else 0
/-- what stands between the marks -/
def inn (z : Str) : List Nat := (z.cps.toList.drop (bit (hd z))).take (z.cps.toList.length - bit (la z) - bit (hd z))
theorem sub0 (L : List Nat) : Builtin.Str.subAt ⟨⟨L⟩⟩ "[" 0 = decide (L.head? = some 91) := by
  cases L with
  | nil => rfl
  | cons c r =>
    show ((⟨c :: r⟩ : Array Nat).extract 0 1 == #[91]) = _
    have : (⟨c :: r⟩ : Array Nat).extract 0 1 = #[c] := by
      apply Array.ext'
      simp
    rw [this]
    by_cases q : c = 91
    · subst q; rfl
    · rw [decide_eq_false (by simpa using q)]
      simp [q]
theorem hd_pos {L : List Nat} (h : L.head? = some 91) : 1 ≤ L.length := by
  cases L with
  | nil => cases h
  | cons c r => simp
theorem la_pos {L : List Nat} (h : L.getLast? = some 93) : 1 ≤ L.length := by
  cases L with
  | nil => cases h
  | cons c r => simp
/-- both marks: two signs at least -/
theorem both {L : List Nat} (h : L.head? = some 91) (g : L.getLast? = some 93) : 2 ≤ L.length := by
  match L, h, g with
  | [c], h, g => simp at h g; omega
  | c :: d :: r, _, _ => simp
theorem starts_eq (z : Str) : Txt.startswith z "[" = hd z := by
  obtain ⟨⟨L⟩⟩ := z
  show (decide (0 + 1 ≤ L.length) && Builtin.Str.subAt ⟨⟨L⟩⟩ "[" 0) = decide (L.head? = some 91)
  rw [sub0]
  by_cases q : L.head? = some 91
  · rw [decide_eq_true q, decide_eq_true (by have := hd_pos q; omega)]; rfl
  · rw [decide_eq_false q, Bool.and_false]
theorem drop_last : ∀ (L : List Nat) (h : L ≠ []), L.drop (L.length - 1) = [L.getLast h]
  | [c], _ => rfl
  | c :: d :: r, h => by
    have := drop_last (d :: r) (by simp)
    simpa using this
theorem subE (L : List Nat) (h : 1 ≤ L.length) : Builtin.Str.subAt ⟨⟨L⟩⟩ "]" (L.length - 1) = decide (L.getLast? = some 93) := by
  show ((⟨L⟩ : Array Nat).extract (L.length - 1) (L.length - 1 + 1) == #[93]) = _
  have e : (⟨L⟩ : Array Nat).extract (L.length - 1) (L.length - 1 + 1) = ⟨[L.getLast (by intro q; subst q; simp at h)]⟩ := by
    apply Array.ext'
    simp only [Array.toList_extract, List.extract_eq_take_drop]
    rw [drop_last L (by intro q; subst q; simp at h)]
    rw [show L.length - 1 + 1 - (L.length - 1) = 1 from by omega]
    rfl
  rw [e, List.getLast?_eq_some_getLast (by intro q; subst q; simp at h)]
  by_cases q : L.getLast (by intro q; subst q; simp at h) = 93
  · rw [q]; rfl
  · rw [decide_eq_false (by simpa using q)]
    simp [q]
theorem ends_eq (z : Str) : Txt.endswith z "]" = la z := by
  obtain ⟨⟨L⟩⟩ := z
  show (decide (0 + 1 ≤ L.length) && Builtin.Str.subAt ⟨⟨L⟩⟩ "]" (L.length - 1)) = decide (L.getLast? = some 93)
  by_cases q : 1 ≤ L.length
  · rw [subE L q, decide_eq_true (by omega)]; rfl
  · have e : L = [] := by
      cases L with
      | nil => rfl
      | cons a r => simp at q
    subst e; rfl
theorem rmp (L : List Nat) : Txt.removeprefix ⟨⟨L⟩⟩ "[" = ⟨⟨L.drop (bit (decide (L.head? = some 91)))⟩⟩ := by
  unfold Txt.removeprefix
  rw [sub0]
  by_cases q : L.head? = some 91
  · rw [decide_eq_true q, if_pos rfl]
    have l := hd_pos q
    show (if (L.length - 1 == L.length) = true then _ else _) = _
    rw [if_neg (by simp; omega)]
    show (⟨(⟨L⟩ : Array Nat).extract 1 L.length⟩ : Str) = ⟨⟨L.drop 1⟩⟩
    congr 1
    apply Array.ext'
    simp
    exact List.take_of_length_le (by simp)
  · rw [decide_eq_false q, if_neg (by simp)]
    rfl
theorem rms (L : List Nat) : Txt.removesuffix ⟨⟨L⟩⟩ "]" = ⟨⟨L.take (L.length - bit (decide (L.getLast? = some 93)))⟩⟩ := by
  unfold Txt.removesuffix
  show Txt.affix ⟨⟨L⟩⟩ (if (decide (1 ≤ L.length) && Builtin.Str.subAt ⟨⟨L⟩⟩ "]" (L.length - 1)) = true then some (0, L.length - 1) else none) = _
  by_cases l : 1 ≤ L.length
  · rw [subE L l, decide_eq_true l, Bool.true_and]
    by_cases q : L.getLast? = some 93
    · rw [decide_eq_true q, if_pos rfl]
      show (if (L.length - 1 - 0 == L.length) = true then _ else _) = _
      rw [if_neg (by simp; omega)]
      show (⟨(⟨L⟩ : Array Nat).extract 0 (L.length - 1)⟩ : Str) = ⟨⟨L.take (L.length - 1)⟩⟩
      congr 1
      apply Array.ext'
      simp [List.dropLast_eq_take]
    · rw [decide_eq_false q, if_neg (by simp)]
      show (⟨⟨L⟩⟩ : Str) = ⟨⟨L.take (L.length - 0)⟩⟩
      simp
  · have e : L = [] := by
      cases L with
      | nil => rfl
      | cons a r => simp at l
    subst e; rfl
theorem inner_prog (z : Str) : Txt.removesuffix (Txt.removeprefix z "[") "]" = S (inn z) := by
  obtain ⟨⟨L⟩⟩ := z
  rw [rmp, rms]
  show (⟨⟨(L.drop (bit (decide (L.head? = some 91)))).take ((L.drop (bit (decide (L.head? = some 91)))).length - bit (decide ((L.drop (bit (decide (L.head? = some 91)))).getLast? = some 93)))⟩⟩ : Str) = ⟨⟨(L.drop (bit (decide (L.head? = some 91)))).take (L.length - bit (decide (L.getLast? = some 93)) - bit (decide (L.head? = some 91)))⟩⟩
  congr 3
  rw [List.length_drop]
  by_cases q : L.head? = some 91
  · rw [decide_eq_true q]
    show L.length - 1 - bit (decide ((L.drop 1).getLast? = some 93)) = L.length - bit (decide (L.getLast? = some 93)) - 1
    match L, q with
    | [c], q =>
      have e : c = 91 := by simpa using q
      subst e; rfl
    | c :: d :: r, q =>
      have e : (List.drop 1 (c :: d :: r)).getLast? = (c :: d :: r).getLast? := by simp
      rw [e]
      omega
  · rw [decide_eq_false q]
    show L.length - 0 - bit (decide ((L.drop 0).getLast? = some 93)) = L.length - bit (decide (L.getLast? = some 93)) - 0
    simp
theorem one_inj {c d : Nat} (z : V.str ⟨#[c]⟩ = V.str ⟨#[d]⟩) : c = d := by
  have h := congrArg (fun s : Str => s.cps.toList) (V.str.inj z)
  exact (List.cons.inj h).1
theorem cut_hd (z : Str) : decide (V.str (cutS z none (some 1)) = V.str "[") = hd z := by
  obtain ⟨⟨L⟩⟩ := z
  unfold cutS hd
  rw [show HT.sIx (⟨⟨L⟩⟩ : Str).length 0 none = 0 from rfl, show HT.sIx (⟨⟨L⟩⟩ : Str).length (⟨⟨L⟩⟩ : Str).length (some 1) = min 1 L.length from HT.sIx_nat _ _ 1]
  show decide (V.str ⟨((L.drop 0).take (min 1 L.length - 0)).toArray⟩ = V.str "[") = decide (L.head? = some 91)
  cases L with
  | nil => rfl
  | cons c r =>
    rw [show min 1 (c :: r).length - 0 = 1 from by simp]
    show decide (V.str ⟨#[c]⟩ = V.str "[") = _
    by_cases q : c = 91
    · subst q; rfl
    · rw [show decide ((c :: r).head? = some 91) = false from decide_eq_false (by simpa using q)]
      exact decide_eq_false fun z => q (one_inj z)
theorem cut_la (z : Str) : decide (V.str (cutS z (some (-1)) none) = V.str "]") = la z := by
  obtain ⟨⟨L⟩⟩ := z
  unfold cutS la
  rw [show HT.sIx (⟨⟨L⟩⟩ : Str).length (⟨⟨L⟩⟩ : Str).length none = L.length from rfl, show HT.sIx (⟨⟨L⟩⟩ : Str).length 0 (some (-1)) = L.length - 1 from by
    unfold HT.sIx
    dsimp only
    rw [if_pos (by decide)]
    show ((-1 : Int) + (L.length : Int)).toNat = _
    omega]
  show decide (V.str ⟨((L.drop (L.length - 1)).take (L.length - (L.length - 1))).toArray⟩ = V.str "]") = decide (L.getLast? = some 93)
  by_cases l : L = []
  · subst l; rfl
  · rw [drop_last L l, List.getLast?_eq_some_getLast l]
    have l1 : 1 ≤ L.length := by
      cases L with
      | nil => exact absurd rfl l
      | cons a r => simp
    rw [show L.length - (L.length - 1) = 1 from by omega]
    show decide (V.str ⟨#[L.getLast l]⟩ = V.str "]") = _
    by_cases q : L.getLast l = 93
    · rw [q]; rfl
    · rw [show decide (some (L.getLast l) = some 93) = false from decide_eq_false (by simpa using q)]
      exact decide_eq_false fun z => q (one_inj z)
theorem cut_inn (z : Str) : cutS z (some (bit (hd z) : Nat)) (some ((z.length : Int) - (bit (la z) : Nat))) = S (inn z) := by
  obtain ⟨⟨L⟩⟩ := z
  unfold cutS inn
  have e : ((⟨⟨L⟩⟩ : Str).length : Int) - (bit (la ⟨⟨L⟩⟩) : Nat) = ((L.length - bit (la ⟨⟨L⟩⟩) : Nat) : Int) := by
    show (L.length : Int) - _ = _
    have : bit (la ⟨⟨L⟩⟩) ≤ L.length := by
      unfold la bit
      show (if decide (L.getLast? = some 93) = true then 1 else 0) ≤ L.length
      by_cases q : L.getLast? = some 93
      · rw [if_pos (by simpa using q)]; exact la_pos q
      · rw [if_neg (by simpa using q)]; exact Nat.zero_le _
    omega
  rw [e, HT.sIx_nat, HT.sIx_nat]
  show (⟨((L.drop (min (bit (hd ⟨⟨L⟩⟩)) L.length)).take (min (L.length - bit (la ⟨⟨L⟩⟩)) L.length - min (bit (hd ⟨⟨L⟩⟩)) L.length)).toArray⟩ : Str) = ⟨⟨_⟩⟩
  have h1 : min (bit (hd ⟨⟨L⟩⟩)) L.length = bit (hd ⟨⟨L⟩⟩) := by
    unfold hd bit
    show min (if decide (L.head? = some 91) = true then 1 else 0) L.length = (if decide (L.head? = some 91) = true then 1 else 0)
    by_cases q : L.head? = some 91
    · rw [if_pos (by simpa using q)]; have := hd_pos q; omega
    · rw [if_neg (by simpa using q)]; omega
  rw [h1, show min (L.length - bit (la ⟨⟨L⟩⟩)) L.length = L.length - bit (la ⟨⟨L⟩⟩) from by omega]
end Kx

set_option Elab.async false
set_option maxRecDepth 100000
set_option autoImplicit false
/-! are_letters of any value; Rule.__init__ -/
namespace Kx
open PySem L2 PySem.Spec PyProof.Rows Rg Er Ru
abbrev sAreLetters : Stmt := top 17
abbrev sRInit : Stmt := inClass (top 24) 1
def NoStr (K : PySem.W.Frag) (H : Hp) (x : V) : Prop := ∃ t, TyX K H x t ∧ PySem.W.kitOne K t (.type "str") = some false
/-- x is a text that is a stretch or not, or no text -/
def Tx (K : PySem.W.Frag) (lo : Nat) (H : Hp) (x : V) (b : Bool) : Prop := (∃ wd : Str, x = .str wd ∧ wd.length ≤ 1000 ∧ b = lets lo wd) ∨ (b = false ∧ NoStr K H x)
/-- x is a truth, or is none -/
def Tb (K : PySem.W.Frag) (H : Hp) (x : V) (b : Bool) : Prop := ∃ t, TyX K H x t ∧ PySem.W.kitOne K t (.type "bool") = some b
def spAreLetters (K : PySem.W.Frag) : Sp := fun vs H Q _ => ∃ (x : V) (lo : Nat) (b : Bool), vs = [x, .int lo, .int 4] ∧ Tx K lo H x b ∧ Q (.bl b) H
theorem eqEmpty (x : Str) : decide (V.str x = V.str "") = decide (x = Str.empty) := by
  by_cases q : x = Str.empty
  · rw [q] <;> rfl
  · rw [decide_eq_false q]
    exact decide_eq_false fun z : V.str x = V.str "" => q (V.str.inj z)
section
variable {P : Program} {w : World} {K : PySem.W.Frag} {mg : Str → Option Value} {base : Heap}
theorem scAreLetters : FnScope ["value", "least", "most"] ["value", "least", "most"] (defScope sAreLetters) := ⟨rfl, rfl, rfl, by decide +kernel, rfl, by decide +kernel, by decide +kernel⟩
theorem ok_areLetters {f : Addr} {fd : FuncData} (F : L2.Fun K "are_letters" "are_letters" sAreLetters f fd) (T : Txt mg) (mS : mg "str" = none) {tk : Tok} (mL : mg "LETTERS" = some (.str abc tk)) : FnOk P w K mg base CX0 1 f fd ["value", "least", "most"] (spAreLetters K) := by
  refine F.ok scAreLetters (fun vs H Q E h => ?_) (fun cdv A outer s H vs Q E hr h => ?_)
  · obtain ⟨x, lo, b, rfl, _⟩ := h
    rfl
  · obtain ⟨x, lo, b, rfl, how, k⟩ := h
    refine ⟨_, pss_one (ps_ret (pe_and (bIsi (by rfl) T.isi (pv 0) (pe_bltn (v := .ty "str") (by rfl) mS (by decide +kernel) rfl)) (pe_and (pe_chain op_le op_le (pv 1) (bLen (by rfl) T.len (pv 0)) (pv 2))
      (pe_one (pe_cmpR op_eq (pe_bm PySem.F.plainAttrs_str PySem.F.slot_str_strip PySem.F.type_str_strip mt_stripChars (pv 0) (pa_cons (pe_glob (v := .str abc) (by rfl) mL ⟨_, rfl⟩) pa_nil)) pe_str (nomark _)))))), ?_⟩
    rcases how with ⟨wd, rfl, few, rfl⟩ | ⟨rfl, t, ty, no⟩
    · refine ⟨_, rfl, .str wd, .ty "str", _, _, true, rfl, .ty "str", .base (.str wd), kit_ty (by decide +kernel), true, rfl, iteT ?_⟩
      refine ⟨_, rfl, _, rfl, _, wd.length, rfl, ⟨len_small (by omega), rfl⟩, _, _, rfl, rfl, _, rfl, ?_⟩
      unfold lets at k
      by_cases h1 : lo ≤ wd.length
      · rw [if_pos (decide_eq_true (by omega))]
        refine ⟨_, rfl, _, _, rfl, rfl, _, rfl, ?_⟩
        rw [decide_eq_true h1, Bool.true_and] at k
        by_cases h2 : wd.length ≤ 4
        · rw [if_pos (decide_eq_true (by omega))]
          refine ⟨_, rfl, rfl, wd, abc, rfl, rfl, len_small (by omega), ?_⟩
          refine ⟨rfl, ?_⟩
          rw [decide_eq_true h2, Bool.true_and] at k
          rw [eqEmpty, strip_iff]
          exact k
        · rw [decide_eq_false h2, Bool.false_and] at k
          have e : decide ((wd.length : Int) ≤ 4) = false := decide_eq_false (by omega)
          rw [e]
          exact iteF k
      · rw [decide_eq_false h1, Bool.false_and, Bool.false_and] at k
        have e : decide ((lo : Int) ≤ (wd.length : Int)) = false := decide_eq_false (by omega)
        rw [e]
        exact iteF ⟨_, rfl, iteF k⟩
    · exact ⟨_, rfl, x, .ty "str", _, _, false, rfl, .ty "str", ty, no, false, rfl, iteF k⟩
end
/-! ### rules -/
def rf1 (o : V) : List (Str × V) := putF "old" o []
def rf2 (o n : V) : List (Str × V) := putF "new" n (rf1 o)
def rf3 (o n l : V) : List (Str × V) := putF "left" l (rf2 o n)
def rf (o n l r : V) : List (Str × V) := putF "right" r (rf3 o n l)
theorem rf_lookups (o n l r : V) : (rf o n l r).lookup ("old" : Str) = some o ∧ (rf o n l r).lookup ("new" : Str) = some n ∧ (rf o n l r).lookup ("left" : Str) = some l ∧ (rf o n l r).lookup ("right" : Str) = some r := by
  unfold rf rf3 rf2 rf1
  refine ⟨?_, ?_, ?_, ?_⟩ <;> simp only [lookup_putF] <;> simp (config := { decide := true })
/-- at a the rule -/
def Rl (C : Addr) (H : Hp) (a : Addr) (o n : Str) (l r : Bool) : Prop := ∃ dx, H a = some (.ins C dx (rf (.str o) (.str n) (.bl l) (.bl r)))
theorem Rl.same {C a : Addr} {H H' : Hp} {o n : Str} {l r : Bool} (h : Rl C H a o n l r) (e : Same H H') : Rl C H' a o n l r := h.imp fun _ q => e _ _ q
/-- what is written of the class -/
structure RT (K : PySem.W.Frag) (mg : Str → Option Value) (C : Addr) : Prop where
  cl : Cls K C
  n1 : NoAttr K C "old"
  n2 : NoAttr K C "new"
  n3 : NoAttr K C "left"
  n4 : NoAttr K C "right"
  mgC : mg "Rule" = some (.ref C)
  rd : ∃ mc u, ClX.CRead K C mc ∧ ClX.CVal K C mc "LONGEST" (.int 4) u
/-- the first part that is wrong -/
def bad4 (a b c d : Bool) : Option Str := if a = false then some "old" else if b = false then some "new" else if c = false then some "left" else if d = false then some "right" else none
def spRInit (K : PySem.W.Frag) (C CR : Addr) : Sp := fun vs H Q E => ∃ (p dx : Addr) (x y u v : V) (a b c d : Bool), vs = [.ref p, x, y, u, v] ∧ H p = some (.ins C dx []) ∧ Tx K 1 H x a ∧ Tx K 0 H y b ∧ Tb K H u c ∧ Tb K H v d ∧
  match bad4 a b c d with
  | some part => raised CR "part" (.str part) E H
  | none => ∀ H', Ext1 p H H' → H' p = some (.ins C dx (rf x y u v)) → Q .non H'
section
variable {P : Program} {w : World} {K : PySem.W.Frag} {mg : Str → Option Value} {base : Heap}
abbrev nInit : List Str := ["self", "old", "new", "left", "right"]
theorem scRInit : FnScope nInit nInit (defScope sRInit) := ⟨rfl, rfl, rfl, by decide +kernel, rfl, by decide +kernel, by decide +kernel⟩
theorem ok_rInit {C CR f f1 : Addr} {fd fd1 : FuncData} {kws : List (Str × V)} (F : FunD K "__init__" "Rule.__init__" (defArgs sRInit) (defBody sRInit) (defScope sRInit) [] kws f fd) (T : Txt mg) (M : RT K mg C) (R : ErrB P w K mg base "BadRule" "part" CR) (mB : mg "bool" = none)
    (G : FnOk P w K mg base CX0 1 f1 fd1 ["value", "least", "most"] (spAreLetters K)) (m1 : mg "are_letters" = some (.ref f1)) (k1 : PySem.W.keepIn K (.ref f1) = true) (b1 : L2.Binds K fd1 ["value", "least", "most"] []) :
    FnOk P w K mg base (L2.CX P w) 3 f fd nInit (spRInit K C CR) := by
  obtain ⟨fi, fdi, psi, r1, r2, r3, r4⟩ := R.init
  obtain ⟨mc, lu, rd, cv⟩ := M.rd
  refine F.ok scRInit (fun vs H Q E h => ?_) (fun cdv A outer s H vs Q E hr h => ?_)
  · obtain ⟨p, dx, x, y, u, v, a, b, c, d, rfl, _⟩ := h
    rfl
  · obtain ⟨p, dx, x, y, u, v, a, b, c, d, rfl, hp, hx, hy, hu, hv, k⟩ := h
    have tk := takes_of (X := cxOf (L2.CX P w) P w K mg base nInit "Rule.__init__" (defScope sRInit) f cdv A outer s H E) rfl rfl rfl rfl
    have hr1 := hr.mono (show 1 ≤ 2 by decide)
    refine ⟨_, pss_cons (ps_if (pt_not (pt_val (pe_call G hr1 (by rfl) m1 k1 b1 .nil pass0 (pa_cons (pv 1) (pa_cons pe_int (pa_cons (ClX.pe_cval (pe_glob (v := .ref C) (by rfl) M.mgC rfl)) pa_nil)))))) (pss_one (ps_raise1 rfl tk R.O r1 r2 r3 hr r4 (by rfl) R.mgC pe_str)) pss_nil)
      (pss_cons (ps_if (pt_not (pt_val (pe_call G hr1 (by rfl) m1 k1 b1 .nil pass0 (pa_cons (pv 2) (pa_cons pe_int (pa_cons (ClX.pe_cval (pe_glob (v := .ref C) (by rfl) M.mgC rfl)) pa_nil)))))) (pss_one (ps_raise1 rfl tk R.O r1 r2 r3 hr r4 (by rfl) R.mgC pe_str)) pss_nil)
      (pss_cons (ps_if (pt_not (pt_val (bIsi (by rfl) T.isi (pv 3) (pe_bltn (v := .ty "bool") (by rfl) mB (by decide +kernel) rfl)))) (pss_one (ps_raise1 rfl tk R.O r1 r2 r3 hr r4 (by rfl) R.mgC pe_str)) pss_nil)
      (pss_cons (ps_if (pt_not (pt_val (bIsi (by rfl) T.isi (pv 4) (pe_bltn (v := .ty "bool") (by rfl) mB (by decide +kernel) rfl)))) (pss_one (ps_raise1 rfl tk R.O r1 r2 r3 hr r4 (by rfl) R.mgC pe_str)) pss_nil)
      (pss_cons (ps_fld (pv 0) (pv 1) rfl) (pss_cons (ps_fld (pv 0) (pv 2) rfl) (pss_cons (ps_fld (pv 0) (pv 3) rfl) (pss_one (ps_fld (pv 0) (pv 4) rfl)))))))), ?_⟩
    refine ⟨_, rfl, C, mc, _, lu, rfl, rd, cv, x, 1, a, rfl, hx, a, rfl, ?_⟩
    cases a with
    | false => exact iteT k
    | true =>
    refine iteF ⟨_, rfl, C, mc, _, lu, rfl, rd, cv, y, 0, b, rfl, hy, b, rfl, ?_⟩
    cases b with
    | false => exact iteT k
    | true =>
    obtain ⟨tu, tyu, ku⟩ := hu
    refine iteF ⟨_, rfl, u, .ty "bool", _, _, c, rfl, .ty "bool", tyu, ku, c, rfl, ?_⟩
    cases c with
    | false => exact iteT k
    | true =>
    obtain ⟨tv, tyv, kv⟩ := hv
    refine iteF ⟨_, rfl, v, .ty "bool", _, _, d, rfl, .ty "bool", tyv, kv, d, rfl, ?_⟩
    cases d with
    | false => exact iteT k
    | true =>
    refine iteF ?_
    refine ⟨_, rfl, _, rfl, p, C, dx, [], rfl, hp, M.cl, M.n1, by show 0 < 1000; decide, ?_⟩
    refine ⟨_, rfl, _, rfl, p, C, dx, _, rfl, upd_same, M.cl, M.n2, by show 1 < 1000; decide, ?_⟩
    refine ⟨_, rfl, _, rfl, p, C, dx, _, rfl, upd_same, M.cl, M.n3, by show 2 < 1000; decide, ?_⟩
    refine ⟨_, rfl, _, rfl, p, C, dx, _, rfl, upd_same, M.cl, M.n4, by show 3 < 1000; decide, ?_⟩
    exact k _ (Ext1.trans Ext1.put (Ext1.trans Ext1.put (Ext1.trans Ext1.put Ext1.put))) upd_same
end
end Kx

set_option Elab.async false
set_option maxRecDepth 100000
set_option autoImplicit false
/-! parts_of_text, is_text_of_rule, Rule.read, str, == -/
namespace Kx
open PySem L2 PySem.Spec PyProof.Rows Rg Er Ru SX
abbrev sRRead : Stmt := inClass (top 24) 2
abbrev sRStr : Stmt := inClass (top 24) 3
abbrev sREq : Stmt := inClass (top 24) 4
abbrev sParts : Stmt := top 25
abbrev sIsText : Stmt := top 26
def arr : Str := S [62]
theorem arr_lit : (">" : Str) = arr := rfl
def pt3 (z : Str) : Str × Str × Str := Txt.partition (S (inn z)) arr
theorem pt3_none {z : Str} (h : TL.par [62] [] (inn z) = none) : pt3 z = (S (inn z), S [], S []) := partition_none (by simp) h
theorem pt3_some {z : Str} {p q : List Nat} (h : TL.par [62] [] (inn z) = some (p, q)) : pt3 z = (S p, arr, S q) := partition_some (by simp) h
theorem inn_le (z : Str) : (S (inn z)).length ≤ z.length := by
  obtain ⟨⟨L⟩⟩ := z
  show (inn ⟨⟨L⟩⟩).length ≤ L.length
  unfold inn
  rw [List.length_take, List.length_drop]
  show min _ (L.length - _) ≤ L.length
  omega
theorem rmp_le (z : Str) : (Txt.removeprefix z "[").length ≤ z.length := by
  obtain ⟨⟨L⟩⟩ := z
  rw [rmp]
  show (L.drop _).length ≤ L.length
  rw [List.length_drop]
  omega
theorem par_le : ∀ (I acc p q : List Nat), TL.par [62] acc I = some (p, q) → p.length + q.length + 1 = acc.length + I.length
  | [], acc, _, _, h => by cases h
  | c :: r, acc, p, q, h => by
    unfold TL.par at h
    rw [pre62] at h
    by_cases e : c = 62
    · subst e
      simp at h
      obtain ⟨rfl, rfl⟩ := h
      rw [List.length_cons]
      omega
    · have q2 : (c == 62) = false := by simpa using e
      rw [q2, if_neg (by simp)] at h
      have a := par_le r (acc ++ [c]) p q h
      rw [List.length_append] at a
      rw [List.length_cons]
      simp only [List.length_cons, List.length_nil] at a
      omega
def spParts : Sp := fun vs H Q _ => ∃ z : Str, vs = [.str z] ∧ z.length ≤ 1000 ∧ ∀ t, H t = none → Q (.ref t) (upd H t (.tup [.str (pt3 z).1, .str (pt3 z).2.1, .str (pt3 z).2.2]))
def spIsText (K : PySem.W.Frag) : Sp := fun vs H Q _ => ∃ x, vs = [x] ∧ ((∃ z : Str, x = .str z ∧ z.length ≤ 1000 ∧ ∀ H', Same H H' → Q (.bl (rdL (inn z)).isSome) H') ∨ (NoStr K H x ∧ Q (.bl false) H))
def raised2 (C : Addr) (f g : Str) (v u : V) (E : XK) (H : Hp) : Prop := ∀ d, H d = none → E (.ref C) (some d) (upd H d (.xd [(g, u), (f, v)]))
structure ErrD (P : Program) (w : World) (K : PySem.W.Frag) (mg : Str → Option Value) (base : Heap) (x f g : Str) (C : Addr) : Prop where
  O : OexC K C
  mgC : mg x = some (.ref C)
  init : ∃ fi fd ps, PySem.W.findIn K (.ref C) "__init__" = some (some (.ref fi)) ∧ PySem.W.typeIn K (.ref fi) = some (.type "function") ∧ FnOk P w K mg base CX0 1 fi fd ps (spErr2 C f g) ∧ L2.Binds K fd ps []
def spRead (K : PySem.W.Frag) (C CT : Addr) : Sp := fun vs H Q E => ∃ x, vs = [.ref C, x] ∧
  ((∃ (z : Str) (p q : List Nat), x = .str z ∧ z.length ≤ 1000 ∧ rdL (inn z) = some (p, q) ∧ ∀ H' a, Same H H' → Rl C H' a (S p) (S q) (hd z) (la z) → Q (.ref a) H') ∨
  (((∃ z : Str, x = .str z ∧ z.length ≤ 1000 ∧ rdL (inn z) = none) ∨ NoStr K H x) ∧ ∀ H', Same H H' → raised2 CT "line" "word" (.int 0) (.int 0) E H'))
theorem tx_lets {K : PySem.W.Frag} {lo : Nat} {H : Hp} {z : Str} (h : lets lo z = true) : Tx K lo H (.str z) true := .inl ⟨z, rfl, by
  unfold lets at h
  simp only [Bool.and_eq_true, decide_eq_true_eq] at h
  omega, h.symm⟩
theorem tb_bl {K : PySem.W.Frag} {H : Hp} (b : Bool) : Tb K H (.bl b) true := ⟨_, .base (.bl b), kit_ty (by decide +kernel)⟩
section
variable {P : Program} {w : World} {K : PySem.W.Frag} {mg : Str → Option Value} {base : Heap}
theorem scParts : FnScope ["text"] ["text"] (defScope sParts) := ⟨rfl, rfl, rfl, by decide +kernel, rfl, by decide +kernel, by decide +kernel⟩
theorem ok_parts {f : Addr} {fd : FuncData} (F : L2.Fun K "parts_of_text" "parts_of_text" sParts f fd) : FnOk P w K mg base CX0 1 f fd ["text"] spParts := by
  refine F.ok scParts (fun vs H Q E h => ?_) (fun cdv A outer s H vs Q E hr h => ?_)
  · obtain ⟨z, rfl, _⟩ := h
    rfl
  · obtain ⟨z, rfl, few, k⟩ := h
    refine ⟨_, pss_one (ps_ret (pe_bm PySem.F.plainAttrs_str PySem.F.slot_str_partition PySem.F.type_str_partition mt_partition (pe_bm PySem.F.plainAttrs_str PySem.F.slot_str_removesuffix PySem.F.type_str_removesuffix mt_removesuffix
      (pe_bm PySem.F.plainAttrs_str PySem.F.slot_str_removeprefix PySem.F.type_str_removeprefix mt_removeprefix (pv 0) (pa_cons pe_str pa_nil)) (pa_cons pe_str pa_nil)) (pa_cons pe_str pa_nil))), ?_⟩
    refine ⟨_, rfl, rfl, _, _, rfl, rfl, len_small few, rfl, _, _, rfl, rfl, len_small (Nat.le_trans (rmp_le z) few), ?_⟩
    rw [inner_prog]
    exact ⟨rfl, _, _, rfl, rfl, rfl, len_small (Nat.le_trans (inn_le z) few), fun t ht => k t ht⟩
theorem scIsText : FnScope ["value", "old", "arrow", "new"] ["value"] (defScope sIsText) := ⟨rfl, rfl, rfl, by decide +kernel, rfl, by decide +kernel, by decide +kernel⟩
theorem ok_isText {C f f1 f2 : Addr} {fd fd1 fd2 : FuncData} (F : L2.Fun K "is_text_of_rule" "is_text_of_rule" sIsText f fd) (T : Txt mg) (M : RT K mg C) (mS : mg "str" = none)
    (G1 : FnOk P w K mg base CX0 1 f1 fd1 ["text"] spParts) (m1 : mg "parts_of_text" = some (.ref f1)) (k1 : PySem.W.keepIn K (.ref f1) = true) (b1 : L2.Binds K fd1 ["text"] [])
    (G2 : FnOk P w K mg base CX0 1 f2 fd2 ["value", "least", "most"] (spAreLetters K)) (m2 : mg "are_letters" = some (.ref f2)) (k2 : PySem.W.keepIn K (.ref f2) = true) (b2 : L2.Binds K fd2 ["value", "least", "most"] []) :
    FnOk P w K mg base CX0 2 f fd ["value"] (spIsText K) := by
  obtain ⟨mc, lu, rd, cv⟩ := M.rd
  refine F.ok scIsText (fun vs H Q E h => ?_) (fun cdv A outer s H vs Q E hr h => ?_)
  · obtain ⟨x, rfl, _⟩ := h
    rfl
  · obtain ⟨x, rfl, h⟩ := h
    have nd := scIsText.nd
    refine ⟨_, pss_cons (ps_if (pt_not (pt_val (bIsi (by rfl) T.isi (pv 0) (pe_bltn (v := .ty "str") (by rfl) mS (by decide +kernel) rfl)))) (pss_one (ps_ret pe_bl)) pss_nil)
      (pss_cons (ps_asg (pe_call G1 hr (by rfl) m1 k1 b1 .nil pass0 (pa_cons (pv 0) pa_nil)) (pg_tup rfl (pgs_cons (pg_name (i := 1) nd rfl (.inl rfl)) (pgs_cons (pg_name (i := 2) nd rfl (.inl rfl)) (pgs_cons (pg_name (i := 3) nd rfl (.inl rfl)) pgs_nil)))))
      (pss_one (ps_ret (pe_and (pe_cmpR op_eq (pv 2) pe_str (nomark _)) (pe_and (pe_call G2 hr (by rfl) m2 k2 b2 .nil pass0 (pa_cons (pv 1) (pa_cons pe_int (pa_cons (ClX.pe_cval (pe_glob (v := .ref C) (by rfl) M.mgC rfl)) pa_nil))))
        (pe_one (pe_call G2 hr (by rfl) m2 k2 b2 .nil pass0 (pa_cons (pv 3) (pa_cons pe_int (pa_cons (ClX.pe_cval (pe_glob (v := .ref C) (by rfl) M.mgC rfl)) pa_nil)))))))))), ?_⟩
    rcases h with ⟨z, rfl, few, k⟩ | ⟨⟨t, ty, no⟩, k⟩
    · refine ⟨_, rfl, .str z, .ty "str", _, _, true, rfl, .ty "str", .base (.str z), kit_ty (by decide +kernel), true, rfl, iteF ?_⟩
      refine ⟨_, rfl, z, rfl, few, fun t ht => ?_⟩
      refine ⟨t, _, rfl, SqT.of upd_same, rfl, _, _, rfl, _, _, rfl, _, _, rfl, rfl, ?_⟩
      have s1 : Same H (upd H t (.tup [.str (pt3 z).1, .str (pt3 z).2.1, .str (pt3 z).2.2])) := Same.new ht
      generalize upd H t (.tup [.str (pt3 z).1, .str (pt3 z).2.1, .str (pt3 z).2.2]) = H1 at s1 ⊢
      have k' := k H1 s1
      have l0 := inn_le z
      unfold rdL at k'
      cases e : TL.par [62] [] (inn z) with
      | none =>
        rw [pt3_none e]
        rw [e] at k'
        exact ⟨_, rfl, rfl, false, rfl, iteF k'⟩
      | some pq =>
        obtain ⟨p, q⟩ := pq
        have l1 := par_le _ _ _ _ e
        have l2 : (inn z).length ≤ z.length := l0
        simp only [List.length_nil] at l1
        rw [pt3_some e]
        rw [e] at k'
        dsimp only at k'
        refine ⟨_, rfl, rfl, true, rfl, iteT ?_⟩
        refine ⟨_, rfl, C, mc, _, lu, rfl, rd, cv, .str (S p), 1, lets 1 (S p), rfl, .inl ⟨S p, rfl, by show p.length ≤ 1000; omega, rfl⟩, lets 1 (S p), rfl, ?_⟩
        cases e1 : lets 1 (S p) with
        | false =>
          rw [e1] at k'
          exact iteF k'
        | true =>
          rw [e1] at k'
          refine iteT ⟨_, rfl, C, mc, _, lu, rfl, rd, cv, .str (S q), 0, lets 0 (S q), rfl, .inl ⟨S q, rfl, by show q.length ≤ 1000; omega, rfl⟩, ?_⟩
          cases e2 : lets 0 (S q) with
          | false => rw [e2] at k'; exact k'
          | true => rw [e2] at k'; exact k'
    · exact ⟨_, rfl, x, .ty "str", _, _, false, rfl, .ty "str", ty, no, false, rfl, iteT k⟩
theorem scRRead : FnScope ["cls", "text", "old", "_", "new"] ["cls", "text"] (defScope sRRead) := ⟨rfl, rfl, rfl, by decide +kernel, rfl, by decide +kernel, by decide +kernel⟩
def gKw : List Value → List Value → List Value := fun us ws => us ++ ws
def gKwV : List V → List V → List V := fun us ws => us ++ ws
theorem ok_rRead {C CR CT f f1 f2 fi : Addr} {fd fd1 fd2 fdi : FuncData} (F : L2.Fun K "read" "Rule.read" sRRead f fd) (R : ErrD P w K mg base "BadText" "line" "word" CT)
    (G1 : FnOk P w K mg base CX0 1 f1 fd1 ["text"] spParts) (m1 : mg "parts_of_text" = some (.ref f1)) (k1 : PySem.W.keepIn K (.ref f1) = true) (b1 : L2.Binds K fd1 ["text"] [])
    (G2 : FnOk P w K mg base CX0 2 f2 fd2 ["value"] (spIsText K)) (m2 : mg "is_text_of_rule" = some (.ref f2)) (k2 : PySem.W.keepIn K (.ref f2) = true) (b2 : L2.Binds K fd2 ["value"] [])
    (mk_ : Mk K C fi) (GI : FnOk P w K mg base (L2.CX P w) 3 fi fdi nInit (spRInit K C CR)) (kb : KBn K fdi nInit 3 ["left", "right"] gKw gKwV) :
    FnOk P w K mg base (L2.CX P w) 5 f fd ["cls", "text"] (spRead K C CT) := by
  obtain ⟨ft, fdt, pst, r1, r2, r3, r4⟩ := R.init
  refine F.okX scRRead (fun vs H Q E h => ?_) (fun cdv A outer s H vs Q E hr h => ?_)
  · obtain ⟨x, rfl, _⟩ := h
    rfl
  · obtain ⟨x, rfl, h⟩ := h
    have nd := scRRead.nd
    have tk := takes_of (X := cxOf (L2.CX P w) P w K mg base ["cls", "text", "old", "_", "new"] "Rule.read" (defScope sRRead) f cdv A outer s H E) rfl rfl rfl rfl
    have hr1 := hr.mono (show 1 ≤ 4 by decide)
    have hr2 := hr.mono (show 2 ≤ 4 by decide)
    refine ⟨_, pss_cons (ps_if (pt_not (pt_val (pe_call G2 hr2 (by rfl) m2 k2 b2 .nil pass0 (pa_cons (pv 1) pa_nil)))) (pss_one (ps_raise2 rfl tk R.O r1 r2 r3 hr2 r4 (by rfl) R.mgC pe_int pe_int)) pss_nil)
      (pss_cons (ps_asg (pe_call G1 hr1 (by rfl) m1 k1 b1 .nil pass0 (pa_cons (pv 1) pa_nil)) (pg_tup rfl (pgs_cons (pg_name (i := 2) nd rfl (.inl rfl)) (pgs_cons (pg_name (i := 3) nd rfl (.inl rfl)) (pgs_cons (pg_name (i := 4) nd rfl (.inl rfl)) pgs_nil)))))
      (pss_one (ps_ret (pe_makeVK mk_ GI hr kb passesF (pv 0) (pa_cons (pv 2) (pa_cons (pv 4) pa_nil)) (pk_cons (pe_bm PySem.F.plainAttrs_str PySem.F.slot_str_startswith PySem.F.type_str_startswith mt_startswith (pv 1) (pa_cons pe_str pa_nil))
        (pk_cons (pe_bm PySem.F.plainAttrs_str PySem.F.slot_str_endswith PySem.F.type_str_endswith mt_endswith (pv 1) (pa_cons pe_str pa_nil)) pk_nil)))))), ?_⟩
    rcases h with ⟨z, p, q, rfl, few, e, k⟩ | ⟨⟨z, rfl, few, e⟩ | no, k⟩
    · refine ⟨_, rfl, .str z, rfl, .inl ⟨z, rfl, few, fun H1 s1 => ?_⟩⟩
      rw [e]
      refine ⟨true, rfl, iteF ?_⟩
      refine ⟨_, rfl, z, rfl, few, fun t ht => ?_⟩
      have e3 : TL.par [62] [] (inn z) = some (p, q) ∧ lets 1 (S p) = true ∧ lets 0 (S q) = true := by
        unfold rdL at e
        cases e4 : TL.par [62] [] (inn z) with
        | none => rw [e4] at e; cases e
        | some pq =>
          rw [e4] at e
          dsimp only at e
          split at e
          · rename_i h5
            cases e
            rw [Bool.and_eq_true] at h5
            exact ⟨rfl, h5⟩
          · cases e
      rw [pt3_some e3.1]
      have s2 : Same H (upd H1 t (.tup [.str (S p), .str arr, .str (S q)])) := Same.trans s1 (Same.new ht)
      have e2 : upd H1 t (.tup [.str (S p), .str arr, .str (S q)]) t = some (.tup [.str (S p), .str arr, .str (S q)]) := upd_same
      generalize upd H1 t (.tup [.str (S p), .str arr, .str (S q)]) = H2 at s2 e2 ⊢
      refine ⟨t, _, rfl, SqT.of e2, rfl, _, _, rfl, _, _, rfl, _, _, rfl, rfl, ?_⟩
      refine ⟨_, rfl, rfl, _, rfl, _, rfl, _, rfl, rfl, _, _, rfl, rfl, _, rfl, rfl, _, _, rfl, rfl, rfl, rfl, fun x dx hx hdx ne => ?_⟩
      rw [starts_eq, ends_eq]
      refine ⟨x, dx, _, _, _, _, true, true, true, true, rfl, upd_same, tx_lets e3.2.1, tx_lets e3.2.2, tb_bl _, tb_bl _, fun H3 e5 h5 => ⟨rfl, k H3 x ?_ ⟨dx, h5⟩⟩⟩
      exact same_ext1 (Same.free s2 hx) (Same.trans s2 (made_same hx hdx)) e5
    · refine ⟨_, rfl, .str z, rfl, .inl ⟨z, rfl, few, fun H1 s1 => ?_⟩⟩
      rw [e]
      exact ⟨false, rfl, iteT (k H1 s1)⟩
    · exact ⟨_, rfl, x, rfl, .inr ⟨no, false, rfl, iteT (k H (Same.refl H))⟩⟩
end
end Kx

set_option Elab.async false
set_option maxRecDepth 100000
set_option autoImplicit false
/-! str of a rule, == -/
namespace Kx
open PySem L2 PySem.Spec PyProof.Rows Rg Er Ru SX
/-- the text of a rule -/
def wr (o n : Str) (l r : Bool) : Str := (if l = true then ("[" : Str) else "") ++ o ++ ">" ++ n ++ (if r = true then ("]" : Str) else "")
theorem app_len (x y : Str) : (x ++ y).length = x.length + y.length := Str.length_append x y
theorem mark_len (b : Bool) (z : Str) (h : z.length = 1) : (if b = true then z else ("" : Str)).length ≤ 1 := by
  cases b
  · exact Nat.zero_le _
  · exact Nat.le_of_eq h
theorem wr_len (o n : Str) (l r : Bool) : (wr o n l r).length ≤ o.length + n.length + 3 := by
  unfold wr
  rw [app_len, app_len, app_len, app_len]
  have h1 := mark_len l "[" rfl
  have h2 := mark_len r "]" rfl
  have h3 : (">" : Str).length = 1 := rfl
  omega
theorem nil_app (x : Str) : Str.empty ++ x = x := by
  obtain ⟨⟨L⟩⟩ := x
  show (⟨#[] ++ ⟨L⟩⟩ : Str) = _
  simp
def spStr (C : Addr) : Sp := fun vs H Q _ => ∃ a o n l r, vs = [.ref a] ∧ Rl C H a o n l r ∧ o.length ≤ 1000 ∧ n.length ≤ 1000 ∧ Q (.str (wr o n l r)) H
def spREq (K : PySem.W.Frag) (C : Addr) : Sp := fun vs H Q _ => ∃ a y o n l r, vs = [.ref a, y] ∧ Rl C H a o n l r ∧
  ((∃ b o' n' l' r', y = .ref b ∧ Rl C H b o' n' l' r' ∧ Q (.bl (decide (o = o') && decide (n = n') && decide (l = l') && decide (r = r'))) H) ∨
   ((∃ t, TyX K H y t ∧ PySem.W.kitOne K t (.ref C) = some false) ∧ Q (.bl false) H))
theorem dStr (x y : Str) : decide (V.str x = V.str y) = decide (x = y) := by
  by_cases q : x = y
  · rw [q, decide_eq_true rfl, decide_eq_true rfl]
  · rw [decide_eq_false q]
    exact decide_eq_false fun z => q (V.str.inj z)
theorem ite_tC {σ : L2.St} {H : Hp} {Q : VK} {l : Bool} {x y : Str} (h : Q (.str (if l = true then x else y)) H) : if l = true then tC (.str x) σ H Q else tC (.str y) σ H Q := by
  cases l <;> exact h
theorem dBl (x y : Bool) : decide (V.bl x = V.bl y) = decide (x = y) := by
  by_cases q : x = y
  · rw [q, decide_eq_true rfl, decide_eq_true rfl]
  · rw [decide_eq_false q]
    exact decide_eq_false fun z => q (V.bl.inj z)
section
variable {P : Program} {w : World} {K : PySem.W.Frag} {mg : Str → Option Value} {base : Heap}
theorem scRStr : FnScope ["self", "head", "tail"] ["self"] (defScope sRStr) := ⟨rfl, rfl, rfl, by decide +kernel, rfl, by decide +kernel, by decide +kernel⟩
theorem ok_rStr {C f : Addr} {fd : FuncData} (F : L2.Fun K "__str__" "Rule.__str__" sRStr f fd) (M : RT K mg C) : FnOk P w K mg base CX0 1 f fd ["self"] (spStr C) := by
  refine F.ok scRStr (fun vs H Q E h => ?_) (fun cdv A outer s H vs Q E hr h => ?_)
  · obtain ⟨a, o, n, l, r, rfl, _⟩ := h
    rfl
  · obtain ⟨a, o, n, l, r, rfl, ⟨dx, ha⟩, lo, ln, k⟩ := h
    have nd := scRStr.nd
    obtain ⟨e1, e2, e3, e4⟩ := rf_lookups (.str o) (.str n) (.bl l) (.bl r)
    refine ⟨_, pss_cons (ps_set (i := 1) nd rfl (.inl rfl) (pe_ifExp (pt_val (pe_fld (pv 0) rfl)) pe_str pe_str)) (pss_cons (ps_set (i := 2) nd rfl (.inl rfl) (pe_ifExp (pt_val (pe_fld (pv 0) rfl)) pe_str pe_str))
      (pss_one (ps_ret (pe_joined (.cons (pe_fmt (pv 1)) (.cons (pe_fmt (pe_fld (pv 0) rfl)) (.cons pe_str (.cons (pe_fmt (pe_fld (pv 0) rfl)) (.cons (pe_fmt (pv 2)) .nil))))))))), ?_⟩
    have h1 := mark_len l "[" rfl
    have h2 := mark_len r "]" rfl
    have h3 : (">" : Str).length = 1 := rfl
    refine ⟨_, rfl, a, C, dx, _, _, rfl, ha, M.cl, M.n3, e3, l, rfl, ite_tC ?_⟩
    refine ⟨_, rfl, a, C, dx, _, _, rfl, ha, M.cl, M.n4, e4, r, rfl, ite_tC ?_⟩
    unfold wr at k
    generalize (if l = true then ("[" : Str) else "") = m1 at h1 k ⊢
    generalize (if r = true then ("]" : Str) else "") = m2 at h2 k ⊢
    refine ⟨_, rfl, .inl ⟨m1, rfl, len_small (by omega), m1, rfl, ?_, ?_⟩⟩
    · rw [nil_app]; exact len_small (by omega)
    rw [nil_app]
    refine ⟨_, rfl, a, C, dx, _, _, rfl, ha, M.cl, M.n1, e1, .inl ⟨o, rfl, len_small lo, o, rfl, ?_, ?_⟩⟩
    · rw [app_len, sizeLine_eq]; omega
    refine ⟨_, rfl, ?_, ?_⟩
    · rw [app_len, app_len, sizeLine_eq, h3]; omega
    refine ⟨_, rfl, a, C, dx, _, _, rfl, ha, M.cl, M.n2, e2, .inl ⟨n, rfl, len_small ln, n, rfl, ?_, ?_⟩⟩
    · rw [app_len, app_len, app_len, sizeLine_eq, h3]; omega
    refine ⟨_, rfl, .inl ⟨m2, rfl, len_small (by omega), m2, rfl, ?_, k⟩⟩
    · rw [app_len, app_len, app_len, app_len, sizeLine_eq, h3]; omega
theorem scREq : FnScope ["self", "other", "stretches"] ["self", "other"] (defScope sREq) := ⟨rfl, rfl, rfl, by decide +kernel, rfl, by decide +kernel, by decide +kernel⟩
theorem ok_rEq {C f : Addr} {fd : FuncData} (F : L2.Fun K "__eq__" "Rule.__eq__" sREq f fd) (T : Txt mg) (M : RT K mg C) (I : InsT K C) (rk : PySem.W.kitOne K (.ref C) (.ref C) = some true) : FnOk P w K mg base CX0 1 f fd ["self", "other"] (spREq K C) := by
  refine F.ok scREq (fun vs H Q E h => ?_) (fun cdv A outer s H vs Q E hr h => ?_)
  · obtain ⟨a, y, o, n, l, r, rfl, _⟩ := h
    rfl
  · obtain ⟨a, y, o, n, l, r, rfl, ⟨dx, ha⟩, h⟩ := h
    have nd := scREq.nd
    obtain ⟨e1, e2, e3, e4⟩ := rf_lookups (.str o) (.str n) (.bl l) (.bl r)
    refine ⟨_, pss_cons (ps_if (pt_not (pt_val (bIsi (by rfl) T.isi (pv 1) (pe_glob (v := .ref C) (by rfl) M.mgC rfl)))) (pss_one (ps_ret pe_bl)) pss_nil)
      (pss_cons (ps_set (i := 2) nd rfl (.inl rfl) (pe_and (pe_cmpR op_eq (pe_fld (pv 0) rfl) (pe_fld (pv 1) rfl) (nomark _)) (pe_one (pe_cmpR op_eq (pe_fld (pv 0) rfl) (pe_fld (pv 1) rfl) (nomark _)))))
      (pss_one (ps_ret (pe_and (pv 2) (pe_and (pe_cmpR op_eq (pe_fld (pv 0) rfl) (pe_fld (pv 1) rfl) (nomark _)) (pe_one (pe_cmpR op_eq (pe_fld (pv 0) rfl) (pe_fld (pv 1) rfl) (nomark _)))))))), ?_⟩
    rcases h with ⟨b, o', n', l', r', rfl, ⟨dy, hb⟩, k⟩ | ⟨⟨t, ty, no⟩, k⟩
    · obtain ⟨d1, d2, d3, d4⟩ := rf_lookups (.str o') (.str n') (.bl l') (.bl r')
      refine ⟨_, rfl, .ref b, .ref C, _, _, true, rfl, .own C, I.ty hb, rk, true, rfl, iteF ?_⟩
      refine ⟨_, rfl, a, C, dx, _, _, rfl, ha, M.cl, M.n1, e1, _, rfl, b, C, dy, _, _, rfl, hb, M.cl, M.n1, d1, rfl, _, rfl, ?_⟩
      rw [dStr]
      cases e : decide (o = o') with
      | false => rw [e] at k; exact iteF ⟨_, rfl, false, rfl, iteF k⟩
      | true =>
        rw [e, Bool.true_and] at k
        refine iteT ⟨_, rfl, a, C, dx, _, _, rfl, ha, M.cl, M.n2, e2, _, rfl, b, C, dy, _, _, rfl, hb, M.cl, M.n2, d2, rfl, ?_⟩
        rw [dStr]
        cases e5 : decide (n = n') with
        | false => rw [e5] at k; exact ⟨_, rfl, false, rfl, iteF k⟩
        | true =>
          rw [e5, Bool.true_and] at k
          refine ⟨_, rfl, true, rfl, iteT ⟨_, rfl, a, C, dx, _, _, rfl, ha, M.cl, M.n3, e3, _, rfl, b, C, dy, _, _, rfl, hb, M.cl, M.n3, d3, rfl, _, rfl, ?_⟩⟩
          rw [dBl]
          cases e6 : decide (l = l') with
          | false => rw [e6] at k; exact iteF k
          | true =>
            rw [e6, Bool.true_and] at k
            refine iteT ⟨_, rfl, a, C, dx, _, _, rfl, ha, M.cl, M.n4, e4, _, rfl, b, C, dy, _, _, rfl, hb, M.cl, M.n4, d4, rfl, ?_⟩
            rw [dBl]
            exact k
    · exact ⟨_, rfl, y, .ref C, _, _, false, rfl, .own C, ty, no, false, rfl, iteT k⟩
end
end Kx

set_option Elab.async false
set_option maxRecDepth 100000
set_option autoImplicit false
/-! x in t, t == u, where the items are compared by an own == -/
namespace Ow
open PySem PySem.SeqAt
open AutoSeq1 (wpAny_loadPart')
open MeetsSeq MeetsSeq2 MeetsSeq3 SeqRoads2
section
variable {prog : Program} {w : World}
/-- x in t: the items one by one -/
theorem tuple_containsW (l : Addr) (items : Array Value) (n : Nat) (dd : Option Addr) (sl : Array (Option Value)) (x : Value) :
    MeetsIn prog w (Builtin.«tuple.__contains__» ⟨[.ref l, x], []⟩)
      (fun A R s => s.heap.get? l = some { cls := .type "tuple", dict := dd, data := .seq items n, slots := sl } ∧ ∃ St : Nat → Shared → Prop, St 0 s ∧
        (∀ (i : Nat) (y : Value) (s' : Shared), items[i]? = some y → St i s' → wpAny (model prog w) A.in1 (eqBool y x) (fun b s'' => if b = true then R (.ok (.ret (.bool true))) s'' else St (i + 1) s'') (fun e s'' => R (.error e) s'') s') ∧
        ∀ s', St items.size s' → R (.ok (.ret (.bool false))) s') :=
  .of_wp fun A R s h => by
    obtain ⟨hp, g, d, tk, os⟩ := s; obtain ⟨hl, St, h0, step, fin⟩ := h
    wp_walk using wpAny_loadPart' hl, wpAny_forIn_array _ (fun rest b s' => b.1 = none ∧ ∃ i, rest = items.toList.drop i ∧ i ≤ items.size ∧ St i s') _
    case turn =>
      rintro y rest b s' ⟨hb, i, hr, hle, st⟩
      have hlt : i < items.toList.length := by
        rcases Nat.lt_or_ge i items.toList.length with h' | h'
        · exact h'
        · rw [List.drop_of_length_le h'] at hr; cases hr
      rw [List.drop_eq_getElem_cons hlt] at hr
      injection hr with hy hrest
      have at_ : items[i]? = some y := by
        rw [← Array.getElem?_toList, List.getElem?_eq_getElem hlt, hy]
      refine wpAny_bind (wpAny_mono (step i y s' at_ st) (fun bb s'' hh => ?_) fun _ _ x => x)
      cases bb with
      | true =>
        wp_walk
        exact ⟨_, rfl, by simpa using hh⟩
      | false =>
        wp_walk
        exact ⟨rfl, i + 1, hrest, by have : i < items.size := (by simpa using hlt); omega, by simpa using hh⟩
    case fin =>
      rintro ⟨b1, b2⟩ s' ⟨hb, i, hr, hle, st⟩
      simp only at hb
      subst hb
      have : i = items.size := by
        have := congrArg List.length hr
        simp at this
        omega
      subst this
      wp_walk
      exact ⟨_, rfl, fin _ st⟩
    case h =>
      exact ⟨rfl, 0, by simp, Nat.zero_le _, h0⟩
variable {A : Around} {E : Value → Shared → Prop} {s : Shared}
theorem in_tupleW {l : Addr} {items : Array Value} {x : Value} {Q : Value → Shared → Prop} (hl : s.heap.IsTuple l items) (St : Nat → Shared → Prop) (h0 : St 0 s)
    (step : ∀ (i : Nat) (y : Value) (s' : Shared), items[i]? = some y → St i s' → wpAny (model prog w) A.in1 (eqBool y x) (fun b s'' => if b = true then Q (.bool true) s'' else St (i + 1) s'') E s')
    (fin : ∀ s', St items.size s' → Q (.bool false) s') : wpAny (model prog w) A (compareOp .In x (.ref l)) Q E s := by
  obtain ⟨⟨cls, dd, data, sl⟩, ho, hc, n, hd⟩ := id hl
  simp only at hc hd
  subst hc hd
  show wpAny _ _ (do return .bool (← contains (.ref l) x)) Q E s
  have hT : s.TypeIs (.ref l) "tuple" := ⟨_, ho, rfl⟩
  refine wpAny_bind (wpAny_contains_slot hT F.slot_tuple_contains (call_meetsIn (Q := fun v s' => wpAny _ A (truthy v) (fun b s'' => wpAny _ A (pure (Value.bool b)) Q E s'') E s') F.slot_tuple_contains hT F.entry_tuple_contains (F.args_tuple_contains_2 _ _) (tuple_containsW l items n dd sl x) ⟨ho, St, h0, fun i y s' hy st => ?_, fun s' st => ?_⟩))
  · refine wpAny_mono (step i y s' hy st) (fun b s'' h => ?_) fun _ _ e => e
    cases b with
    | true => exact wpAny_pure (wpAny_pure (by simpa using h))
    | false => simpa using h
  · exact wpAny_pure (wpAny_pure (fin s' st))
/-- t == u: the pairs one by one -/
theorem tuple_eqW (l b : Addr) (items items2 : Array Value) (n n2 : Nat) (dd dd2 : Option Addr) (sl sl2 : Array (Option Value)) :
    MeetsIn prog w (Builtin.«tuple.__eq__» ⟨[.ref l, .ref b], []⟩)
      (fun A R s => s.heap.get? l = some { cls := .type "tuple", dict := dd, data := .seq items n, slots := sl } ∧ s.heap.get? b = some { cls := .type "tuple", dict := dd2, data := .seq items2 n2, slots := sl2 } ∧ ∃ St : Nat → Shared → Prop, St 0 s ∧
        (∀ (i : Nat) (y x : Value) (s' : Shared), items[i]? = some y → items2[i]? = some x → St i s' → wpAny (model prog w) A.in1 (eqBool y x) (fun b s'' => if b = true then St (i + 1) s'' else R (.ok (.ret (.bool false))) s'') (fun e s'' => R (.error e) s'') s') ∧
        ∀ s', St (min items.size items2.size) s' → R (.ok (.ret (.bool (items.size == items2.size)))) s') :=
  .of_wp fun A R s h => by
    obtain ⟨hp, g, d, tk, os⟩ := s; obtain ⟨hl, hb, St, h0, step, fin⟩ := h
    have f2 := AutoSeq1.sub_tuple_tuple
    have hZ : (items.toList.zip items2.toList).length = min items.size items2.size := by simp
    wp_walk using wpAny_loadPart' hl, wpAny_loadPart' hb, wpAny_forIn_list _ (fun rest b s' => b.1 = none ∧ ∃ i, rest = (items.toList.zip items2.toList).drop i ∧ i ≤ min items.size items2.size ∧ St i s') _
    case turn =>
      rintro ⟨y, x⟩ rest b s' ⟨hb', i, hz, hle, st⟩
      have hlt : i < (items.toList.zip items2.toList).length := by
        rcases Nat.lt_or_ge i (items.toList.zip items2.toList).length with h' | h'
        · exact h'
        · rw [List.drop_of_length_le h'] at hz; cases hz
      have hm : i < min items.size items2.size := hZ ▸ hlt
      have h1 : i < items.size := Nat.lt_of_lt_of_le hm (Nat.min_le_left _ _)
      have h2 : i < items2.size := Nat.lt_of_lt_of_le hm (Nat.min_le_right _ _)
      rw [List.drop_eq_getElem_cons hlt] at hz
      injection hz with hyx hrest
      have hy : y = items[i] := by have := congrArg Prod.fst hyx; simpa using this
      have hx : x = items2[i] := by have := congrArg Prod.snd hyx; simpa using this
      refine wpAny_bind (wpAny_mono (step i y x s' (by rw [hy]; exact Array.getElem?_eq_getElem h1) (by rw [hx]; exact Array.getElem?_eq_getElem h2) st) (fun bb s'' hh => ?_) fun _ _ x => x)
      cases bb with
      | true =>
        wp_walk
        exact ⟨rfl, i + 1, hrest, by omega, by simpa using hh⟩
      | false =>
        wp_walk
        exact ⟨_, rfl, by simpa using hh⟩
    case fin =>
      rintro ⟨b1, b2⟩ s' ⟨hb', i, hz, hle, st⟩
      simp only at hb'
      subst hb'
      have : i = min items.size items2.size := by
        have := congrArg List.length hz
        rw [List.length_drop, hZ] at this
        simp only [List.length_nil] at this
        omega
      subst this
      wp_walk
      exact ⟨_, rfl, by simpa [Builtin.Tuple.tupleCompareSizes] using fin _ st⟩
    case h =>
      exact ⟨rfl, 0, by simp, Nat.zero_le _, h0⟩
theorem eq_tupleW {l b : Addr} {items items2 : Array Value} {Q : Value → Shared → Prop} (hl : s.heap.IsTuple l items) (hb : s.heap.IsTuple b items2) (hu : A.units < cLine) (St : Nat → Shared → Prop) (h0 : St 0 s)
    (step : ∀ (i : Nat) (y x : Value) (s' : Shared), items[i]? = some y → items2[i]? = some x → St i s' → wpAny (model prog w) A.in1 (eqBool y x) (fun b s'' => if b = true then St (i + 1) s'' else Q (.bool false) s'') E s')
    (fin : ∀ s', St (min items.size items2.size) s' → Q (.bool (items.size == items2.size)) s') : wpAny (model prog w) A (compareOp .Eq (.ref l) (.ref b)) Q E s := by
  obtain ⟨⟨cls, dd, data, sl⟩, ho, hc, n, hd⟩ := id hl
  obtain ⟨⟨cls2, dd2, data2, sl2⟩, ho2, hc2, n2, hd2⟩ := id hb
  simp only at hc hd hc2 hd2
  subst hc hd hc2 hd2
  show wpAny _ _ (richCompare .Eq (.ref l) (.ref b)) Q E s
  have hT : s.TypeIs (.ref l) "tuple" := ⟨_, ho, rfl⟩
  have hT2 : s.TypeIs (.ref b) "tuple" := ⟨_, ho2, rfl⟩
  refine wpAny_richCompare_same_room (op := .Eq) hT hT2 F.slot_tuple_eq (call_meetsIn F.slot_tuple_eq hT F.entry_tuple_eq (F.args_tuple_eq_2 _ _) (tuple_eqW l b items items2 n n2 dd dd2 sl sl2) ⟨ho, ho2, St, h0, fun i y x s' hy hx st => ?_, fun s' st => ?_⟩) hu
  · refine wpAny_mono (step i y x s' hy hx st) (fun bb s'' h => ?_) fun _ _ e => e
    cases bb with
    | true => simpa using h
    | false => exact ⟨fun z => (nomatch z), by simpa using h⟩
  · exact ⟨fun z => (nomatch z), fin s' st⟩
end
end Ow
set_option Elab.async false
set_option maxRecDepth 100000
set_option autoImplicit false
/-! x in t, t == u over the layer, where the items are instances with an own == that changes nothing -/
namespace Ow
open PySem L2 PySem.Spec PyProof.Rows Rg Ru
section
variable {X : Cx} {CX : CXT} {k : Nat} {C f : Addr} {fd : FuncData} {ps : List Str} {sp : Sp} {E : XK} {pins : List (Addr × Obj)} {σ : L2.St} {H : Hp} {s : Shared}
theorem eqB_own {x : V} {u : Value} {a dx : Addr} {fs : List (Str × V)} {t : Value} {b : Bool} (F : FnOk X.prog X.w X.K X.mg X.base CX k f fd ps sp) (room : Room (k + 1) X.A) (bd : Binds X.K fd ps []) (ex : Passes CX X E)
    (at_ : PySem.W.findIn X.K (.ref C) "__eq__" = some (some (.ref f))) (fn : PySem.W.isFn X.K (.ref f) = true)
    (I : Inv X pins σ H s) (rx : RelV x u) (e : H a = some (.ins C dx fs)) (ty : TyX X.K H x t) (nf : PySem.W.notFirst X.K C t = true) (hs : x = .ref a → b = true)
    (want : ∀ P : VK, P (.bl b) H → sp [.ref a, x] H P E) : wpAny (model X.prog X.w) X.A.in1 (eqBool (.ref a) u) (fun b' s' => b' = b ∧ Inv X pins σ H s') X.xe s := by
  obtain ⟨od, J⟩ := instAt I e
  obtain ⟨m, hF⟩ := I.fr
  obtain ⟨P0, kx, hp, _⟩ := kit_of I rx ty
  unfold eqBool
  refine wpAny_holding ?_
  refine wpAny_ite_split (fun hab => ?_) (fun _ => ?_)
  · have eu : Value.ref a = u := eq_of_beq hab
    have ex : x = .ref a := by
      subst eu
      cases x with
      | ref c => cases rx; rfl
      | non => exact absurd rx (fun z => nomatch z)
      | bl b => exact absurd rx (fun z => nomatch z)
      | int i => obtain ⟨_, z⟩ := rx; cases z
      | str i => obtain ⟨_, z⟩ := rx; cases z
      | byt i => obtain ⟨_, z⟩ := rx; cases z
      | flt i => obtain ⟨_, z⟩ := rx; cases z
      | ty i => exact absurd rx (fun z => nomatch z)
    exact wpAny_bind (wpAny_rule (wpAny_pure ⟨(hs ex).symm, I⟩))
  · refine wpAny_bind (PySem.W.cmp_K (op := .Eq) (tb := t) (room.in1 : Room k X.A.in1).units0 hF I.ok.mod.kin J (kx.ty _ _ I.kIn hp) nf at_ fn ?_)
    refine thn (runIn F room bd ex I (.cons (rvRef a) (.cons rx .nil)) (want (fun v H' => v = .bl b ∧ H' = H) ⟨rfl, rfl⟩)) ?_
    rintro z s' ⟨v', H', I', rv, rfl, rfl⟩
    obtain rfl : z = Value.bool b := rv
    exact wpAny_truthy_bool ⟨rfl, I'⟩
def OwnItem (K : PySem.W.Frag) (C : Addr) (sp : Sp) (E : XK) (H : Hp) (y x : V) (b : Bool) : Prop := ∃ a dx fs t, y = .ref a ∧ H a = some (.ins C dx fs) ∧ TyX K H x t ∧ PySem.W.notFirst K C t = true ∧ (x = .ref a → b = true) ∧ ∀ P : VK, P (.bl b) H → sp [.ref a, x] H P E
def rInOwn (K : PySem.W.Frag) (C : Addr) (sp : Sp) (E : XK) : R2 := fun x y H Q => ∃ (p : Addr) (ys : List V) (bs : List Bool), y = .ref p ∧ SqT K H p ys ∧ bs.length = ys.length ∧ (∀ (i : Nat) (y : V) (b : Bool), ys[i]? = some y → bs[i]? = some b → OwnItem K C sp E H y x b) ∧ Q (.bl (bs.any id)) H
theorem op_inOwn (F : FnOk X.prog X.w X.K X.mg X.base CX k f fd ps sp) (room : Room (k + 1) X.A) (bd : Binds X.K fd ps []) (ex : Passes CX X E)
    (at_ : PySem.W.findIn X.K (.ref C) "__eq__" = some (some (.ref f))) (fn : PySem.W.isFn X.K (.ref f) = true) : OpR X (compareOp .In) (rInOwn X.K C sp E) := by
  rintro pins s σ H x y v u Q I rx ry ⟨p, ys, bs, rfl, hq, bl, all, q⟩
  obtain rfl : u = Value.ref p := ry
  obtain ⟨its, r, pl, hz⟩ := I.tuple hq
  have rl := r.length
  refine in_tupleW pl (fun i s' => Inv X pins σ H s' ∧ (bs.take i).any id = false) ⟨I, rfl⟩ ?_ ?_
  · rintro i w s' hw ⟨I', none⟩
    have hi : i < ys.length := by
      rw [List.getElem?_toArray] at hw
      obtain ⟨lt, _⟩ := List.getElem?_eq_some_iff.mp hw
      omega
    obtain ⟨b, hb⟩ : ∃ b, bs[i]? = some b := ⟨_, List.getElem?_eq_getElem (by omega)⟩
    obtain ⟨a, dx, fs, t, ey, e, ty, nf, hs, want⟩ := all i _ b (List.getElem?_eq_getElem hi) hb
    obtain ⟨w', hw', rw'⟩ := r.get (List.getElem?_eq_getElem hi)
    rw [List.getElem?_toArray] at hw
    obtain rfl : w = w' := Option.some.inj (hw.symm.trans hw')
    rw [ey] at rw'
    obtain rfl : w = Value.ref a := rw'
    refine wpAny_mono (eqB_own F room bd ex at_ fn I' rx e ty nf hs want) (fun b' s'' ⟨eb, I''⟩ => ?_) fun _ _ z => z
    subst eb
    have tk : (bs.take (i + 1)).any id = b' := by
      rw [List.take_add_one, hb, List.any_append, none]
      simp
    cases b' with
    | true =>
      have : bs.any id = true := List.any_eq_true.mpr ⟨true, List.mem_of_getElem? hb, rfl⟩
      rw [this] at q
      exact ⟨.bl true, H, I'', rfl, q⟩
    | false => exact ⟨I'', tk⟩
  · rintro s' ⟨I', none⟩
    have : its.toArray.size = bs.length := by rw [List.size_toArray]; omega
    rw [this, List.take_length] at none
    rw [none] at q
    exact ⟨.bl false, H, I', rfl, q⟩
def rEqTO (K : PySem.W.Frag) (C : Addr) (sp : Sp) (E : XK) : R2 := fun x y H Q => ∃ (p q : Addr) (ys zs : List V) (bs : List Bool), x = .ref p ∧ y = .ref q ∧ SqT K H p ys ∧ SqT K H q zs ∧ bs.length = min ys.length zs.length ∧
  (∀ (i : Nat) (y z : V) (b : Bool), ys[i]? = some y → zs[i]? = some z → bs[i]? = some b → OwnItem K C sp E H y z b) ∧ Q (.bl (bs.all id && ys.length == zs.length)) H
theorem op_eqTO (F : FnOk X.prog X.w X.K X.mg X.base CX k f fd ps sp) (room : Room (k + 1) X.A) (bd : Binds X.K fd ps []) (ex : Passes CX X E)
    (at_ : PySem.W.findIn X.K (.ref C) "__eq__" = some (some (.ref f))) (fn : PySem.W.isFn X.K (.ref f) = true) : OpR X (compareOp .Eq) (rEqTO X.K C sp E) := by
  rintro pins s σ H x y v u Q I rx ry ⟨p, q, ys, zs, bs, rfl, rfl, hp, hq, bl, all, want⟩
  obtain rfl : v = Value.ref p := rx
  obtain rfl : u = Value.ref q := ry
  obtain ⟨its, r, pl, hz⟩ := I.tuple hp
  obtain ⟨its2, r2, pl2, hz2⟩ := I.tuple hq
  have rl := r.length
  have rl2 := r2.length
  have sz : min its.toArray.size its2.toArray.size = bs.length := by rw [List.size_toArray, List.size_toArray]; omega
  refine eq_tupleW pl pl2 (room.mono (Nat.zero_le _)).units0 (fun i s' => Inv X pins σ H s' ∧ (bs.take i).all id = true) ⟨I, rfl⟩ ?_ ?_
  · rintro i w w2 s' hw hw2 ⟨I', none⟩
    rw [List.getElem?_toArray] at hw hw2
    have hi : i < ys.length := by
      obtain ⟨lt, _⟩ := List.getElem?_eq_some_iff.mp hw
      omega
    have hi2 : i < zs.length := by
      obtain ⟨lt, _⟩ := List.getElem?_eq_some_iff.mp hw2
      omega
    obtain ⟨b, hb⟩ : ∃ b, bs[i]? = some b := ⟨_, List.getElem?_eq_getElem (by omega)⟩
    obtain ⟨a, dx, fs, t, ey, e, ty, nf, hs, wt⟩ := all i _ _ b (List.getElem?_eq_getElem hi) (List.getElem?_eq_getElem hi2) hb
    obtain ⟨w', hw', rw'⟩ := r.get (List.getElem?_eq_getElem hi)
    obtain ⟨w2', hw2', rw2'⟩ := r2.get (List.getElem?_eq_getElem hi2)
    obtain rfl : w = w' := Option.some.inj (hw.symm.trans hw')
    obtain rfl : w2 = w2' := Option.some.inj (hw2.symm.trans hw2')
    rw [ey] at rw'
    obtain rfl : w = Value.ref a := rw'
    refine wpAny_mono (eqB_own F room bd ex at_ fn I' rw2' e ty nf hs wt) (fun b' s'' ⟨eb, I''⟩ => ?_) fun _ _ z => z
    subst eb
    have tk : (bs.take (i + 1)).all id = b' := by
      rw [List.take_add_one, hb, List.all_append, none]
      simp
    cases b' with
    | true => exact ⟨I'', tk⟩
    | false =>
      have : bs.all id = false := by
        rw [List.all_eq_false]
        exact ⟨false, List.mem_of_getElem? hb, by simp⟩
      rw [this] at want
      exact ⟨.bl false, H, I'', rfl, want⟩
  · rintro s' ⟨I', none⟩
    rw [sz, List.take_length] at none
    rw [none] at want
    refine ⟨.bl (its.toArray.size == its2.toArray.size), H, I', rfl, ?_⟩
    rw [List.size_toArray, List.size_toArray, ← rl, ← rl2]
    exact want
end
end Ow
set_option Elab.async false
set_option maxRecDepth 100000
set_option autoImplicit false
/-! raise A(..) from B(..), errors with an __init__ of their own -/
namespace Rf
open PySem PySem.Spec PyProof.Rows L2 Er
section
variable {X : Cx} {pins : List (Addr × Obj)} {σ : L2.St} {H : Hp} {s : Shared}
/-- what is new is no frame -/
theorem not_frame (J : Inv X pins σ H s) {a : Addr} (n : s.heap.get? a = none) : a ≠ X.env.locals ∧ a ∉ X.fs := by
  refine ⟨fun z => ?_, fun hb => ?_⟩
  · obtain ⟨m, ⟨o, _, _, e, _⟩, _⟩ := J.loc
    rw [← z, n] at e
    cases e
  · have hb' : a ∈ frs X.stack := by
      rcases J.ok.stk with e | ⟨e, _⟩
      · rw [e]; exact hb
      · rw [e]
        unfold frs at hb ⊢
        rw [List.filterMap_cons]
        split
        · exact hb
        · exact List.mem_cons_of_mem _ hb
    obtain ⟨_, o, e, _⟩ := J.stack.mem hb'
    rw [n] at e
    cases e
/-- a state whose heap holds more, nothing tracked changed -/
theorem inv_more (J : Inv X pins σ H s) {s' : Shared} (more : ∀ b o, s.heap.get? b = some o → s'.heap.get? b = some o) (os : s'.os = s.os) (gs : AllBare s'.gens) : Inv X pins σ H s' := by
  have Z := J.kept (t' := s'.toks) more
  exact ⟨Z.ok, os.trans J.os, gs, Z.base, Z.loc, Z.cell, Z.free, Z.freeC, Z.pin, Z.hok, Z.len⟩
/-- an object that is pinned, let go -/
theorem inv_less {a : Addr} {oe : Obj} (J : Inv X ((a, oe) :: pins) σ H s) (hex : X.ex = []) (new0 : X.s_0.heap.get? a = none) (pa : ∀ p ∈ X.pn ++ pins, p.1 ≠ a) {G : Heap} (same : ∀ b, b ≠ a → G.get? b = s.heap.get? b) : Inv X pins σ H { s with heap := G } := by
  obtain ⟨here, free, nl, nf, nc⟩ := J.pin (a, oe) (List.mem_append_right _ List.mem_cons_self)
  have ne0 : ∀ {b : Addr} {o : Obj}, X.s_0.heap.get? b = some o → b ≠ a := fun {b o} e z => by rw [z, new0] at e; cases e
  have cellOk : ∀ {b : Addr} {v : Option Value}, s.heap.IsCell b v → G.IsCell b v := fun {b v} ⟨o, e, d⟩ => by
    have : b ≠ a := fun z => by
      rw [z] at e
      have e2 : some o = some oe := e.symm.trans here
      cases e2
      exact nc _ d
    exact ⟨o, (same b this).trans e, d⟩
  have U := J.base
  refine ⟨J.ok, J.os, J.bare, ⟨fun b o e n f x => ?_, fun b o e n f x => ?_, U.free, fun b o e x => ?_, U.tups, U.frzs, U.tbls⟩, ?_, fun x c e => ?_, J.free, J.freeC, fun p hp => ?_, fun b o e => ?_, J.len⟩
  · exact (same b (ne0 e)).trans (U.keep b o e n f x)
  · obtain ⟨sl, q⟩ := U.slot b o e n f x
    exact ⟨sl, (same b (ne0 e)).trans q⟩
  · obtain ⟨o', q⟩ := U.there b o e x
    exact ⟨o', (same b (ne0 e)).trans q⟩
  · obtain ⟨m, ⟨o, es, ep, e, r⟩, lk⟩ := J.loc
    refine ⟨m, ⟨o, es, ep, (same _ nl.symm).trans e, r⟩, fun i x v h1 h2 h3 => ?_⟩
    obtain ⟨u, r1, l⟩ := lk i x v h1 h2 h3
    refine ⟨u, r1, ?_⟩
    rcases l with l | ⟨k, c, ec, cl⟩
    · exact .inl l
    · exact .inr ⟨k, c, ec, cellOk cl⟩
  · obtain ⟨v, q⟩ := J.cell x c e
    exact ⟨v, cellOk q⟩
  · have hp' : p ∈ X.pn ++ (a, oe) :: pins := by
      rcases List.mem_append.mp hp with h | h
      · exact List.mem_append_left _ h
      · exact List.mem_append_right _ (List.mem_cons_of_mem _ h)
    obtain ⟨q1, q2⟩ := J.pin p hp'
    exact ⟨(same _ (pa p hp)).trans q1, q2⟩
  · refine (J.hok b o e).stay (fun c v hc y => ?_) (fun _ q => q) (fun _ _ q => q)
    have : c ≠ a := fun z => by
      have fa : H a = none := free
      rcases hc with hc | hc
      · rw [← hc, z, fa] at e; cases e
      · rw [z, fa] at hc; cases hc
    exact (same c this).trans y
/-- an expression that makes an error whose record has its fields -/
def Whole (u : Value) (s' : Shared) : Prop := ∀ (a : Addr) (oe : Obj) (vs : Array Value), u = .ref a → s'.heap.get? a = some oe → oe.data = .fields vs → 4 < vs.size
def PMkW (X : Cx) (e : Expr) (t : L2.St → Hp → XK → Prop) : Prop :=
  ∀ (pins : List (Addr × Obj)) (s : Shared) (σ : L2.St) (H : Hp) (Q : XK), Inv X pins σ H s → t σ H Q → wpAny (model X.prog X.w) X.A (eval e X.env) (fun u s' => MkP X pins σ Q u s' ∧ Whole u s') X.xe s
theorem ps_raiseFrom {W : WX} {e c : Expr} {t1 t2 : L2.St → Hp → XK → Prop} {pos : Pos} (hc : X.calm = true) (hex : X.ex = []) (tk : Takes X W) (he : PMkW X e t1) (hb : PMkW X c t2) :
    PS X (.Raise (some e) (some c) pos) (fun _ σ H => t1 σ H fun cls d H1 => t2 σ H1 fun _ _ H2 => W cls d σ H2) := by
  refine ⟨fun pins s σ H D I want => wpAny_Raise_from (wpAny_mono (he pins s σ H _ I want) (fun u s1 hu => ?_) fun _ _ z => z)⟩
  obtain ⟨⟨a, oe, vs, sI, H1, cls, d, rfl, J1, keep1, new1, at1, zc1, dat1, vs1, free1, os1, gs1, rs1, q1⟩, six1⟩ := hu
  obtain ⟨nl, nf⟩ := not_frame J1 new1
  have J1' := inv_more J1 keep1 os1 gs1
  have P1 : Inv X ((a, oe) :: pins) σ H1 s1 := J1'.pins_of fun p hp => by
    rcases List.mem_cons.mp hp with rfl | hp
    · exact ⟨at1, free1, nl, nf, fun v z => by rw [dat1] at z; cases z⟩
    · exact J1'.pin p (List.mem_append_right _ hp)
  refine wpAny_mono (hb _ s1 σ H1 _ P1 q1) (fun v s2 hv => ?_) fun _ _ z => z
  obtain ⟨⟨b, ob, ws, sJ, H2, cls2, d2, rfl, J2, keep2, new2, at2, zc2, dat2, ws1, free2, os2, gs2, rs2, q2⟩, six2⟩ := hv
  obtain ⟨pa1, pa2, _⟩ := J2.pin (a, oe) (List.mem_append_right _ List.mem_cons_self)
  have atA : s2.heap.get? a = some oe := keep2 _ _ pa1
  have bk : ∀ x o, X.base.get? x = some o → s2.heap.get? x = some o := fun x o z => keep2 _ _ (J2.bk x o z)
  have K0 : X.K.In X.base := I.ok.mod.kin
  have nba : X.base.get? a = none := by
    cases z : X.base.get? a with
    | none => rfl
    | some o => have := J1.bk a o z; rw [new1] at this; cases this
  have nbb : X.base.get? b = none := by
    cases z : X.base.get? b with
    | none => rfl
    | some o => have := J2.bk b o z; rw [new2] at this; cases this
  obtain ⟨l1, l2⟩ := rs1 (model X.prog X.w) X.base K0
  obtain ⟨m1, m2⟩ := rs2 (model X.prog X.w) X.base K0
  have RA : RaiseAt (model X.prog X.w) X.base s2.heap a oe vs cls := ⟨atA, zc1.1, dat1, bk, nba, l1, l2⟩
  have RB : RaiseAt (model X.prog X.w) X.base s2.heap b ob ws cls2 := ⟨at2, zc2.1, dat2, bk, nbb, m1, m2⟩
  have big : 4 < vs.size := six1 a oe vs rfl at1 dat1
  refine raise_from_tree RA big (.inr ⟨b, ob, ws, cls2, rfl, X.base, RB⟩) ?_
  have U3 := RA.set 3 (.ref b)
  have U4 := U3.set 4 (.bool true)
  have one : (((vs.setIfInBounds 3 (.ref b)).setIfInBounds 4 (.bool true)))[1]? = some Value.none := by
    rw [Array.getElem?_setIfInBounds_ne (by decide), Array.getElem?_setIfInBounds_ne (by decide)]
    exact vs1
  refine setFlight_fresh (s := { s2 with heap := _ }) U4.at_ U4.dat one ?_
  refine raiseNew_none' (.inl (I.ok.hd hc)) ?_
  obtain ⟨G, gk, gn⟩ := restrict sJ.heap fun x => decide (x ≠ a)
  have gk' : ∀ x, x ≠ a → G.get? x = sJ.heap.get? x := fun x hx => gk x (decide_eq_true hx)
  have ga : G.get? a = none := gn a (by simp)
  have new0 : X.s_0.heap.get? a = none := by
    cases z : X.s_0.heap.get? a with
    | none => rfl
    | some o =>
      obtain ⟨o', q⟩ := J1.base.there a o z (by rw [hex]; exact List.not_mem_nil)
      rw [new1] at q; cases q
  have L := inv_less J2 hex new0 (fun p hp z => by
    have q := (J1.pin p hp).1
    rw [z, new1] at q; cases q) gk'
  refine tk _ _ (XE.new L (fun x o z => ?_) ga U4.at_ ⟨?_, ?_⟩ U4.dat one pa2 os2 gs2 q2)
  · have nx : x ≠ a := fun y => by
      have z' : G.get? x = some o := z
      rw [y, ga] at z'; cases z'
    have z' : G.get? x = some o := z
    rw [gk' x nx] at z'
    show (((s2.heap.update a _).update a _)).get? x = some o
    rw [Heap.get?_update_other _ _ (Ne.symm nx), Heap.get?_update_other _ _ (Ne.symm nx)]
    exact keep2 _ _ z'
  · rw [Obj.cls_mapFields, Obj.cls_mapFields]; exact zc1.1
  · rw [HandSPX.dict_mapFields, HandSPX.dict_mapFields]; exact zc1.2
end
end Rf
set_option Elab.async false
set_option maxRecDepth 100000
set_option autoImplicit false
/-! an error that is made by a call of its class: its record is whole -/
namespace Rf
open PySem PySem.Spec PyProof.Rows L2 Er
section
variable {X : Cx}
theorem pmkW_own {cx : CXT} {nm : Str} {q1 q2 : Pos} {a0 : Expr} {more : List Expr} {t : TA} {C g : Addr} {lev : Nat} {gd : FuncData} {params : List Str} {sp : Sp} (O : OexC X.K C) (hI : PySem.W.findIn X.K (.ref C) "__init__" = some (some (.ref g)))
    (hT : PySem.W.typeIn X.K (.ref g) = some (.type "function")) (G : FnOk X.prog X.w X.K X.mg X.base cx lev g gd params sp) (rm : Room (lev + 1) X.A) (bd : Binds X.K gd params []) (none_ : Passes cx X (fun _ _ _ => False)) (gl : Gl X nm) (mC : X.mg nm = some (.ref C))
    (args : PA X (a0 :: more) t) (nd : (nm == ("__debug__" : Str)) = false := by decide) (st : starEach (a0 :: more) X.env = (false, eval a0 X.env) :: starEach more X.env := by rfl) (pl : (backTo q2 (starEach more X.env)).any (·.1) = false := by rfl) :
    PMkW X (.Call (.Name nm q1) (a0 :: more) [] q2) (tMkO C sp [] t) := by
  intro pins s σ H Q J want
  obtain ⟨w1, w2, w3, w4, w5, w6, w7, w8, w9, w10, v0, v1, v2, v3, v4, stands, refs⟩ := O.cls
  refine wpAny_Call_Name_kw (ld_glob J gl mC ?_ nd)
  refine PySem.W.callWith_K (h₀ := X.base) J.ok.mod.kin O.kC (thn (args.run q2 pins s σ H _ J want) fun us s1 ⟨vs, H1, J1, rel, few, next⟩ => ⟨J1.kIn, ?_⟩) st pl
  show wpAny _ _ (call (Value.ref C) us) _ _ _
  obtain ⟨heap1, gens1, dr1, tk1, os1⟩ := s1
  have up1 : heap1.objs.size ≤ heap1.objs.size + 1 := Nat.le_succ _
  have free1 : H1 (heap1.objs.size + 1) = none := J1.hok.fresh up1
  have inner := next (heap1.objs.size + 1) free1
  have stays : ∀ b o, heap1.get? b = some o → ((heap1.push (PySem.W.kdv_tup us)).push (PySem.HandSPX.excO C heap1.objs.size)).get? b = some o := fun b o z => Heap.get?_push_of_some _ (Heap.get?_push_of_some _ z)
  have there1 : ((heap1.push (PySem.W.kdv_tup us)).push (PySem.HandSPX.excO C heap1.objs.size)).get? (heap1.objs.size + 1) = some (PySem.HandSPX.excO C heap1.objs.size) := by heap_get
  have J2 : Inv X pins σ (upd H1 (heap1.objs.size + 1) (exo (heap1.objs.size + 1) C none)) ⟨(heap1.push (PySem.W.kdv_tup us)).push (PySem.HandSPX.excO C heap1.objs.size), gens1, dr1, tk1, os1⟩ := J1.laid (t' := tk1) stays up1 (exo_ok there1)
  have rel2 : Vals (V.ref (heap1.objs.size + 1) :: (vs ++ [])) (Value.ref (heap1.objs.size + 1) :: (us ++ [])) := .cons rfl (rel.append .nil)
  have len2 : (Value.ref (heap1.objs.size + 1) :: us ++ []).length = params.length := (rel2.length.symm.trans (G.len _ _ _ _ inner) : _)
  have short : us.length ≤ sizeLine := by
    rw [← Paired.length rel, sizeLine_eq]
    omega
  have bind2 := bd _ (Value.ref (heap1.objs.size + 1) :: us) J2.kIn len2
  rw [List.cons_append] at bind2
  refine wpAny_call (PySem.HandSPX.call_own F.excBase_ValueError (fun Y => PySem.HandSPX.refsVE_contains Y w5 refs) (J1.kIn _ _ stands) (PySem.W.looks_findIn J1.kIn hI) (fun self => PySem.W.bind_fn J1.kIn self hT) short
    (codeAny_mono (G.run _ X.stack _ _ ⟨Value.ref (heap1.objs.size + 1) :: us, []⟩ (Value.ref (heap1.objs.size + 1) :: (us ++ [])) _ _ (fun _ _ _ => False) (rm.make C us []) (J2.env0.make C us []) bind2 rel2 inner) fun res s' got => ?_))
  rcases res with err | fl
  · exact none_ pins σ _ _ err s' J2 got
  cases fl with
  | next => exact got.elim
  | brk => exact got.elim
  | cont => exact got.elim
  | ret u =>
    obtain ⟨v, H2, os2, bare2, un2, hok2, rv, ev, d, fs, ea, ed, hd1, q2⟩ := got
    subst ev
    obtain ⟨heap2, gens2, dr2, tk2, os'⟩ := s'
    obtain ⟨t0, W, K1, kW, gone, rec, na⟩ := mk_end0 (d2 := dr2) (t2 := tk2) J1 up1 stays un2 hok2 os2 bare2 ea ed hd1
    refine ⟨rv, ⟨heap1.objs.size + 1, _, _, ⟨W, gens2, dr2, tk2, os'⟩, _, .ref C, some d, rfl, K1, kW, gone, rec, ⟨rfl, rfl⟩, rfl, rfl, na, rfl, bare2, raises_own O.exC O.tyC, q2⟩, fun a oe ws ea' hg hd => ?_⟩
    cases ea'
    have e : some oe = _ := hg.symm.trans rec
    cases e
    cases hd
    show (4 : Nat) < 6
    decide
end
end Rf
set_option Elab.async false
set_option maxRecDepth 100000
set_option autoImplicit false
/-! raise A(e) from B(e1, e2) -/
namespace Rf
open PySem PySem.Spec PyProof.Rows L2 Er
section
variable {X : Cx}
def tRaise12 (C : Addr) (f : Str) (W : WX) (te t1 t2 : TE) : TS := fun _ σ H => te σ H fun v H1 => ∀ d, H1 d = none → t1 σ (upd H1 d (.xd [(f, v)])) fun _ H2 => t2 σ H2 fun _ H3 => ∀ H4, (∀ b o, H3 b = some o → H4 b = some o) → W (.ref C) (some d) σ H4
theorem ps_raise12 {x y f g1 g2 : Str} {C D fi fj : Addr} {k l : Nat} {fd gd : FuncData} {ps qs : List Str} {e e1 e2 : Expr} {te t1 t2 : TE} {W : WX} {p p' pos pos' pos2 : Pos} (hc : X.calm = true) (hex : X.ex = []) (tk : Takes X W)
    (O : OexC X.K C) (iC : PySem.W.findIn X.K (.ref C) "__init__" = some (some (.ref fi))) (tI : PySem.W.typeIn X.K (.ref fi) = some (.type "function")) (F : FnOk X.prog X.w X.K X.mg X.base CX0 k fi fd ps (spErr1 C f)) (hr : Room (k + 1) X.A) (hb : Binds X.K fd ps []) (hg : Gl X x) (hm : X.mg x = some (.ref C))
    (O2 : OexC X.K D) (iD : PySem.W.findIn X.K (.ref D) "__init__" = some (some (.ref fj))) (tJ : PySem.W.typeIn X.K (.ref fj) = some (.type "function")) (F2 : FnOk X.prog X.w X.K X.mg X.base CX0 l fj gd qs (spErr2 D g1 g2)) (hr2 : Room (l + 1) X.A) (hb2 : Binds X.K gd qs []) (hg2 : Gl X y) (hm2 : X.mg y = some (.ref D))
    (he : PE X e te) (h1 : PE X e1 t1) (h2 : PE X e2 t2) (hdb : (x == ("__debug__" : Str)) = false := by decide) (hdb2 : (y == ("__debug__" : Str)) = false := by decide)
    (hs : starEach [e] X.env = (false, eval e X.env) :: starEach [] X.env := by rfl) (hs1 : starEach [e1, e2] X.env = (false, eval e1 X.env) :: starEach [e2] X.env := by rfl) (hs2 : starEach [e2] X.env = (false, eval e2 X.env) :: starEach [] X.env := by rfl) (pl2 : (backTo pos' (starEach [e2] X.env)).any (·.1) = false := by rfl) :
    PS X (.Raise (some (.Call (.Name x p) [e] [] pos)) (some (.Call (.Name y p') [e1, e2] [] pos')) pos2) (tRaise12 C f W te t1 t2) := by
  have R := ps_raiseFrom (pos := pos2) hc hex tk (pmkW_own (q1 := p) (q2 := pos) O iC tI F hr hb pass0 hg hm (pa_cons (pe_up he) pa_nil hs) hdb hs) (pmkW_own (q1 := p') (q2 := pos') O2 iD tJ F2 hr2 hb2 pass0 hg2 hm2 (pa_cons (pe_up h1) (pa_cons (pe_up h2) pa_nil hs2) hs1) hdb2 hs1 pl2)
  refine ⟨fun pins s σ H D' I h => R.run pins s σ H D' I ?_⟩
  refine ⟨_, h, fun v H1 q => ⟨by show 1 ≤ 1000; decide, fun a na => ⟨a, v, rfl, upd_same, fun d nd ne => ⟨rfl, d, [(f, v)], upd_same, ?_, ?_, ?_⟩⟩⟩⟩
  · rw [upd_ne ne, upd_same]
  · rw [upd_ne ne] at nd; exact nd
  · rw [upd_ne ne] at nd
    rw [left1 na]
    refine ⟨_, q d nd, fun v1 H2 q1 => ⟨_, q1, fun v2 H3 q2 => ⟨by show 2 ≤ 1000; decide, fun b nb => ⟨b, v1, v2, rfl, upd_same, fun d2 nd2 ne2 => ⟨rfl, d2, [(g2, v2), (g1, v1)], ?_, upd_same, ?_, ?_⟩⟩⟩⟩⟩
    · rw [upd_ne (Ne.symm ne2), upd_same]
    · rw [upd_ne ne2] at nd2; exact nd2
    · rw [upd_ne ne2] at nd2
      refine q2 _ fun c o e => ?_
      have c1 : c ≠ d2 := fun z => by rw [z, nd2] at e; cases e
      have c2 : c ≠ b := fun z => by rw [z, nb] at e; cases e
      rw [upd_ne c1, del_ne c2, upd_ne c1, upd_ne c2, upd_ne c1, upd_ne c2]
      exact e
end
end Rf
set_option Elab.async false
set_option maxRecDepth 100000
set_option autoImplicit false
set_option pp.maxSteps 400
set_option pp.deepTerms false
/-! rules in a book; is_rule_of -/
namespace Kx
open PySem L2 PySem.Spec PyProof.Rows Rg Er Ru Tn
abbrev sIsRule : Stmt := top 33
abbrev sBInit : Stmt := inClass (top 32) 1
abbrev RD : Type := Str × Str × Bool × Bool
def RlD (C : Addr) (H : Hp) (a : Addr) (d : RD) : Prop := Rl C H a d.1 d.2.1 d.2.2.1 d.2.2.2 ∧ d.1.length ≤ 4 ∧ d.2.1.length ≤ 4
theorem RlD.same {C a : Addr} {H H' : Hp} {d : RD} (h : RlD C H a d) (e : Same H H') : RlD C H' a d := ⟨h.1.same e, h.2⟩
theorem RlD.inj {C a : Addr} {H : Hp} {d e : RD} (h : RlD C H a d) (k : RlD C H a e) : d = e := by
  obtain ⟨⟨dx, h1⟩, _⟩ := h
  obtain ⟨⟨dy, k1⟩, _⟩ := k
  obtain ⟨d1, d2, d3, d4⟩ := d
  obtain ⟨e1, e2, e3, e4⟩ := e
  dsimp only at h1 k1
  rw [h1] at k1
  obtain ⟨a1, a2, a3, a4⟩ := rf_lookups (.str d1) (.str d2) (.bl d3) (.bl d4)
  obtain ⟨b1, b2, b3, b4⟩ := rf_lookups (.str e1) (.str e2) (.bl e3) (.bl e4)
  have k2 : rf (.str d1) (.str d2) (.bl d3) (.bl d4) = rf (.str e1) (.str e2) (.bl e3) (.bl e4) := by
    have := Option.some.inj k1
    injection this
  rw [k2] at a1 a2 a3 a4
  have z1 := V.str.inj (Option.some.inj (a1.symm.trans b1))
  have z2 := V.str.inj (Option.some.inj (a2.symm.trans b2))
  have z3 := V.bl.inj (Option.some.inj (a3.symm.trans b3))
  have z4 := V.bl.inj (Option.some.inj (a4.symm.trans b4))
  rw [z1, z2, z3, z4]
/-- an entry of a book: a rule, or none -/
def EntR (K : PySem.W.Frag) (C : Addr) (H : Hp) (v : V) (o : Option RD) : Prop := (∃ a d, v = .ref a ∧ RlD C H a d ∧ o = some d) ∨ (o = none ∧ ∀ H', Same H H' → ∃ t, TyX K H' v t ∧ PySem.W.kitOne K t (.ref C) = some false)
theorem EntR.same {K : PySem.W.Frag} {C : Addr} {H H' : Hp} {v : V} {o : Option RD} (h : EntR K C H v o) (e : Same H H') : EntR K C H' v o := by
  rcases h with ⟨a, d, rfl, r, rfl⟩ | ⟨rfl, q⟩
  · exact .inl ⟨a, d, rfl, r.same e, rfl⟩
  · exact .inr ⟨rfl, fun H2 s => q H2 (Same.trans e s)⟩
def EntsR (K : PySem.W.Frag) (C : Addr) (H : Hp) (ys : List V) (os : List (Option RD)) : Prop := ys.length = os.length ∧ ∀ (i : Nat) (o : Option RD), os[i]? = some o → ∃ v, ys[i]? = some v ∧ EntR K C H v o
theorem EntsR.same {K : PySem.W.Frag} {C : Addr} {H H' : Hp} {ys : List V} {os : List (Option RD)} (h : EntsR K C H ys os) (e : Same H H') : EntsR K C H' ys os := ⟨h.1, fun i o q => let ⟨v, a, b⟩ := h.2 i o q; ⟨v, a, b.same e⟩⟩
def inCs (es : List (Nat × Int)) (d : RD) : Bool := (d.1 ++ d.2.1).cps.toList.all fun c => decide (c ∈ es.map (·.1))
theorem not_word {z w : Str} (h : ¬ Word z w) : Txt.lstripChars w z ≠ Str.empty := by
  intro e
  have el : w.cps.toList.length = w.length := by simp [Str.length]
  have lo : stripLo z.cps.contains true w = (w.cps.toList.takeWhile z.cps.contains).length := by unfold stripLo; simp
  have hi : ∀ k, stripHi z.cps.contains false w k = w.length := fun k => rfl
  have le : (w.cps.toList.takeWhile z.cps.contains).length ≤ w.length := by rw [← el]; exact (List.takeWhile_sublist _).length_le
  have lt : (w.cps.toList.takeWhile z.cps.contains).length < w.length := by
    rcases Nat.lt_or_ge (w.cps.toList.takeWhile z.cps.contains).length w.length with q | q
    · exact q
    · exfalso
      refine h fun c hc => ?_
      have all : w.cps.toList.takeWhile z.cps.contains = w.cps.toList := (List.takeWhile_prefix _).eq_of_length (by omega)
      rw [← all] at hc
      have := List.all_eq_true.mp List.all_takeWhile c hc
      simpa using this
  have e' : Txt.stripBy z.cps.contains true false w = Str.empty := e
  unfold Txt.stripBy stripSame stripped at e'
  rw [lo, hi] at e'
  split at e'
  · have : w.length = 0 := by rw [e']; rfl
    omega
  · have := congrArg Str.length e'
    have e2 : (Builtin.Str.strSub w (w.cps.toList.takeWhile z.cps.contains).length w.length).length = w.length - (w.cps.toList.takeWhile z.cps.contains).length := by
      show (w.cps.extract _ _).size = _
      rw [Array.size_extract]
      show min w.length w.cps.size - _ = _
      rw [show w.cps.size = w.length from rfl, Nat.min_self]
    have e0 : Str.empty.length = 0 := rfl
    rw [e2] at this
    omega
theorem lstrip_len (w z : Str) : (Txt.lstripChars w z).length ≤ w.length := by
  show (Txt.stripBy z.cps.contains true false w).length ≤ _
  unfold Txt.stripBy stripSame stripped
  split
  · exact Nat.le_refl _
  · show (w.cps.extract _ _).size ≤ w.cps.size
    rw [Array.size_extract]
    omega
theorem inCs_word {es : List (Nat × Int)} {d : RD} : inCs es d = true ↔ Word (letters es) (d.1 ++ d.2.1) := by
  unfold inCs Word letters
  rw [List.all_eq_true, List.toList_toArray]
  simp only [decide_eq_true_eq]
def spIsRule (K : PySem.W.Frag) (CW C : Addr) : Sp := fun vs H Q _ => ∃ (q : Addr) (xs : List V) (es : List (Nat × Int)) (v : V) (o : Option RD), vs = [.ref q, v] ∧ Wts CW H q es xs ∧ EntR K C H v o ∧
  Q (.bl (match o with | some d => inCs es d | none => false)) H
section
variable {P : Program} {w : World} {K : PySem.W.Frag} {mg : Str → Option Value} {base : Heap}
theorem scIsRule : FnScope ["weights", "value"] ["weights", "value"] (defScope sIsRule) := ⟨rfl, rfl, rfl, by decide +kernel, rfl, by decide +kernel, by decide +kernel⟩
theorem ok_isRule {CW C f f1 ps_ gs : Addr} {fd fd1 fds : FuncData} (F : L2.Fun K "is_rule_of" "is_rule_of" sIsRule f fd) (T : Txt mg) (M : WT K CW) (MR : RT K mg C) (I : InsT K C) (rk : PySem.W.kitOne K (.ref C) (.ref C) = some true)
    (G1 : FnOk P w K mg base CX0 1 f1 fd1 ["signs", "value"] spWrong) (G1B : FnOk P w K mg base CX0 1 f1 fd1 ["signs", "value"] (spWrongB K)) (m1 : mg "wrong_at" = some (.ref f1)) (k1 : PySem.W.keepIn K (.ref f1) = true) (b1 : L2.Binds K fd1 ["signs", "value"] [])
    (po : PropOf K CW "signs" ps_ gs) (GS : FnOk P w K mg base CX0 1 gs fds ["self"] (getSp CW "_signs")) (bS : L2.Binds K fds ["self"] []) : FnOk P w K mg base CX0 3 f fd ["weights", "value"] (spIsRule K CW C) := by
  refine F.ok scIsRule (fun vs H Q E h => ?_) (fun cdv A outer s H vs Q E hr h => ?_)
  · obtain ⟨q, xs, es, v, o, rfl, _⟩ := h
    rfl
  · obtain ⟨q, xs, es, v, o, rfl, ⟨dw, p, hq, hp, pd⟩, ent, k⟩ := h
    have hr1 := hr.mono (show 1 ≤ 2 by decide)
    by_cases good : ∃ d, o = some d ∧ inCs es d = false
    · refine ⟨_, pss_one (ps_ret (pe_and (bIsi (by rfl) T.isi (pv 1) (pe_glob (v := .ref C) (by rfl) MR.mgC rfl)) (pe_one (pe_cmp (pc_isN (pe_call G1B hr1 (by rfl) m1 k1 b1 .nil pass0 (pa_cons (pe_prop (pv 0) M.cl po GS hr bS .nil pass0 rfl) (pa_cons (pe_op op_add_str (pe_fld (pv 1) rfl) (pe_fld (pv 1) rfl)) pa_nil)))))))), ?_⟩
      obtain ⟨d, rfl, bad⟩ := good
      rcases ent with ⟨a, d', rfl, ⟨⟨dx, ha⟩, l4, n4⟩, e⟩ | ⟨z, _⟩
      · cases e
        obtain ⟨e1, e2, _, _⟩ := rf_lookups (.str d.1) (.str d.2.1) (.bl d.2.2.1) (.bl d.2.2.2)
        have len := Str.length_append d.1 d.2.1
        have nw : ¬ Word (letters es) (d.1 ++ d.2.1) := fun z => by rw [inCs_word.mpr z] at bad; cases bad
        refine ⟨_, rfl, .ref a, .ref C, _, _, true, rfl, .own C, I.ty ha, rk, true, rfl, iteT ?_⟩
        refine ⟨_, rfl, q, dw, _, rfl, hq, q, dw, _, _, rfl, hq, wf_signs _ _, ?_⟩
        refine ⟨_, rfl, a, C, dx, _, _, rfl, ha, MR.cl, MR.n1, e1, _, rfl, a, C, dx, _, _, rfl, ha, MR.cl, MR.n2, e2, _, _, rfl, rfl, by rw [sizeLine_eq]; omega, ?_⟩
        refine ⟨_, _, _, rfl, .inl ⟨_, rfl, by omega, not_word nw, Nat.le_trans (lstrip_len _ _) (by omega), rfl⟩, ?_⟩
        dsimp only at k
        rw [bad] at k
        exact k
      · cases z
    · refine ⟨_, pss_one (ps_ret (pe_and (bIsi (by rfl) T.isi (pv 1) (pe_glob (v := .ref C) (by rfl) MR.mgC rfl)) (pe_one (pe_cmp (pc_isN (pe_call G1 hr1 (by rfl) m1 k1 b1 .nil pass0 (pa_cons (pe_prop (pv 0) M.cl po GS hr bS .nil pass0 rfl) (pa_cons (pe_op op_add_str (pe_fld (pv 1) rfl) (pe_fld (pv 1) rfl)) pa_nil)))))))), ?_⟩
      rcases ent with ⟨a, d, rfl, ⟨⟨dx, ha⟩, l4, n4⟩, rfl⟩ | ⟨rfl, q'⟩
      · obtain ⟨e1, e2, _, _⟩ := rf_lookups (.str d.1) (.str d.2.1) (.bl d.2.2.1) (.bl d.2.2.2)
        have len := Str.length_append d.1 d.2.1
        have ok : inCs es d = true := by
          cases z : inCs es d with
          | true => rfl
          | false => exact absurd ⟨d, rfl, z⟩ good
        refine ⟨_, rfl, .ref a, .ref C, _, _, true, rfl, .own C, I.ty ha, rk, true, rfl, iteT ?_⟩
        refine ⟨_, rfl, q, dw, _, rfl, hq, q, dw, _, _, rfl, hq, wf_signs _ _, ?_⟩
        refine ⟨_, rfl, a, C, dx, _, _, rfl, ha, MR.cl, MR.n1, e1, _, rfl, a, C, dx, _, _, rfl, ha, MR.cl, MR.n2, e2, _, _, rfl, rfl, by rw [sizeLine_eq]; omega, ?_⟩
        refine ⟨_, _, rfl, inCs_word.mp ok, by omega, ?_⟩
        dsimp only at k
        rw [ok] at k
        exact k
      · obtain ⟨t, ty, no⟩ := q' H (Same.refl H)
        exact ⟨_, rfl, v, .ref C, _, _, false, rfl, .own C, ty, no, false, rfl, iteF k⟩
end
end Kx
set_option Elab.async false
set_option maxRecDepth 100000
set_option autoImplicit false
set_option pp.maxSteps 400
set_option pp.deepTerms false
/-! Book.__init__ -/
namespace Kx
open PySem L2 PySem.Spec PyProof.Rows Rg Er Ru Tn
theorem h12b : ¬ (("weights" : Str) = "rules") := by decide +kernel
def bf1 (w : Addr) : List (Str × V) := putF "weights" (.ref w) []
def bf (w r : Addr) : List (Str × V) := putF "rules" (.ref r) (bf1 w)
theorem bf_weights (w r : Addr) : (bf w r).lookup ("weights" : Str) = some (.ref w) := by
  unfold bf bf1
  rw [lookup_putF, if_neg h12b, lookup_putF, if_pos rfl]
theorem bf_rules (w r : Addr) : (bf w r).lookup ("rules" : Str) = some (.ref r) := by
  unfold bf
  rw [lookup_putF, if_pos rfl]
structure BT (K : PySem.W.Frag) (C : Addr) : Prop where
  cl : Cls K C
  n1 : NoAttr K C "weights"
  n2 : NoAttr K C "rules"
  rd : ClX.CRead K C (.type "type")
  most : ∃ tk, ClX.CVal K C (.type "type") "MOST" (.int 8) (.int 8 tk)
/-- the first entry that is refused -/
def firstBad (es : List (Nat × Int)) : Nat → List RD → List (Option RD) → Option Nat
  | _, _, [] => none
  | i, _, none :: _ => some i
  | i, seen, some d :: r => if inCs es d = false ∨ d ∈ seen then some i else firstBad es (i + 1) (seen ++ [d]) r
def wtR (es : List (Nat × Int)) (z : Str) : Int := wtC es z.cps.toList
def firstHeavy (es : List (Nat × Int)) : Nat → List RD → Option Nat
  | _, [] => none
  | i, d :: r => if wtR es d.1 ≤ wtR es d.2.1 then some i else firstHeavy es (i + 1) r
/-- an error from another one -/
def raisedF (C : Addr) (f : Str) (v : V) (E : XK) (H : Hp) : Prop := ∀ d H', H d = none → H' d = some (.xd [(f, v)]) → Same H H' → E (.ref C) (some d) H'
structure ErrB2 (P : Program) (w : World) (K : PySem.W.Frag) (mg : Str → Option Value) (base : Heap) (x f g : Str) (C : Addr) : Prop where
  O : OexC K C
  mgC : mg x = some (.ref C)
  init : ∃ fi fd ps, PySem.W.findIn K (.ref C) "__init__" = some (some (.ref fi)) ∧ PySem.W.typeIn K (.ref fi) = some (.type "function") ∧ FnOk P w K mg base CX0 1 fi fd ps (spErr2 C f g) ∧ L2.Binds K fd ps []
def spBInit (K : PySem.W.Frag) (C CW CR CB CH : Addr) : Sp := fun vs H Q E => ∃ (a dx p : Addr) (wv : V) (ys : List V), vs = [.ref a, wv, .ref p] ∧ H a = some (.ins C dx []) ∧ H p = some (.tup ys) ∧ ys.length ≤ 1000 ∧
  (((∃ t, TyX K H wv t ∧ PySem.W.kitOne K t (.ref CW) = some false) ∧ raised CB "at" .non E H) ∨
   ∃ (q : Addr) (xs : List V) (es : List (Nat × Int)) (os : List (Option RD)), wv = .ref q ∧ Wts CW H q es xs ∧ es.length ≤ 4 ∧ EntsR K CR H ys os ∧
    (8 < ys.length → raised CB "at" .non E H) ∧
    (ys.length ≤ 8 → match firstBad es 0 [] os with
      | some i => ∀ H', Same H H' → raised CB "at" (.int (i : Nat)) E H'
      | none => ∀ rs : List RD, os = rs.map some → match firstHeavy es 0 rs with
        | some i => ∀ H', Same H H' → raisedF CH "at" (.int (i : Nat)) E H'
        | none => ∀ H', Ext1 a H H' → H' a = some (.ins C dx (bf q p)) → Q .non H'))
theorem lenD {d e : RD} : decide (d = e) = (decide (d.1 = e.1) && decide (d.2.1 = e.2.1) && decide (d.2.2.1 = e.2.2.1) && decide (d.2.2.2 = e.2.2.2)) := by
  obtain ⟨a, b, c, f⟩ := d
  obtain ⟨a', b', c', f'⟩ := e
  rw [Bool.eq_iff_iff]
  simp [Prod.ext_iff, and_assoc]
/-- what == of two rules asks -/
theorem own_item {K : PySem.W.Frag} {C a b : Addr} {H : Hp} {d e : RD} (I : InsT K C) (ha : RlD C H a d) (hb : RlD C H b e) : Ow.OwnItem K C (spREq K C) E0 H (.ref a) (.ref b) (decide (d = e)) := by
  have ha' := ha
  have hb' := hb
  obtain ⟨⟨dx, h1⟩, _⟩ := ha'
  obtain ⟨⟨dy, h2⟩, _⟩ := hb'
  refine ⟨a, dx, _, .ref C, rfl, h1, I.ty h2, by simp [PySem.W.notFirst], fun z => ?_, fun P p => ?_⟩
  · have z' : b = a := V.ref.inj z
    subst z'
    rw [ha.inj hb]
    exact decide_eq_true rfl
  · rw [lenD] at p
    exact ⟨a, .ref b, _, _, _, _, rfl, ha.1, .inl ⟨b, _, _, _, _, rfl, hb.1, p⟩⟩
theorem own_other {K : PySem.W.Frag} {C a : Addr} {H : Hp} {d : RD} {x t : _} (ha : RlD C H a d) (ty : TyX K H x t) (no : PySem.W.kitOne K t (.ref C) = some false) (nf : PySem.W.notFirst K C t = true) (ne : x ≠ .ref a) : Ow.OwnItem K C (spREq K C) E0 H (.ref a) x false := by
  have ha' := ha
  obtain ⟨⟨dx, h1⟩, _⟩ := ha'
  exact ⟨a, dx, _, t, rfl, h1, ty, nf, fun z => absurd z ne, fun P p => ⟨a, x, _, _, _, _, rfl, ha.1, .inr ⟨⟨t, ty, no⟩, p⟩⟩⟩
section
variable {P : Program} {w : World} {K : PySem.W.Frag} {mg : Str → Option Value} {base : Heap}
abbrev nBInit : List Str := ["self", "weights", "rules", "at", "rule", "old", "new"]
theorem scBInit : FnScope nBInit ["self", "weights", "rules"] (defScope sBInit) := ⟨rfl, rfl, rfl, by decide +kernel, rfl, by decide +kernel, by decide +kernel⟩
set_option maxHeartbeats 0 in
theorem ok_bInit {C CW CR CB CH CU f f1 f2 fe : Addr} {fd fd1 fd2 fde : FuncData} (F : L2.Fun K "__init__" "Book.__init__" sBInit f fd) (T : Txt mg) (M : BT K C) (MW : WT K CW) (MR : RT K mg CR) (IW : InsT K CW) (IR : InsT K CR) (wk : PySem.W.kitOne K (.ref CW) (.ref CW) = some true)
    (mE : mg "enumerate" = none) (mW : mg "Weights" = some (.ref CW)) (mB : mg "Book" = some (.ref C)) (EB : ErrB P w K mg base "BadBook" "at" CB) (EH : ErrB P w K mg base "Heavier" "at" CH) (EU : ErrB2 P w K mg base "Unlessened" "old" "new" CU)
    (G1 : FnOk P w K mg base CX0 3 f1 fd1 ["weights", "value"] (spIsRule K CW CR)) (m1 : mg "is_rule_of" = some (.ref f1)) (k1 : PySem.W.keepIn K (.ref f1) = true) (b1 : L2.Binds K fd1 ["weights", "value"] [])
    (G2 : FnOk P w K mg base CX0 1 f2 fd2 ["pairs", "row"] spWeigh) (m2 : mg "weigh" = some (.ref f2)) (k2 : PySem.W.keepIn K (.ref f2) = true) (b2 : L2.Binds K fd2 ["pairs", "row"] [])
    (Fe : FnOk P w K mg base CX0 1 fe fde ["self", "other"] (spREq K CR)) (be : L2.Binds K fde ["self", "other"] []) (ae : PySem.W.findIn K (.ref CR) "__eq__" = some (some (.ref fe))) (ne_ : PySem.W.isFn K (.ref fe) = true) :
    FnR P w K mg base (L2.CX P w) 4 f (spStar 2 (spBInit K C CW CR CB CH)) := by
  obtain ⟨fi, fdi, psi, r1, r2, r3, r4⟩ := EB.init
  obtain ⟨fj, fdj, psj, j1, j2, j3, j4⟩ := EH.init
  obtain ⟨fl, fdl, psl, l1, l2, l3, l4⟩ := EU.init
  obtain ⟨tkm, most⟩ := M.most
  refine starOkX (N := nBInit) (ps := ["self", "weights"]) (pv := "rules") (sp := spBInit K C CW CR CB CH) F scBInit (fun kV doc pm an cdv ct => StX.bind_star2 (B := fun us => bindArgs (PySem.W.fnOf "__init__" "Book.__init__" (defArgs sBInit) (defBody sBInit) (defScope sBInit) .none kV doc pm an cdv ct) ⟨us, []⟩) (fun a b => rfl) (fun a b r rs => rfl)) (fun cdv A outer s H vs Q E hr h => ?_)
  obtain ⟨a, dx, p, wv, ys, rfl, ha, hp, yl, how⟩ := h
  have nd := scBInit.nd
  have hr2 := hr.mono (show 1 + 1 ≤ 3 by decide)
  have hr1 := hr.mono (show 1 ≤ 3 by decide)
  have tk := takes_of (X := cxOf (L2.CX P w) P w K mg base nBInit "Book.__init__" (defScope sBInit) f cdv A outer s H E) rfl rfl rfl rfl
  refine ⟨_, pss_cons (ps_if (PW.pt (pw_or (pt_not (pt_val (bIsi (by rfl) T.isi (pv 1) (pe_glob (v := .ref CW) (by rfl) mW rfl)))) (pw_or1 (pt_cmpR op_gt (bLen (by rfl) T.len (pv 2)) (ClX.pe_cval (pe_glob (v := .ref C) (by rfl) mB rfl)) (nomark _))))) (pss_one (ps_raise1 rfl tk EB.O r1 r2 r3 hr2 r4 (by rfl) EB.mgC pe_non)) pss_nil)
    (pss_cons (ps_for (passes_of (K := fun e s'' => L2.CX P w outer H s E e s'') rfl) rfl (pi_enumT (by rfl) mE (pa_cons (pv 2) pa_nil)) (pg_tup rfl (pgs_cons (pg_name (i := 3) nd rfl (.inl rfl)) (pgs_cons (pg_name (i := 4) nd rfl (.inl rfl)) pgs_nil)))
      (pss_one (ps_if (PW.pt (pw_or (pt_not (pt_val (pe_call G1 hr (by rfl) m1 k1 b1 .nil pass0 (pa_cons (pv 1) (pa_cons (pv 4) pa_nil))))) (pw_or1 (pt_cmpR (Ow.op_inOwn Fe hr2 be pass0 ae ne_) (pv 4) (pe_slice sl_tup (pv 2) po_none (po_some (pv 3))) rfl)))) (pss_one (ps_raise1 rfl tk EB.O r1 r2 r3 hr2 r4 (by rfl) EB.mgC (pv 3))) pss_nil)))
    (pss_cons (ps_for (passes_of (K := fun e s'' => L2.CX P w outer H s E e s'') rfl) rfl (pi_enumT (by rfl) mE (pa_cons (pv 2) pa_nil)) (pg_tup rfl (pgs_cons (pg_name (i := 3) nd rfl (.inl rfl)) (pgs_cons (pg_name (i := 4) nd rfl (.inl rfl)) pgs_nil)))
      (pss_cons (ps_set (i := 5) nd rfl (.inl rfl) (pe_call G2 hr1 (by rfl) m2 k2 b2 .nil pass0 (pa_cons (pe_fld (pv 1) rfl) (pa_cons (pe_fld (pv 4) rfl) pa_nil))))
      (pss_cons (ps_set (i := 6) nd rfl (.inl rfl) (pe_call G2 hr1 (by rfl) m2 k2 b2 .nil pass0 (pa_cons (pe_fld (pv 1) rfl) (pa_cons (pe_fld (pv 4) rfl) pa_nil))))
      (pss_one (ps_if (pt_cmpR op_le (pv 5) (pv 6) (nomark _)) (pss_one (Rf.ps_raise12 rfl rfl tk EH.O j1 j2 j3 hr2 j4 (by rfl) EH.mgC EU.O l1 l2 l3 hr2 l4 (by rfl) EU.mgC (pv 3) (pv 5) (pv 6))) pss_nil)))))
    (pss_cons (ps_fld (pv 0) (pv 1) rfl) (pss_one (ps_fld (pv 0) (pv 2) rfl))))), ?_⟩
  rcases how with ⟨⟨t, ty, no⟩, bad⟩ | ⟨q, xs, es, os, rfl, wts, e4, ents, many, good⟩
  · exact ⟨_, rfl, wv, .ref CW, _, _, false, rfl, .own CW, ty, no, false, rfl, iteT (iteT bad)⟩
  · have wts' := wts
    obtain ⟨dw, pw, hw1, hw2, hw3⟩ := wts'
    have eb := ents.1
    refine ⟨_, rfl, .ref q, .ref CW, _, _, true, rfl, .own CW, IW.ty hw1, wk, true, rfl, iteF ?_⟩
    refine ⟨_, rfl, _, ys.length, rfl, .inr ⟨_, SqT.of hp, rfl⟩, C, .type "type", _, _, rfl, M.rd, most, (ys.length : Int), 8, rfl, rfl, _, rfl, ?_⟩
    by_cases many8 : 8 < ys.length
    · rw [decide_eq_true (show (ys.length : Int) > 8 by omega)]
      exact iteT (many many8)
    · rw [decide_eq_false (show ¬ (ys.length : Int) > 8 by omega)]
      refine iteF ?_
      replace good := good (by omega)
      clear many
      refine ⟨_, rfl, p, ys, rfl, SqT.of hp, ?_⟩
      refine for_it walk_enumT (fun j σ' G => ∃ y3 y4 y5 y6, σ' = [some (.ref a), some (.ref q), some (.ref p), y3, y4, y5, y6] ∧ Same H G ∧ ∃ seen : List RD, os.take j = seen.map some ∧ firstBad es 0 [] os = firstBad es j seen (os.drop j))
        ⟨_, _, _, _, rfl, Same.refl H, [], rfl, rfl⟩ (fun j σ' G _ y => by obtain ⟨_, _, _, _, _, s, _⟩ := y; exact SqT.of (s _ _ hp)) ?_ ?_
      · rintro j x σ' G G2 hj ⟨y3, y4, y5, y6, rfl, s1, seen, et, fb⟩ ⟨Tt, vx, vy, rfl, hT, rfl, ex, ey⟩
        have ex' : vx = .int (j : Int) := (Option.some.inj ex).symm
        subst ex'
        have hjo : j < os.length := by omega
        have sl : seen.length = j := by
          have := congrArg List.length et
          simp at this; omega
        refine ⟨Tt, _, rfl, SqT.of upd_same, rfl, _, _, rfl, _, _, rfl, rfl, ?_⟩
        have s2 := Same.trans s1 (Same.new (o := .tup [.int (j : Int), vy]) hT)
        generalize upd G Tt (.tup [.int (j : Int), vy]) = G2 at s2 ⊢
        clear hT s1
        obtain ⟨o, ho⟩ : ∃ o, os[j]? = some o := ⟨_, List.getElem?_eq_getElem hjo⟩
        obtain ⟨v', ev', ent⟩ := ents.2 j o ho
        obtain rfl : vy = v' := Option.some.inj (ey.symm.trans ev')
        have dr : os.drop j = o :: os.drop (j + 1) := by
          rw [List.drop_eq_getElem_cons hjo]
          congr 1
          rw [List.getElem?_eq_getElem hjo] at ho
          exact Option.some.inj ho
        rw [dr] at fb
        refine ⟨_, rfl, _, rfl, q, xs, es, vy, o, rfl, ?_, ent.same s2, ?_⟩
        · exact ⟨dw, pw, s2 _ _ hw1, s2 _ _ hw2, hw3.mono fun _ _ _ h => h.same s2⟩
        have bad : ∀ i : Nat, i = j → firstBad es 0 [] os = some j → ∀ H', Same H H' → raised CB "at" (.int (i : Int)) E H' := fun i e z => by
          rw [z] at good
          rw [e]
          exact good
        cases o with
        | none =>
          have z : firstBad es 0 [] os = some j := fb
          exact ⟨_, rfl, iteT (iteT ⟨_, rfl, bad j rfl z _ s2⟩)⟩
        | some d =>
          dsimp only
          cases ic : inCs es d with
          | false =>
            have z : firstBad es 0 [] os = some j := by rw [fb]; unfold firstBad; rw [if_pos (.inl ic)]
            exact ⟨_, rfl, iteT (iteT ⟨_, rfl, bad j rfl z _ s2⟩)⟩
          | true =>
            refine ⟨_, rfl, iteF ?_⟩
            have hp2 := s2 _ _ hp
            refine ⟨_, rfl, _, rfl, _, rfl, (j : Int), rfl, p, ys, rfl, SqT.of hp2, ?_, fun S hS => ?_⟩
            · rw [HT.sIx_nat]
              rintro ⟨_, z⟩
              have : j < ys.length := hj
              omega
            have cut : cutV ys none (some (j : Int)) = ys.take j := by
              unfold cutV
              rw [show HT.sIx ys.length 0 none = 0 from rfl, HT.sIx_nat, List.drop_zero, Nat.sub_zero, Nat.min_eq_left (Nat.le_of_lt hj)]
            rw [cut]
            have s3 := Same.trans s2 (Same.new (o := .tup (ys.take j)) hS)
            have eS : upd G2 S (.tup (ys.take j)) S = some (.tup (ys.take j)) := upd_same
            generalize upd G2 S (.tup (ys.take j)) = G3 at s3 eS ⊢
            have rlx : ∃ ax, vy = .ref ax ∧ RlD CR G3 ax d := by
              rcases ent.same s3 with ⟨ax, d', e1, r, e2⟩ | ⟨z, _⟩
              · cases e2; exact ⟨ax, e1, r⟩
              · cases z
            obtain ⟨ax, rfl, rx⟩ := rlx
            refine ⟨S, ys.take j, seen.map (fun s => decide (s = d)), rfl, SqT.of eS, by rw [List.length_map, sl, List.length_take]; omega, fun i y b hy hb => ?_, ?_⟩
            · have hi : i < j := by
                obtain ⟨lt, _⟩ := List.getElem?_eq_some_iff.mp hb
                rw [List.length_map] at lt; omega
              rw [List.getElem?_take_of_lt hi] at hy
              rw [List.getElem?_map] at hb
              obtain ⟨sd, hsd, rfl⟩ := Option.map_eq_some_iff.mp hb
              have os_i : os[i]? = some (some sd) := by
                rw [← List.getElem?_take_of_lt hi, et, List.getElem?_map, hsd]; rfl
              obtain ⟨v2, ev2, ent2⟩ := ents.2 i _ os_i
              obtain rfl : y = v2 := Option.some.inj (hy.symm.trans ev2)
              rcases ent2.same s3 with ⟨a2, d2, rfl, r2, e2⟩ | ⟨z, _⟩
              · cases e2
                exact own_item IR r2 rx
              · cases z
            · have any : (seen.map (fun s => decide (s = d))).any id = decide (d ∈ seen) := by
                rw [Bool.eq_iff_iff, List.any_map, List.any_eq_true, decide_eq_true_iff]
                constructor
                · rintro ⟨x, hx, e⟩
                  have : x = d := of_decide_eq_true e
                  rw [← this]; exact hx
                · intro h
                  exact ⟨d, h, decide_eq_true rfl⟩
              rw [any]
              refine ⟨_, rfl, ?_⟩
              by_cases dup : d ∈ seen
              · rw [decide_eq_true dup]
                have z : firstBad es 0 [] os = some j := by rw [fb]; unfold firstBad; rw [if_pos (.inr dup)]
                exact iteT ⟨_, rfl, bad j rfl z _ s3⟩
              · rw [decide_eq_false dup]
                refine iteF ⟨_, _, _, _, rfl, s3, seen ++ [d], ?_, ?_⟩
                · rw [List.take_add_one, et, ho, List.map_append]; rfl
                · rw [fb]
                  show (if _ then _ else _) = _
                  rw [if_neg]
                  rintro (z | z)
                  · rw [ic] at z; cases z
                  · exact dup z
      · rintro σ' G ⟨y3, y4, y5, y6, rfl, s1, rs, et, fb⟩
        have full : os = rs.map some := by rw [← et, List.take_of_length_le (by omega)]
        have z : firstBad es 0 [] os = none := by
          rw [fb, List.drop_of_length_le (by omega)]; rfl
        rw [z] at good
        replace good := good rs full
        have rl : rs.length = ys.length := by rw [eb, full, List.length_map]
        have at_ : ∀ (j : Nat) (d : RD) (G' : Hp), Same H G' → rs[j]? = some d → ∃ ax, ys[j]? = some (.ref ax) ∧ RlD CR G' ax d := fun j d G' s h => by
          have : os[j]? = some (some d) := by rw [full, List.getElem?_map, h]; rfl
          obtain ⟨v, ev, ent⟩ := ents.2 j _ this
          rcases ent.same s with ⟨ax, d2, rfl, r, e2⟩ | ⟨z, _⟩
          · cases e2; exact ⟨ax, ev, r⟩
          · cases z
        refine ⟨_, rfl, p, ys, rfl, SqT.of (s1 _ _ hp), ?_⟩
        refine for_it walk_enumT (fun j σ' G => ∃ y3 y4 y5 y6, σ' = [some (.ref a), some (.ref q), some (.ref p), y3, y4, y5, y6] ∧ Same H G ∧ firstHeavy es 0 rs = firstHeavy es j (rs.drop j))
          ⟨_, _, _, _, rfl, s1, rfl⟩ (fun j σ' G _ y => by obtain ⟨_, _, _, _, _, s, _⟩ := y; exact SqT.of (s _ _ hp)) ?_ ?_
        · rintro j x σ' G G2 hj ⟨y3, y4, y5, y6, rfl, s1, fh⟩ ⟨Tt, vx, vy, rfl, hT, rfl, ex, ey⟩
          have ex' : vx = .int (j : Int) := (Option.some.inj ex).symm
          subst ex'
          have hjr : j < rs.length := by omega
          refine ⟨Tt, _, rfl, SqT.of upd_same, rfl, _, _, rfl, _, _, rfl, rfl, ?_⟩
          have s2 := Same.trans s1 (Same.new (o := .tup [.int (j : Int), vy]) hT)
          generalize upd G Tt (.tup [.int (j : Int), vy]) = G2 at s2 ⊢
          clear hT s1
          obtain ⟨d, hd⟩ : ∃ d, rs[j]? = some d := ⟨_, List.getElem?_eq_getElem hjr⟩
          have dr : rs.drop j = d :: rs.drop (j + 1) := by
            rw [List.drop_eq_getElem_cons hjr]
            congr 1
            rw [List.getElem?_eq_getElem hjr] at hd
            exact Option.some.inj hd
          rw [dr] at fh
          obtain ⟨ax, ev, ⟨dxx, rx⟩, o4, n4⟩ := at_ j d G2 s2 hd
          obtain rfl : vy = .ref ax := Option.some.inj (ey.symm.trans ev)
          obtain ⟨e1, e2, _, _⟩ := rf_lookups (.str d.1) (.str d.2.1) (.bl d.2.2.1) (.bl d.2.2.2)
          have pd2 := hw3.mono fun _ _ _ h => h.same s2
          refine ⟨_, rfl, q, CW, dw, _, _, rfl, s2 _ _ hw1, MW.cl, MW.n2, wf_pairs _ _, _, rfl, ax, CR, dxx, _, _, rfl, rx, MR.cl, MR.n1, e1, pw, xs, es, d.1, rfl, s2 _ _ hw2, pd2, e4, by omega, fun G3 s3 => ?_⟩
          have s23 := Same.trans s2 s3
          refine ⟨_, rfl, q, CW, dw, _, _, rfl, s23 _ _ hw1, MW.cl, MW.n2, wf_pairs _ _, _, rfl, ax, CR, dxx, _, _, rfl, s3 _ _ rx, MR.cl, MR.n2, e2, pw, xs, es, d.2.1, rfl, s23 _ _ hw2, pd2.mono (fun _ _ _ h => h.same s3), e4, by omega, fun G4 s4 => ?_⟩
          have s24 := Same.trans s23 s4
          refine ⟨_, rfl, _, rfl, _, _, rfl, rfl, _, rfl, ?_⟩
          by_cases hv : wtR es d.1 ≤ wtR es d.2.1
          · rw [decide_eq_true (show wtC es d.1.cps.toList ≤ wtC es d.2.1.cps.toList from hv)]
            have z : firstHeavy es 0 rs = some j := by rw [fh]; unfold firstHeavy; rw [if_pos hv]
            rw [z] at good
            refine iteT ⟨_, rfl, fun e he => ⟨_, rfl, _, rfl, fun H4 keep => ?_⟩⟩
            exact good _ s24 e H4 he (keep _ _ upd_same) (Same.trans (Same.new he) keep)
          · rw [decide_eq_false (show ¬ wtC es d.1.cps.toList ≤ wtC es d.2.1.cps.toList from hv)]
            refine iteF ⟨_, _, _, _, rfl, s24, ?_⟩
            rw [fh]
            show (if _ then _ else _) = _
            rw [if_neg hv]
        · rintro σ' G ⟨y3, y4, y5, y6, rfl, s1, fh⟩
          have z : firstHeavy es 0 rs = none := by
            rw [fh, List.drop_of_length_le (by omega)]; rfl
          rw [z] at good
          have ha1 := s1 _ _ ha
          refine ⟨_, rfl, _, rfl, a, C, dx, [], rfl, ha1, M.cl, M.n1, by show 0 < 1000; decide, ?_⟩
          refine ⟨_, rfl, _, rfl, a, C, dx, _, rfl, upd_same, M.cl, M.n2, by show 1 < 1000; decide, ?_⟩
          exact good _ (Ext1.trans (Same.ext1 a s1) (Ext1.trans Ext1.put Ext1.put)) upd_same
end
end Kx
set_option Elab.async false
set_option maxRecDepth 100000
set_option autoImplicit false
/-! max(ints, default=d) -/
namespace Tn
open PySem L2 PySem.Spec PyProof.Rows PySem.Calls PySem.W
section
variable {X : Cx} {e d : Expr} {te td : TE} {p pos kpos : Pos}
def maxOr (y : V) : List Int → V
  | [] => y
  | n :: r => .int (r.foldl max n)
def tMaxDI (K : PySem.W.Frag) (te td : TE) : TE := fun σ H Q => tCons te tNil σ H fun vs H1 => tCons td tNil σ H1 fun ws H2 => ∃ (a : Addr) (y : V) (ns : List Int), vs = [V.ref a] ∧ ws = [y] ∧ SqL K H2 a (ns.map V.int) ∧ Q (maxOr y ns) H2
theorem alikeIntsAll (ns : List Int) : AlikeAll (ns.map PyData.int) := by
  refine ⟨fun x hx y hy => ?_, fun x hx => ?_⟩
  · obtain ⟨a, _, rfl⟩ := List.mem_map.mp hx
    obtain ⟨b, _, rfl⟩ := List.mem_map.mp hy
    simp [alike]
  · obtain ⟨a, _, rfl⟩ := List.mem_map.mp hx
    intro z
    cases z
theorem depthIntsAll : ∀ ns : List Int, PyData.depthAll (ns.map PyData.int) = 0
  | [] => rfl
  | n :: r => by
    simp only [List.map_cons, PyData.depthAll, PyData.depth, depthIntsAll r]
    rfl
theorem pe_maxDI (hc : X.calm = true) (hu : X.A.units + 64 < cLine) (hg : Gl X "max") (hm : X.mg "max" = none) (he : PE X e te) (hd : PE X d td)
    (na : backTo pos (starEach [e] X.env) = (false, eval e X.env) :: backTo pos (starEach [] X.env) := by rfl) (ns : starEach [e] X.env = (false, eval e X.env) :: starEach [] X.env := by rfl) (hplain : (backTo pos (starEach [e] X.env)).any (·.1) = false := by rfl)
    (hall : (backToKw pos (keywordEach [⟨some "default", d, kpos⟩] X.env)).all (·.1.isSome) = true := by rfl)
    (hkw : (backToKw pos (keywordEach [⟨some "default", d, kpos⟩] X.env)).any (·.1.isNone) = false := by rfl)
    (hks : (backToKw pos (keywordEach [⟨some "default", d, kpos⟩] X.env)).filterMap (·.1) = [Str.ofString "default"] := by rfl) :
    PE X (.Call (.Name "max" p) [e] [⟨some "default", d, kpos⟩] pos) (tMaxDI X.K te td) := by
  refine ⟨fun pins s σ H Q I h => ?_⟩
  refine wpAny_Call_Name_kw (ld_blt I hg hm (by rfl : bootBuiltins "max" = some (.builtin "max")) ?_)
  refine PyProof.Rows.callWith_kw (thn ((pa_cons he pa_nil ns).run pos pins s σ H _ I h) fun us s1 ⟨vs, H1, I1, r1, q1⟩ => ?_) na hplain hall hkw
  refine thn ((pk_cons hd pk_nil).run pos pins s1 σ H1 _ I1 q1) fun ws s2 ⟨zs, H2, I2, r2, a, y, xs, e1, e2, hq, q2⟩ => ?_
  subst e1 e2
  rw [hks]
  obtain ⟨u, hu', eu⟩ : ∃ u, RelV y u ∧ ws = [u] := by
    cases r2 with
    | cons r rr => cases rr; exact ⟨_, r, rfl⟩
  subst eu
  obtain rfl : us = [Value.ref a] := Vals.ref1 r1
  obtain ⟨its, rv, hl, hz⟩ := I2.list hq
  have ra : ReadsAll s2.heap its.toArray.toList (xs.map PyData.int) [] := by
    rw [List.toList_toArray]
    exact PySem.W.readsAll_of_ints rv.ints
  refine max_list_default (I2.ok.hd hc) hl.isList ra (alikeIntsAll xs) (by rw [depthIntsAll]; omega) (fun e0 h' tk hk => ?_) (fun z zs i v h' tk bs ez hv rd hk => ?_)
  · obtain rfl : xs = [] := List.map_eq_nil_iff.mp e0
    exact ⟨y, H2, I2.kept hk, hu', q2⟩
  · cases xs with
    | nil => cases ez
    | cons n r =>
      rw [List.map_cons] at ez
      injection ez with e3 e4
      subst e3 e4
      rw [maxD_ints] at rd
      cases rd
      exact ⟨.int _, H2, I2.kept hk, ⟨_, rfl⟩, q2⟩
end
end Tn
set_option Elab.async false
set_option maxRecDepth 100000
set_option autoImplicit false
set_option pp.maxSteps 400
set_option pp.deepTerms false
/-! Book: of, longest, len, [ ], in, == -/
namespace Kx
open PySem L2 PySem.Spec PyProof.Rows Rg Er Ru Tn
abbrev sBOf : Stmt := inClass (top 32) 2
abbrev sBLong : Stmt := inClass (top 32) 3
abbrev sBLen : Stmt := inClass (top 32) 4
abbrev sBItem : Stmt := inClass (top 32) 5
abbrev sBHas : Stmt := inClass (top 32) 7
abbrev sBEq : Stmt := inClass (top 32) 8
/-- the rules of a book, one by one -/
def RulesAt (CR : Addr) (H : Hp) (ys : List V) (rs : List RD) : Prop := ys.length = rs.length ∧ ∀ (i : Nat) (d : RD), rs[i]? = some d → ∃ a, ys[i]? = some (.ref a) ∧ RlD CR H a d
theorem RulesAt.same {C : Addr} {H H' : Hp} {ys : List V} {rs : List RD} (h : RulesAt C H ys rs) (e : Same H H') : RulesAt C H' ys rs := ⟨h.1, fun i d q => let ⟨a, x, y⟩ := h.2 i d q; ⟨a, x, y.same e⟩⟩
theorem EntsR.rules {K : PySem.W.Frag} {C : Addr} {H : Hp} {ys : List V} {rs : List RD} (h : EntsR K C H ys (rs.map some)) : RulesAt C H ys rs := by
  refine ⟨by rw [h.1, List.length_map], fun i d q => ?_⟩
  obtain ⟨v, e, ent⟩ := h.2 i (some d) (by rw [List.getElem?_map, q]; rfl)
  rcases ent with ⟨a, d', rfl, r, e2⟩ | ⟨z, _⟩
  · cases e2; exact ⟨a, e, r⟩
  · cases z
theorem RulesAt.ents {K : PySem.W.Frag} {C : Addr} {H : Hp} {ys : List V} {rs : List RD} (h : RulesAt C H ys rs) : EntsR K C H ys (rs.map some) := by
  refine ⟨by rw [h.1, List.length_map], fun i o q => ?_⟩
  rw [List.getElem?_map] at q
  obtain ⟨d, hd, rfl⟩ := Option.map_eq_some_iff.mp q
  obtain ⟨a, e, r⟩ := h.2 i d hd
  exact ⟨_, e, .inl ⟨a, d, rfl, r, rfl⟩⟩
def Bk (C CW CR : Addr) (H : Hp) (b : Addr) (es : List (Nat × Int)) (rs : List RD) : Prop := ∃ dx q r xs ys, H b = some (.ins C dx (bf q r)) ∧ Wts CW H q es xs ∧ H r = some (.tup ys) ∧ RulesAt CR H ys rs
theorem Bk.same {C CW CR b : Addr} {H H' : Hp} {es : List (Nat × Int)} {rs : List RD} (h : Bk C CW CR H b es rs) (e : Same H H') : Bk C CW CR H' b es rs := by
  obtain ⟨dx, q, r, xs, ys, h1, h2, h3, h4⟩ := h
  exact ⟨dx, q, r, xs, ys, e _ _ h1, h2.same e, e _ _ h3, h4.same e⟩
/-- what a call of Book is to answer -/
def bookDue (K : PySem.W.Frag) (C CW CR CB CH : Addr) (wv : V) (xs : List V) (H : Hp) (Q : VK) (E : XK) : Prop :=
  (∀ H', Same H H' → (∃ t, TyX K H' wv t ∧ PySem.W.kitOne K t (.ref CW) = some false) ∧ raised CB "at" .non E H') ∨
   ∃ (q : Addr) (ws : List V) (es : List (Nat × Int)) (os : List (Option RD)), wv = .ref q ∧ Wts CW H q es ws ∧ es.length ≤ 4 ∧ EntsR K CR H xs os ∧
    (8 < xs.length → ∀ H', Same H H' → raised CB "at" .non E H') ∧
    (xs.length ≤ 8 → match firstBad es 0 [] os with
      | some i => ∀ H', Same H H' → raised CB "at" (.int (i : Nat)) E H'
      | none => ∀ rs : List RD, os = rs.map some → match firstHeavy es 0 rs with
        | some i => ∀ H', Same H H' → raisedF CH "at" (.int (i : Nat)) E H'
        | none => ∀ H' b, Same H H' → Bk C CW CR H' b es rs → Q (.ref b) H')
theorem book_made {K : PySem.W.Frag} {C CW CR CB CH x dx p : Addr} {wv : V} {xs : List V} {H : Hp} {Q : VK} {E : XK} (hx : H x = none) (hd : H dx = none) (hp : upd (upd H dx (.own x)) x (.ins C dx []) p = none) (l : xs.length ≤ 1000) (h : bookDue K C CW CR CB CH wv xs H Q E) :
    spBInit K C CW CR CB CH [.ref x, wv, .ref p] (upd (upd (upd H dx (.own x)) x (.ins C dx [])) p (.tup xs)) (fun v H3 => v = .non ∧ Q (.ref x) H3) E := by
  have s1 : Same H (upd (upd H dx (.own x)) x (.ins C dx [])) := made_same hx hd
  have s2 : Same H (upd (upd (upd H dx (.own x)) x (.ins C dx [])) p (.tup xs)) := Same.putNew' hp s1
  refine ⟨x, dx, p, wv, xs, rfl, ?_, upd_same, l, ?_⟩
  · rw [upd_ne (ne_of_none upd_same hp)]
    exact upd_same
  rcases h with bad | ⟨q, ws, es, os, rfl, wt, e4, ents, many, good⟩
  · exact .inl (bad _ s2)
  refine .inr ⟨q, ws, es, os, rfl, wt.same s2, e4, ents.same s2, fun h => many h _ s2, fun h => ?_⟩
  have g := good h
  cases e : firstBad es 0 [] os with
  | some i =>
    rw [e] at g
    exact fun H' s3 => g H' (Same.trans s2 s3)
  | none =>
    rw [e] at g
    dsimp only
    intro rs er
    have g2 := g rs er
    cases e2 : firstHeavy es 0 rs with
    | some i =>
      rw [e2] at g2
      exact fun H' s3 => g2 H' (Same.trans s2 s3)
    | none =>
      rw [e2] at g2
      dsimp only
      intro H' e1 hb
      have s3 := same_ext1 hx s2 e1
      have np : p ≠ x := by rintro rfl; rw [upd_same] at hp; cases hp
      subst er
      exact ⟨rfl, g2 H' x s3 ⟨dx, q, p, ws, xs, hb, wt.same s3, e1 _ _ np upd_same, (ents.same s3).rules⟩⟩
def spBOf (K : PySem.W.Frag) (C CW CR CB CH : Addr) : Sp := fun vs H Q E => ∃ (l : Addr) (wv : V) (xs : List V), vs = [.ref C, wv, .ref l] ∧ Sq H l xs ∧ xs.length ≤ 1000 ∧ bookDue K C CW CR CB CH wv xs H Q E
def spBLen (C CW CR : Addr) : Sp := fun vs H Q _ => ∃ b es rs, vs = [.ref b] ∧ Bk C CW CR H b es rs ∧ Q (.int (rs.length : Nat)) H
def longR (rs : List RD) : Int := (rs.map fun d => (d.1.length : Int)).foldl max 0
def spBLong (C CW CR : Addr) : Sp := fun vs H Q _ => ∃ b es rs, vs = [.ref b] ∧ Bk C CW CR H b es rs ∧ rs.length ≤ 1000 ∧ ∀ H', Same H H' → Q (.int (longR rs)) H'
def spBItem (C CW CR : Addr) : Sp := fun vs H Q _ => ∃ b es rs, ∃ (i : Nat) (d : RD), vs = [.ref b, .int (i : Int)] ∧ Bk C CW CR H b es rs ∧ rs[i]? = some d ∧ ∀ a, RlD CR H a d → Q (.ref a) H
def spBHas (K : PySem.W.Frag) (C CW CR : Addr) : Sp := fun vs H Q _ => ∃ b es rs x, vs = [.ref b, x] ∧ Bk C CW CR H b es rs ∧
  ((∃ a d, x = .ref a ∧ RlD CR H a d ∧ Q (.bl (decide (d ∈ rs))) H) ∨ ((∃ t, TyX K H x t ∧ PySem.W.kitOne K t (.ref CR) = some false ∧ PySem.W.notFirst K CR t = true) ∧ (∀ a dx fs, x = .ref a → H a ≠ some (.ins CR dx fs)) ∧ Q (.bl false) H))
def spBEq (K : PySem.W.Frag) (C CW CR : Addr) : Sp := fun vs H Q _ => ∃ a es rs y, vs = [.ref a, y] ∧ Bk C CW CR H a es rs ∧
  ((∃ b fs ss, y = .ref b ∧ Bk C CW CR H b fs ss ∧ Q (.bl (decide (es = fs) && decide (rs = ss))) H) ∨ ((∃ t, TyX K H y t ∧ PySem.W.kitOne K t (.ref C) = some false) ∧ Q (.bl false) H))
theorem longR_cons (d : RD) (r : List RD) : maxOr (.int 0) ((d :: r).map fun d => (d.1.length : Int)) = .int (longR (d :: r)) := by
  unfold longR
  simp only [List.map_cons, maxOr, List.foldl_cons]
  rw [show max (0 : Int) (d.1.length : Int) = (d.1.length : Int) by omega]
theorem longR_max (rs : List RD) : maxOr (.int 0) (rs.map fun d => (d.1.length : Int)) = .int (longR rs) := by
  cases rs with
  | nil => rfl
  | cons d r => exact longR_cons d r
section
variable {P : Program} {w : World} {K : PySem.W.Frag} {mg : Str → Option Value} {base : Heap}
theorem scBOf : FnScope ["cls", "weights", "rules"] ["cls", "weights", "rules"] (defScope sBOf) := ⟨rfl, rfl, rfl, by decide +kernel, rfl, by decide +kernel, by decide +kernel⟩
theorem ok_bOf {C CW CR CB CH f g : Addr} {fd : FuncData} (F : L2.Fun K "of" "Book.of" sBOf f fd) (M : Mk K C g) (G : FnR P w K mg base (L2.CX P w) 4 g (spStar 2 (spBInit K C CW CR CB CH))) : FnOk P w K mg base (L2.CX P w) 6 f fd ["cls", "weights", "rules"] (spBOf K C CW CR CB CH) := by
  refine F.okX scBOf (fun vs H Q E h => ?_) (fun cdv A outer s H vs Q E hr h => ?_)
  · obtain ⟨l, wv, xs, rfl, _⟩ := h
    rfl
  · obtain ⟨l, wv, xs, rfl, hl, ln, due⟩ := h
    have tk := takes_of (X := cxOf (L2.CX P w) P w K mg base ["cls", "weights", "rules"] "Book.of" (defScope sBOf) f cdv A outer s H E) rfl rfl rfl rfl
    refine ⟨_, pss_one (ps_ret (pe_makeV2 M G hr (passes_call tk fun _ _ _ _ h => h) (pv 0) (pa_cons (pv 1) (StX.pa_star (pv 2) pa_nil)))), ?_⟩
    exact ⟨_, rfl, rfl, _, rfl, _, rfl, l, xs, rfl, hl.elim (fun q => .inr (SqL.of q)) (fun q => .inl (SqT.of q)), fun x dx hx hd ne => ⟨[.ref x, wv], xs, by rw [List.append_nil]; rfl, rfl, by rw [sizeLine_eq]; omega, fun p hp => book_made hx hd hp ln due⟩⟩
theorem scBLen : FnScope ["self"] ["self"] (defScope sBLen) := ⟨rfl, rfl, rfl, by decide +kernel, rfl, by decide +kernel, by decide +kernel⟩
theorem ok_bLen {C CW CR f : Addr} {fd : FuncData} (F : L2.Fun K "__len__" "Book.__len__" sBLen f fd) (T : Txt mg) (M : BT K C) : FnOk P w K mg base CX0 1 f fd ["self"] (spBLen C CW CR) := by
  refine F.ok scBLen (fun vs H Q E h => ?_) (fun cdv A outer s H vs Q E hr h => ?_)
  · obtain ⟨b, es, rs, rfl, _⟩ := h
    rfl
  · obtain ⟨b, es, rs, rfl, ⟨dx, q, r, xs, ys, hb, hw, hr', ra⟩, k⟩ := h
    rw [← ra.1] at k
    exact ⟨_, pss_one (ps_ret (bLen (by rfl) T.len (pe_fld (pv 0) rfl))), _, rfl, b, C, dx, _, _, rfl, hb, M.cl, M.n2, bf_rules _ _, _, ys.length, rfl, .inr ⟨_, SqT.of hr', rfl⟩, k⟩
theorem scBItem : FnScope ["self", "at"] ["self", "at"] (defScope sBItem) := ⟨rfl, rfl, rfl, by decide +kernel, rfl, by decide +kernel, by decide +kernel⟩
theorem ok_bItem {C CW CR f : Addr} {fd : FuncData} (F : L2.Fun K "__getitem__" "Book.__getitem__" sBItem f fd) (M : BT K C) : FnOk P w K mg base CX0 1 f fd ["self", "at"] (spBItem C CW CR) := by
  refine F.ok scBItem (fun vs H Q E h => ?_) (fun cdv A outer s H vs Q E hr h => ?_)
  · obtain ⟨b, es, rs, i, d, rfl, _⟩ := h
    rfl
  · obtain ⟨b, es, rs, i, d, rfl, ⟨dx, q, r, xs, ys, hb, hw, hr', ra⟩, hd, k⟩ := h
    obtain ⟨a, ea, rd⟩ := ra.2 i d hd
    refine ⟨_, pss_one (ps_ret (pe_ix ix_tup (pe_fld (pv 0) rfl) (pv 1) (fun _ _ => rfl))), ?_⟩
    exact ⟨_, rfl, b, C, dx, _, _, rfl, hb, M.cl, M.n2, bf_rules _ _, _, rfl, r, ys, (i : Int), .ref a, rfl, rfl, SqT.of hr', atI_int (by omega) (by rw [show ((i : Int)).toNat = i from by omega]; exact ea), k a rd⟩
theorem scBHas : FnScope ["self", "x"] ["self", "x"] (defScope sBHas) := ⟨rfl, rfl, rfl, by decide +kernel, rfl, by decide +kernel, by decide +kernel⟩
theorem ok_bHas {C CW CR f fe : Addr} {fd fde : FuncData} (F : L2.Fun K "__contains__" "Book.__contains__" sBHas f fd) (M : BT K C) (IR : InsT K CR)
    (Fe : FnOk P w K mg base CX0 1 fe fde ["self", "other"] (spREq K CR)) (be : L2.Binds K fde ["self", "other"] []) (ae : PySem.W.findIn K (.ref CR) "__eq__" = some (some (.ref fe))) (ne_ : PySem.W.isFn K (.ref fe) = true) : FnOk P w K mg base CX0 3 f fd ["self", "x"] (spBHas K C CW CR) := by
  refine F.ok scBHas (fun vs H Q E h => ?_) (fun cdv A outer s H vs Q E hr h => ?_)
  · obtain ⟨b, es, rs, x, rfl, _⟩ := h
    rfl
  · obtain ⟨b, es, rs, x, rfl, ⟨dx, q, r, xs, ys, hb, hw, hr', ra⟩, k⟩ := h
    refine ⟨_, pss_one (ps_ret (pe_cmpR (Ow.op_inOwn Fe (hr.mono (show 2 ≤ 2 by decide)) be pass0 ae ne_) (pv 1) (pe_fld (pv 0) rfl) rfl)), ?_⟩
    refine ⟨_, rfl, _, rfl, b, C, dx, _, _, rfl, hb, M.cl, M.n2, bf_rules _ _, ?_⟩
    rcases k with ⟨a, d, rfl, rd, k⟩ | ⟨⟨t, ty, no, nf⟩, ne, k⟩
    · refine ⟨r, ys, rs.map (fun s => decide (s = d)), rfl, SqT.of hr', by rw [List.length_map, ra.1], fun i y b hy hb => ?_, ?_⟩
      · rw [List.getElem?_map] at hb
        obtain ⟨sd, hsd, rfl⟩ := Option.map_eq_some_iff.mp hb
        obtain ⟨a2, e2, r2⟩ := ra.2 i sd hsd
        obtain rfl : y = .ref a2 := Option.some.inj (hy.symm.trans e2)
        exact own_item IR r2 rd
      · have any : (rs.map (fun s => decide (s = d))).any id = decide (d ∈ rs) := by
          rw [Bool.eq_iff_iff, List.any_map, List.any_eq_true, decide_eq_true_iff]
          constructor
          · rintro ⟨x, hx, e⟩
            have : x = d := of_decide_eq_true e
            rw [← this]; exact hx
          · intro h
            exact ⟨d, h, decide_eq_true rfl⟩
        rw [any]
        exact k
    · refine ⟨r, ys, rs.map (fun _ => false), rfl, SqT.of hr', by rw [List.length_map, ra.1], fun i y b hy hb => ?_, ?_⟩
      · rw [List.getElem?_map] at hb
        obtain ⟨sd, hsd, rfl⟩ := Option.map_eq_some_iff.mp hb
        obtain ⟨a2, e2, r2⟩ := ra.2 i sd hsd
        obtain rfl : y = .ref a2 := Option.some.inj (hy.symm.trans e2)
        refine own_other r2 ty no nf fun z => ?_
        obtain ⟨⟨d2, h2⟩, _⟩ := r2
        exact ne _ _ _ z h2
      · have any : (rs.map (fun _ => false)).any id = false := by
          rw [Bool.eq_false_iff, Ne, List.any_eq_true]
          rintro ⟨x, hx, e⟩
          obtain ⟨_, _, rfl⟩ := List.mem_map.mp hx
          cases e
        rw [any]
        exact k
theorem scBLong : FnScope ["self", "rule"] ["self"] (defScope sBLong) := ⟨rfl, rfl, rfl, by decide +kernel, rfl, by decide +kernel, by decide +kernel⟩
theorem ok_bLong {C CW CR f : Addr} {fd : FuncData} (F : L2.Fun K "longest" "Book.longest" sBLong f fd) (T : Txt mg) (M : BT K C) (MR : RT K mg CR) (mM : mg "max" = none) : FnOk P w K mg base CX0 1 f fd ["self"] (spBLong C CW CR) := by
  refine F.ok scBLong (fun vs H Q E h => ?_) (fun cdv A outer s H vs Q E hr h => ?_)
  · obtain ⟨b, es, rs, rfl, _⟩ := h
    rfl
  · obtain ⟨b, es, rs, rfl, ⟨dx, ww, r, xs, ys, h1, h2, h3, ra⟩, ln, k⟩ := h
    have nd := scBLong.nd
    have yl := ra.1
    refine ⟨_, pss_one (ps_ret (pe_maxDI rfl hr.units (by rfl) mM (pe_lc (own := [("rule", 1)]) (g := gName 1) (tt := tYes) (te := tCB (fun xs H Q => ∃ x n, xs = [x] ∧ LenV K x H n ∧ Q (.int n) H) (tCons (tFld K (tVar 1) "old") tNil)) rfl nd (pi_tup (pe_fld (pv 0) rfl)) (blkOk_by (N := ["self", "rule"]) (sc := defScope sBLong) (by decide +kernel))
        (fun _ _ _ _ _ => pg_name (i := 1) nd rfl (Or.inl rfl)) (fun _ _ _ _ _ => pts_nil) (fun _ _ _ _ _ => bLen (by rfl) T.len (pe_fld (pv 1) rfl))) pe_int)), ?_⟩
    refine ⟨_, rfl, b, C, dx, _, _, rfl, h1, M.cl, M.n2, bf_rules _ _, r, rfl, ⟨_, SqT.of h3⟩, fun D hD => lcMap walk_tup (fun i => .int ((rs.map fun d => (d.1.length : Int)).getD i 0)) (by rw [sizeLine_eq]; omega) hD (fun H' e => SqT.of (e _ _ h3)) (fun _ _ _ _ y => y.1) (fun i x H' Q' hi e yx hx => ?_) (fun H' e hl => ?_)⟩
    · have hi2 : i < rs.length := by omega
      obtain ⟨d, hd⟩ : ∃ d, rs[i]? = some d := ⟨_, List.getElem?_eq_getElem hi2⟩
      obtain ⟨a, ea, ⟨dxr, rd⟩, l4, _⟩ := (ra.same e).2 i d hd
      obtain rfl : x = .ref a := Option.some.inj (yx.2.symm.trans ea)
      obtain ⟨e1, _, _, _⟩ := rf_lookups (.str d.1) (.str d.2.1) (.bl d.2.2.1) (.bl d.2.2.2)
      have v : (rs.map fun d => (d.1.length : Int)).getD i 0 = (d.1.length : Int) := by
        rw [List.getD_eq_getElem?_getD, List.getElem?_map, hd]; rfl
      rw [v] at hx
      exact ⟨_, rfl, a, CR, dxr, _, _, rfl, rd, MR.cl, MR.n1, e1, _, d.1.length, rfl, ⟨by rw [sizeLine_eq]; omega, rfl⟩, hx H' (Same.refl H')⟩
    · have v : (List.range ys.length).map (fun i => V.int ((rs.map fun d => (d.1.length : Int)).getD i 0)) = (rs.map fun d => (d.1.length : Int)).map V.int := by
        refine List.ext_getElem? fun i => ?_
        rw [List.getElem?_map, List.getElem?_map]
        rcases Nat.lt_or_ge i ys.length with lt | ge
        · rw [List.getElem?_range lt, List.getElem?_eq_getElem (by rw [List.length_map]; omega), Option.map_some, Option.map_some]
          congr 2
          rw [List.getD_eq_getElem?_getD, List.getElem?_eq_getElem (by rw [List.length_map]; omega)]
          rfl
        · rw [List.getElem?_eq_none (by rw [List.length_range]; exact ge), List.getElem?_eq_none (by rw [List.length_map]; omega)]
          rfl
      rw [v] at hl
      refine ⟨D, .int 0, _, rfl, rfl, SqL.of hl, ?_⟩
      show Q _ _
      rw [longR_max]
      exact k H' e
theorem scBEq : FnScope ["self", "other"] ["self", "other"] (defScope sBEq) := ⟨rfl, rfl, rfl, by decide +kernel, rfl, by decide +kernel, by decide +kernel⟩
theorem zip_eq : ∀ rs ss : List RD, ((List.zipWith (fun a b => decide (a = b)) rs ss).all id && rs.length == ss.length) = decide (rs = ss)
  | [], [] => rfl
  | [], _ :: _ => rfl
  | _ :: _, [] => rfl
  | a :: r, b :: t => by
    have ih := zip_eq r t
    simp only [List.zipWith_cons_cons, List.all_cons, List.length_cons, id_eq]
    rw [Bool.eq_iff_iff] at ih ⊢
    simp only [Bool.and_eq_true, decide_eq_true_iff, beq_iff_eq, List.cons.injEq, Nat.add_right_cancel_iff] at ih ⊢
    constructor
    · rintro ⟨⟨h1, h2⟩, h3⟩
      exact ⟨h1, ih.mp ⟨h2, h3⟩⟩
    · rintro ⟨h1, h2⟩
      obtain ⟨h3, h4⟩ := ih.mpr h2
      exact ⟨⟨h1, h3⟩, h4⟩
theorem ok_bEq {C CW CR f fw fe : Addr} {fd fdw fde : FuncData} (F : L2.Fun K "__eq__" "Book.__eq__" sBEq f fd) (T : Txt mg) (M : BT K C) (gB : mg "Book" = some (.ref C)) (I : InsT K C) (rk : PySem.W.kitOne K (.ref C) (.ref C) = some true)
    (MW : WT K CW) (IW : InsT K CW) (nfW : PySem.W.notFirst K CW (.ref CW) = true) (IR : InsT K CR)
    (Fw : FnOk P w K mg base CX0 1 fw fdw ["self", "other"] (spWEq K CW)) (bw : L2.Binds K fdw ["self", "other"] []) (aw : PySem.W.findIn K (.ref CW) "__eq__" = some (some (.ref fw))) (nw : PySem.W.isFn K (.ref fw) = true)
    (Fe : FnOk P w K mg base CX0 1 fe fde ["self", "other"] (spREq K CR)) (be : L2.Binds K fde ["self", "other"] []) (ae : PySem.W.findIn K (.ref CR) "__eq__" = some (some (.ref fe))) (ne_ : PySem.W.isFn K (.ref fe) = true) : FnOk P w K mg base CX0 3 f fd ["self", "other"] (spBEq K C CW CR) := by
  refine F.ok scBEq (fun vs H Q E h => ?_) (fun cdv A outer s H vs Q E hr h => ?_)
  · obtain ⟨a, es, rs, y, rfl, _⟩ := h
    rfl
  · obtain ⟨a, es, rs, y, rfl, ⟨dx, q, r, xs, ys, ha, hw, hr', ra⟩, h⟩ := h
    have hr2 := hr.mono (show 2 ≤ 2 by decide)
    have hr1 := hr.mono (show 1 ≤ 2 by decide)
    refine ⟨_, pss_one (ps_ret (pe_and (bIsi (by rfl) T.isi (pv 1) (pe_glob (v := .ref C) (by rfl) gB rfl)) (pe_and (pe_cmpR (op_eqOwn Fw hr1 bw pass0 aw nw) (pe_fld (pv 0) rfl) (pe_fld (pv 1) rfl) (nomark _)) (pe_one (pe_cmpR (Ow.op_eqTO Fe hr2 be pass0 ae ne_) (pe_fld (pv 0) rfl) (pe_fld (pv 1) rfl) (nomark _)))))), ?_⟩
    rcases h with ⟨b, fs, ss, rfl, ⟨dy, q2, r2, xs2, ys2, hb, hw2, hr2', ra2⟩, k⟩ | ⟨⟨t, ty, no⟩, k⟩
    · refine ⟨_, rfl, .ref b, .ref C, _, _, true, rfl, .own C, I.ty hb, rk, true, rfl, iteT ?_⟩
      have hw' := hw
      have hw2' := hw2
      obtain ⟨dw, pw, hq1, _, _⟩ := hw'
      obtain ⟨dw2, pw2, hq2, _, _⟩ := hw2'
      refine ⟨_, rfl, a, C, dx, _, _, rfl, ha, M.cl, M.n1, bf_weights _ _, _, rfl, b, C, dy, _, _, rfl, hb, M.cl, M.n1, bf_weights _ _, q, dw, _, _, rfl, hq1, IW.ty hq2, nfW, q, es, xs, .ref q2, rfl, hw, .inl ⟨q2, fs, xs2, rfl, hw2, decide (es = fs), rfl, ?_⟩⟩
      cases ew : decide (es = fs) with
      | false =>
        rw [ew, Bool.false_and] at k
        exact ⟨_, rfl, iteF k⟩
      | true =>
        rw [ew, Bool.true_and] at k
        refine ⟨_, rfl, iteT ?_⟩
        refine ⟨_, rfl, a, C, dx, _, _, rfl, ha, M.cl, M.n2, bf_rules _ _, _, rfl, b, C, dy, _, _, rfl, hb, M.cl, M.n2, bf_rules _ _, r, r2, ys, ys2, List.zipWith (fun a b => decide (a = b)) rs ss, rfl, rfl, SqT.of hr', SqT.of hr2', by rw [List.length_zipWith, ra.1, ra2.1], fun i y z bb hy hz hbb => ?_, ?_⟩
        · rw [List.getElem?_zipWith] at hbb
          cases e1 : rs[i]? with
          | none => rw [e1] at hbb; cases hbb
          | some d1 =>
            cases e2 : ss[i]? with
            | none => rw [e1, e2] at hbb; cases hbb
            | some d2 =>
              rw [e1, e2] at hbb
              obtain rfl := Option.some.inj hbb
              obtain ⟨a1, f1, g1⟩ := ra.2 i d1 e1
              obtain ⟨a2, f2, g2⟩ := ra2.2 i d2 e2
              obtain rfl : y = .ref a1 := Option.some.inj (hy.symm.trans f1)
              obtain rfl : z = .ref a2 := Option.some.inj (hz.symm.trans f2)
              exact own_item IR g1 g2
        · rw [ra.1, ra2.1, zip_eq]
          exact k
    · exact ⟨_, rfl, y, .ref C, _, _, false, rfl, .own C, ty, no, false, rfl, iteF k⟩
end
end Kx
set_option Elab.async false
set_option maxRecDepth 100000
set_option autoImplicit false
set_option pp.maxSteps 400
set_option pp.deepTerms false
/-! _law_rule -/
namespace Kx
open PySem L2 PySem.Spec PyProof.Rows Rg Er Ru Tn
abbrev sRule : Stmt := top 41
/-- at t a rule as a tuple -/
def RuleAt (H : Hp) (t : Addr) (d : RD) : Prop := H t = some (.tup [.str d.1, .str d.2.1, .bl d.2.2.1, .bl d.2.2.2])
/-- a rule that a book of these weights takes -/
def GoodR (es : List (Nat × Int)) (d : RD) : Prop := (∀ c ∈ d.1.cps.toList, c ∈ es.map (·.1)) ∧ (∀ c ∈ d.2.1.cps.toList, c ∈ es.map (·.1)) ∧ 1 ≤ d.1.length ∧ d.1.length ≤ 4 ∧ d.2.1.length ≤ 4 ∧ wtR es d.2.1 < wtR es d.1
def PairsOf (H : Hp) (L : Addr) (es : List (Nat × Int)) : Prop := ∃ xs, H L = some (.lst xs) ∧ PairsD H xs es ∧ 1 ≤ es.length ∧ es.length ≤ 4 ∧ (es.map (·.1)).Nodup
def spRule : Sp := fun vs H Q _ => ∃ (c p L : Addr) (n : Nat) (es : List (Nat × Int)), vs = [.ref p, .ref L] ∧ n ≤ 800000 ∧ PenAt c n H p ∧ L ≠ p ∧ PairsOf H L es ∧ (∃ e ∈ es, 0 < e.2) ∧
  ∀ (d : RD) H' t, GoodR es d → RuleAt H' t d → Ink c p (n + 30) H H' → Q (.ref t) H'
/-- a comprehension with a condition, by an invariant -/
theorem lcSel {J : It} {n : Nat} {G : Hp → Prop} {Y : Nat → Hp → V → Hp → Prop} (w : Walk J n G Y) {v : Nat} {tt : TT} {te : TE} {σ : L2.St} {H1 : Hp} {D : Addr} {Qd : Hp → Prop} (Iv : Nat → Hp → List V → Prop) (hn : n < sizeLine)
    (h0 : Iv 0 (upd H1 D (.lst [])) []) (hG : ∀ i H' acc, i ≤ n → Iv i H' acc → G H') (hY : ∀ i H' x H2, Y i H' x H2 → H2 = H')
    (el : ∀ i x H' acc (Q : VK) (Qf : Hp → Prop), i < n → H' D = some (.lst acc) → acc.length ≤ i → Iv i H' acc → Y i H' x H' → (∀ y H4, H4 D = some (.lst acc) → Iv (i + 1) (upd H4 D (.lst (acc ++ [y]))) (acc ++ [y]) → Q y H4) → (∀ H3, H3 D = some (.lst acc) → Iv (i + 1) H3 acc → Qf H3) →
      tt ((wipe σ [v]).set v (some x)) H' fun b H3 => if b = true then te ((wipe σ [v]).set v (some x)) H3 Q else Qf H3)
    (hd : ∀ H' acc, H' D = some (.lst acc) → acc.length ≤ n → Iv n H' acc → Qd H') :
    ∃ W : Nat → Nat → Hp → Prop, (∃ m, W 0 m (upd H1 D (.lst []))) ∧ ∀ i m H, W i m H →
      (J.stop i H ∧ Qd H) ∨ (J.go i H ∧ ∃ Nx : Hp → Prop, (∀ H', Nx H' → ∃ m', m' < m ∧ W (i + 1) m' H') ∧ ∀ x H', J.yld i H x H' → gName v x (wipe σ [v]) H' fun σ2 H2 => wipe σ2 [v] = wipe σ [v] ∧ tt σ2 H2 fun b H3 =>
        if b = true then te σ2 H3 fun y H4 => ∃ acc, H4 D = some (.lst acc) ∧ acc.length < sizeLine ∧ Nx (upd H4 D (.lst (acc ++ [y]))) else Nx H3) := by
  refine lc_it w (fun i H' => ∃ acc, H' D = some (.lst acc) ∧ acc.length ≤ i ∧ Iv i H' acc) ⟨[], upd_same, Nat.le_refl _, h0⟩ (fun i H' hi ⟨acc, _, _, q⟩ => hG i H' acc hi q) ?_ fun H' ⟨acc, q1, q2, q3⟩ => hd H' acc q1 q2 q3
  rintro i x H' H2 hi ⟨acc, ha, hl, iv⟩ y
  obtain rfl := hY _ _ _ _ y
  refine ⟨wipe1 σ v x, ?_⟩
  exact el i x H2 acc _ _ hi ha hl iv y (fun y H4 h4 i4 => ⟨acc, h4, by omega, _, upd_same, by simp; omega, i4⟩) (fun H3 h3 i3 => ⟨acc, h3, by omega, i3⟩)
theorem cut_drop {l : List Nat} {k : Nat} (h : k ≤ l.length) : cutS ⟨l.toArray⟩ (some (k : Int)) none = ⟨(l.drop k).toArray⟩ := by
  have len : (⟨l.toArray⟩ : Str).length = l.length := by show l.toArray.size = _; simp
  unfold cutS
  rw [len, show HT.sIx l.length l.length none = l.length from rfl, HT.sIx_nat, Nat.min_eq_left h, List.toList_toArray, List.take_of_length_le (by simp)]
theorem cut_tail (l : List Nat) : cutS ⟨l.toArray⟩ (some 1) none = ⟨(l.drop 1).toArray⟩ := by
  cases l with
  | nil => rfl
  | cons a r => exact cut_drop (k := 1) (by simp)
theorem PairsOf.ext {c p L : Addr} {n : Nat} {H H' : Hp} {es : List (Nat × Int)} (pen : PenAt c n H p) (Lp : L ≠ p) (h : PairsOf H L es) (i : Ext1 p H H') : PairsOf H' L es := by
  obtain ⟨xs, h1, h2, h3⟩ := h
  refine ⟨xs, i _ _ Lp h1, h2.mono fun t c n q => ⟨i _ _ ?_ q.1, q.2⟩, h3⟩
  rintro rfl
  obtain ⟨_, _, _, h, _⟩ := pen
  rw [q.1] at h
  cases h
theorem heads_at (es : List (Nat × Int)) (n : Nat) (h : n = es.length) : (List.range n).map (fun i => sg ((es.map (·.1)).getD i 0)) = (es.map (·.1)).map sg := by
  subst h
  refine List.ext_getElem? fun i => ?_
  rw [List.getElem?_map, List.getElem?_map]
  rcases Nat.lt_or_ge i es.length with lt | ge
  · rw [List.getElem?_range lt, List.getElem?_eq_getElem (by rw [List.length_map]; exact lt), Option.map_some, Option.map_some]
    congr 2
    rw [List.getD_eq_getElem?_getD, List.getElem?_eq_getElem (by rw [List.length_map]; exact lt)]
    rfl
  · rw [List.getElem?_eq_none (by rw [List.length_range]; exact ge), List.getElem?_eq_none (by rw [List.length_map]; exact ge)]
    rfl
/-- [pair[0] for pair in pairs] -/
theorem lcHeads {K : PySem.W.Frag} {v : Nat} {σ : L2.St} {H1 : Hp} {D L : Addr} {xs : List V} {es : List (Nat × Int)} {Qd : Hp → Prop} (hL : H1 L = some (.lst xs)) (pd : PairsD H1 xs es) (l4 : es.length ≤ 1000) (hv : ∀ x : V, ((wipe σ [v]).set v (some x))[v]? = some (some x)) (hD : H1 D = none)
    (hd : ∀ H', Same H1 H' → H' D = some (.lst ((es.map (·.1)).map sg)) → Qd H') :
    ∃ W : Nat → Nat → Hp → Prop, (∃ m, W 0 m (upd H1 D (.lst []))) ∧ ∀ i m H, W i m H →
      ((Itl K L).stop i H ∧ Qd H) ∨ ((Itl K L).go i H ∧ ∃ Nx : Hp → Prop, (∀ H', Nx H' → ∃ m', m' < m ∧ W (i + 1) m' H') ∧ ∀ x H', (Itl K L).yld i H x H' → gName v x (wipe σ [v]) H' fun σ2 H2 => wipe σ2 [v] = wipe σ [v] ∧ tYes σ2 H2 fun b H3 =>
        if b = true then tOp (rIxT K) (tVar v) (tC (.int 0)) σ2 H3 fun y H4 => ∃ acc, H4 D = some (.lst acc) ∧ acc.length < sizeLine ∧ Nx (upd H4 D (.lst (acc ++ [y]))) else Nx H3) := by
  have al := pd.1
  refine lcMap walk_list (fun i => sg ((es.map (·.1)).getD i 0)) (by rw [sizeLine_eq]; omega) hD (fun H' s => SqL.of (s _ _ hL)) (fun _ _ _ _ y => y.1) ?_ ?_
  · rintro i x H' Q' hi s2 ⟨_, hx⟩ qq
    have hi' : i < es.length := by rw [← al]; exact hi
    obtain ⟨t, et, pt⟩ := pd.2 i _ (List.getElem?_eq_getElem hi')
    rw [hx] at et
    cases et
    refine ⟨_, hv _, t, _, 0, _, rfl, rfl, SqT.of (pt.same s2).1, rfl, ?_⟩
    have := qq _ (Same.refl H')
    rw [show (es.map (·.1)).getD i 0 = es[i].1 from by rw [List.getD_eq_getElem?_getD, List.getElem?_map, List.getElem?_eq_getElem hi']; rfl] at this
    exact this
  · intro H2 s2 hD2
    rw [heads_at es xs.length al] at hD2
    exact hd H2 s2 hD2
theorem mem_heads {es : List (Nat × Int)} {c : Nat} {n : Int} (h : (c, n) ∈ es) : c ∈ es.map (·.1) := List.mem_map.mpr ⟨_, h, rfl⟩
theorem wtC_pos {es : List (Nat × Int)} {c : Nat} {n : Int} {l : List Nat} (nn : ∀ e ∈ es, 0 ≤ e.2) (h : (c, n) ∈ es) (n0 : 0 < n) (hc : c ∈ l) : 0 < wtC es l := by
  have all : ∀ fs : List (Nat × Int), (∀ e ∈ fs, 0 ≤ e.2) → 0 ≤ wtC fs l := by
    intro fs
    induction fs with
    | nil => intro _; exact Int.le_refl _
    | cons e r ih =>
      intro q
      have h1 := ih fun e he => q e (List.mem_cons_of_mem _ he)
      have h2 := q e List.mem_cons_self
      show 0 ≤ e.2 * ((l.count e.1 : Nat) : Int) + wtC r l
      have := Int.mul_nonneg h2 (show (0 : Int) ≤ ((l.count e.1 : Nat) : Int) by omega)
      omega
  induction es with
  | nil => cases h
  | cons e r ih =>
    have q := all r fun e he => nn e (List.mem_cons_of_mem _ he)
    have h2 := nn e List.mem_cons_self
    show 0 < e.2 * ((l.count e.1 : Nat) : Int) + wtC r l
    rcases List.mem_cons.mp h with rfl | h
    · have := Int.mul_pos n0 (show (0 : Int) < ((l.count c : Nat) : Int) by have := List.count_pos_iff.mpr hc; omega)
      dsimp only at this ⊢
      omega
    · have h3 := ih (fun e he => nn e (List.mem_cons_of_mem _ he)) h
      have := Int.mul_nonneg h2 (show (0 : Int) ≤ ((l.count e.1 : Nat) : Int) by omega)
      omega
theorem wtC_nonneg {es : List (Nat × Int)} {l : List Nat} (nn : ∀ e ∈ es, 0 ≤ e.2) : 0 ≤ wtC es l := by
  induction es with
  | nil => exact Int.le_refl _
  | cons e r ih =>
    have h1 := ih fun e he => nn e (List.mem_cons_of_mem _ he)
    have h2 := nn e List.mem_cons_self
    show 0 ≤ e.2 * ((l.count e.1 : Nat) : Int) + wtC r l
    have := Int.mul_nonneg h2 (show (0 : Int) ≤ ((l.count e.1 : Nat) : Int) by omega)
    omega
theorem PairsD.nonneg {H : Hp} {xs : List V} {es : List (Nat × Int)} (h : PairsD H xs es) : ∀ e ∈ es, 0 ≤ e.2 := fun e he => by
  obtain ⟨i, hi⟩ := List.mem_iff_getElem?.mp he
  obtain ⟨t, _, p⟩ := h.2 i e hi
  exact p.2.2.1
/-- the end of _law_rule: new is cut until it is lighter -/
def tRuleEnd (K : PySem.W.Frag) : TS :=
  tSeq (tWhile (tTest (tOp (rI0 fun i j => .bl (decide (j ≤ i))) (tCall spWeight [] E0 (tCons (tVar 1) (tCons (tVar 6) tNil))) (tCall spWeight [] E0 (tCons (tVar 1) (tCons (tVar 5) tNil))))) (tAsg (tSl rSlS (tVar 6) (tPart (tC (.int 1))) tNoPart) (gName 6)))
    (tSeq (tAsg (tCall spPick [] E0 (tCons (tVar 0) (tCons (tLst (tCons (tTup (tCons (tC (.int 0)) (tCons (tC (.int 0)) tNil))) (tCons (tTup (tCons (tC (.int 0)) (tCons (tC (.int 0)) tNil))) (tCons (tTup (tCons (tC (.int 0)) (tCons (tC (.int 0)) tNil))) (tCons (tTup (tCons (tC (.int 1)) (tCons (tC (.int 0)) tNil))) (tCons (tTup (tCons (tC (.int 0)) (tCons (tC (.int 1)) tNil))) (tCons (tTup (tCons (tC (.int 1)) (tCons (tC (.int 1)) tNil))) tNil))))))) tNil))) (gName 7))
      (tRet (tTup (tCons (tVar 5) (tCons (tVar 6) (tCons (tOp rEq (tOp (rIxT K) (tVar 7) (tC (.int 0))) (tC (.int 1))) (tCons (tOp rEq (tOp (rIxT K) (tVar 7) (tC (.int 1))) (tC (.int 1))) tNil)))))))
def TwoB (H : Hp) (t : Addr) : Prop := ∃ a b : Int, H t = some (.tup [.int a, .int b])
theorem TwoB.same {H H' : Hp} {t : Addr} (h : TwoB H t) (e : Same H H') : TwoB H' t := let ⟨a, b, q⟩ := h; ⟨a, b, e _ _ q⟩
theorem rule_end {K : PySem.W.Frag} {D : Ends} {c p L : Addr} {n N : Nat} {y2 y3 y4 y7 : Option V} {H H6 : Hp} {es : List (Nat × Int)} {os ns : List Nat} (pen : PenAt c n H p) (Lp : L ≠ p) (po : PairsOf H L es) (nb : N ≤ 900000) (ink : Ink c p N H H6)
    (osub : ∀ d ∈ os, d ∈ es.map (·.1)) (nsub : ∀ d ∈ ns, d ∈ es.map (·.1)) (o1 : 1 ≤ os.length) (o4 : os.length ≤ 4) (n4 : ns.length ≤ 4) (w0 : 0 < wtC es os)
    (k : ∀ (d : RD) H' t, GoodR es d → RuleAt H' t d → Ink c p (N + 1) H H' → D.rt (.ref t) H') : tRuleEnd K D [some (.ref p), some (.ref L), y2, y3, y4, some (.str ⟨os.toArray⟩), some (.str ⟨ns.toArray⟩), y7] H6 := by
  refine ⟨fun m σ' H' => ∃ j, j ≤ ns.length ∧ m = ns.length - j ∧ σ' = [some (.ref p), some (.ref L), y2, y3, y4, some (.str ⟨os.toArray⟩), some (.str ⟨(ns.drop j).toArray⟩), y7] ∧ Ink c p N H H', ⟨_, 0, Nat.zero_le _, rfl, rfl, ink⟩, ?_⟩
  rintro m σ' H' ⟨j, hj, rfl, rfl, ink⟩
  obtain ⟨xs, hL, pd, l1, l4, nde⟩ := po.ext pen Lp ink.1
  have dsub : ∀ d ∈ ns.drop j, d ∈ es.map (·.1) := fun d hd => nsub d (List.mem_of_mem_drop hd)
  refine ⟨_, rfl, _, rfl, L, xs, es, ns.drop j, rfl, hL, pd, l4, nde, dsub, by rw [List.length_drop]; omega, fun H1 s1 => ?_⟩
  refine ⟨_, rfl, _, rfl, L, xs, es, os, rfl, s1 _ _ hL, pd.mono fun _ _ _ q => q.same s1, l4, nde, osub, by omega, fun H2 s2 => ?_⟩
  refine ⟨_, _, rfl, rfl, _, rfl, ?_⟩
  have ink2 := (ink.same s1).same s2
  by_cases v : wtC es os ≤ wtC es (ns.drop j)
  · rw [decide_eq_true v]
    have lt : j < ns.length := by
      rcases Nat.lt_or_ge j ns.length with lt | ge
      · exact lt
      · rw [List.drop_of_length_le ge, wtC_nil] at v
        omega
    refine iteT ⟨fun σ' H' => σ' = [some (.ref p), some (.ref L), y2, y3, y4, some (.str ⟨os.toArray⟩), some (.str ⟨(ns.drop (j + 1)).toArray⟩), y7] ∧ H' = H2, ?_, ?_⟩
    · rintro σ' H' ⟨rfl, rfl⟩
      exact ⟨_, by omega, j + 1, lt, rfl, rfl, ink2⟩
    · refine ⟨_, rfl, _, rfl, _, rfl, len_small (by show (ns.drop j).toArray.size ≤ _; rw [List.size_toArray, List.length_drop]; omega), ?_⟩
      rw [cut_tail, List.drop_drop]
      exact ⟨rfl, rfl⟩
  · rw [decide_eq_false v]
    refine iteF ?_
    have ml4 : (ns.drop j).length ≤ 4 := by rw [List.length_drop]; omega
    clear hL pd ink s1 s2 nsub n4 hj
    generalize ns.drop j = ms at *
    have ml : ms.length ≤ 4 := ml4
    generalize H2 = G0 at ink2 ⊢
    replace ink := ink2
    clear ink2
    refine ⟨_, rfl, by show 2 ≤ sizeLine; decide, fun t1 h1 => ?_⟩
    have s1 : Same G0 (upd G0 t1 (.tup [.int 0, .int 0])) := Same.new h1
    have e1 : TwoB (upd G0 t1 (.tup [.int 0, .int 0])) t1 := ⟨_, _, upd_same⟩
    replace ink := ink.same s1
    generalize upd G0 t1 (.tup [.int 0, .int 0]) = G1 at e1 ink ⊢
    clear h1 s1
    refine ⟨by show 2 ≤ sizeLine; decide, fun t2 h2 => ?_⟩
    have s2 : Same G1 (upd G1 t2 (.tup [.int 0, .int 0])) := Same.new h2
    have e2 : TwoB (upd G1 t2 (.tup [.int 0, .int 0])) t2 := ⟨_, _, upd_same⟩
    replace e1 := e1.same s2
    replace ink := ink.same s2
    generalize upd G1 t2 (.tup [.int 0, .int 0]) = G2 at e1 e2 ink ⊢
    clear h2 s2
    refine ⟨by show 2 ≤ sizeLine; decide, fun t3 h3 => ?_⟩
    have s3 : Same G2 (upd G2 t3 (.tup [.int 0, .int 0])) := Same.new h3
    have e3 : TwoB (upd G2 t3 (.tup [.int 0, .int 0])) t3 := ⟨_, _, upd_same⟩
    replace e1 := e1.same s3
    replace e2 := e2.same s3
    replace ink := ink.same s3
    generalize upd G2 t3 (.tup [.int 0, .int 0]) = G3 at e1 e2 e3 ink ⊢
    clear h3 s3
    refine ⟨by show 2 ≤ sizeLine; decide, fun t4 h4 => ?_⟩
    have s4 : Same G3 (upd G3 t4 (.tup [.int 1, .int 0])) := Same.new h4
    have e4 : TwoB (upd G3 t4 (.tup [.int 1, .int 0])) t4 := ⟨_, _, upd_same⟩
    replace e1 := e1.same s4
    replace e2 := e2.same s4
    replace e3 := e3.same s4
    replace ink := ink.same s4
    generalize upd G3 t4 (.tup [.int 1, .int 0]) = G4 at e1 e2 e3 e4 ink ⊢
    clear h4 s4
    refine ⟨by show 2 ≤ sizeLine; decide, fun t5 h5 => ?_⟩
    have s5 : Same G4 (upd G4 t5 (.tup [.int 0, .int 1])) := Same.new h5
    have e5 : TwoB (upd G4 t5 (.tup [.int 0, .int 1])) t5 := ⟨_, _, upd_same⟩
    replace e1 := e1.same s5
    replace e2 := e2.same s5
    replace e3 := e3.same s5
    replace e4 := e4.same s5
    replace ink := ink.same s5
    generalize upd G4 t5 (.tup [.int 0, .int 1]) = G5 at e1 e2 e3 e4 e5 ink ⊢
    clear h5 s5
    refine ⟨by show 2 ≤ sizeLine; decide, fun t6 h6 => ?_⟩
    have s6 : Same G5 (upd G5 t6 (.tup [.int 1, .int 1])) := Same.new h6
    have e6 : TwoB (upd G5 t6 (.tup [.int 1, .int 1])) t6 := ⟨_, _, upd_same⟩
    replace e1 := e1.same s6
    replace e2 := e2.same s6
    replace e3 := e3.same s6
    replace e4 := e4.same s6
    replace e5 := e5.same s6
    replace ink := ink.same s6
    generalize upd G5 t6 (.tup [.int 1, .int 1]) = G6 at e1 e2 e3 e4 e5 e6 ink ⊢
    clear h6 s6
    refine ⟨by show 6 ≤ sizeLine; decide, fun l hl => ⟨c, p, N, by omega, ink.2.new hl, .inl ⟨l, _, rfl, ink.2.ne1 hl, upd_same, by show 0 < 6; decide, by show 6 ≤ 1000; decide, fun v H3 hv pen3 x3 => ?_⟩⟩⟩
    have x3' : Ext1 p G6 H3 := Ext1.trans (Ext1.new hl) x3
    obtain ⟨t, rfl, tb⟩ : ∃ t, v = .ref t ∧ TwoB G6 t := by
      simp only [List.mem_cons, List.not_mem_nil, or_false] at hv
      rcases hv with rfl | rfl | rfl | rfl | rfl | rfl
      · exact ⟨_, rfl, e1⟩
      · exact ⟨_, rfl, e2⟩
      · exact ⟨_, rfl, e3⟩
      · exact ⟨_, rfl, e4⟩
      · exact ⟨_, rfl, e5⟩
      · exact ⟨_, rfl, e6⟩
    obtain ⟨a, b, ht⟩ := tb
    have tp : t ≠ p := by
      rintro rfl
      obtain ⟨_, _, _, h, _⟩ := ink.2
      rw [ht] at h
      cases h
    have ht3 := x3' _ _ tp ht
    have i3 : Ink c p (N + 1) H H3 := ⟨Ext1.trans ink.1 x3', pen3⟩
    refine ⟨_, rfl, _, rfl, _, rfl, t, _, 0, .int a, rfl, rfl, SqT.of ht3, rfl, rfl, ?_⟩
    refine ⟨_, rfl, t, _, 1, .int b, rfl, rfl, SqT.of ht3, rfl, rfl, ?_⟩
    refine ⟨by show 4 ≤ sizeLine; decide, fun q hq => ?_⟩
    refine k (⟨os.toArray⟩, ⟨ms.toArray⟩, decide (V.int a = V.int 1), decide (V.int b = V.int 1)) _ q ⟨?_, ?_, ?_, ?_, ?_, ?_⟩ upd_same (i3.new hq)
    · exact fun c hc => osub c (by simpa using hc)
    · exact fun c hc => dsub c (by simpa using hc)
    · show 1 ≤ os.toArray.size; rw [List.size_toArray]; exact o1
    · show os.toArray.size ≤ 4; rw [List.size_toArray]; exact o4
    · show ms.toArray.size ≤ 4; rw [List.size_toArray]; exact ml
    · show wtC es ms < wtC es os; omega
section
variable {P : Program} {w : World} {K : PySem.W.Frag} {mg : Str → Option Value} {base : Heap}
abbrev nRule : List Str := ["_law_pen_here", "_law_pairs_here", "_law_signs", "_law_pair", "_law_heavy", "_law_old", "_law_new", "_law_ends"]
theorem scRule : FnScope nRule ["_law_pen_here", "_law_pairs_here"] (defScope sRule) := ⟨rfl, rfl, rfl, by decide +kernel, rfl, by decide +kernel, by decide +kernel⟩
theorem ok_rule {f f2 f3 f4 : Addr} {fd fd2 fd3 fd4 : FuncData} (F : L2.Fun K "_law_rule" "_law_rule" sRule f fd) (T : Txt mg)
    (G2 : FnOk P w K mg base CX0 2 f2 fd2 ["_law_pen_here", "_law_things"] spPick) (m2 : mg "_law_pick" = some (.ref f2)) (k2 : PySem.W.keepIn K (.ref f2) = true) (b2 : L2.Binds K fd2 ["_law_pen_here", "_law_things"] [])
    (G3 : FnOk P w K mg base CX0 3 f3 fd3 ["_law_pen_here", "_law_signs", "_law_many"] spText) (m3 : mg "_law_text" = some (.ref f3)) (k3 : PySem.W.keepIn K (.ref f3) = true) (b3 : L2.Binds K fd3 ["_law_pen_here", "_law_signs", "_law_many"] [])
    (G4 : FnOk P w K mg base CX0 1 f4 fd4 ["_law_pairs_here", "_law_row"] spWeight) (m4 : mg "_law_weight" = some (.ref f4)) (k4 : PySem.W.keepIn K (.ref f4) = true) (b4 : L2.Binds K fd4 ["_law_pairs_here", "_law_row"] []) :
    FnOk P w K mg base CX0 4 f fd ["_law_pen_here", "_law_pairs_here"] spRule := by
  refine F.ok scRule (fun vs H Q E h => ?_) (fun cdv A outer s H vs Q E hr h => ?_)
  · obtain ⟨c, p, L, n, es, rfl, _⟩ := h
    rfl
  · obtain ⟨c, p, L, n, es, rfl, nb, pen, Lp, po, pos, k⟩ := h
    have nd := scRule.nd
    have hr1 := hr.mono (show 1 ≤ 3 by decide)
    have hr2 := hr.mono (show 2 ≤ 3 by decide)
    refine ⟨_, pss_cons (ps_setLc (i := 2) (own := [("_law_pair", 3)]) (g := gName 3) (tt := tYes) (te := tOp (rIxT K) (tVar 3) (tC (.int 0))) rfl nd rfl rfl (sw_true rfl rfl rfl (by decide +kernel)) (pi_list (pv 1)) (blkOk_by (own := [("_law_pair", 3)]) (N := nRule) (sc := defScope sRule) (by decide +kernel)) (fun _ _ _ _ _ => (pg_name (i := 3) nd rfl (Or.inl rfl))) (fun _ _ _ _ _ => pts_nil) (fun _ _ _ _ _ => (bIxT (pv 3) pe_int)))
      (pss_cons (ps_setLc (i := 4) (own := [("_law_pair", 3)]) (g := gName 3) (tt := tTest (tOp (rI0 fun i j => .bl (decide (j < i))) (tOp (rIxT K) (tVar 3) (tC (.int 1))) (tC (.int 0)))) (te := tOp (rIxT K) (tVar 3) (tC (.int 0))) rfl nd rfl rfl (sw_true rfl rfl rfl (by decide +kernel)) (pi_list (pv 1)) (blkOk_by (own := [("_law_pair", 3)]) (N := nRule) (sc := defScope sRule) (by decide +kernel)) (fun _ _ _ _ _ => (pg_name (i := 3) nd rfl (Or.inl rfl))) (fun _ _ _ _ _ => pts_one (pt_cmpR op_gt (bIxT (pv 3) pe_int) pe_int (nomark _))) (fun _ _ _ _ _ => (bIxT (pv 3) pe_int)))
      (pss_cons (ps_set (i := 5) nd rfl (.inl rfl) (pe_call G3 hr (by rfl) m3 k3 b3 .nil pass0 (pa_cons (pv 0) (pa_cons (pv 2) (pa_cons (pe_call G2 hr2 (by rfl) m2 k2 b2 .nil pass0 (pa_cons (pv 0) (pa_cons (pe_lst (pa_cons pe_int (pa_cons pe_int (pa_cons pe_int (pa_cons pe_int (pa_cons pe_int (pa_cons pe_int pa_nil))))))) pa_nil))) pa_nil)))))
      (pss_cons (ps_set (i := 6) nd rfl (.inl rfl) (pe_call G3 hr (by rfl) m3 k3 b3 .nil pass0 (pa_cons (pv 0) (pa_cons (pv 2) (pa_cons (pe_call G2 hr2 (by rfl) m2 k2 b2 .nil pass0 (pa_cons (pv 0) (pa_cons (pe_lst (pa_cons pe_int (pa_cons pe_int (pa_cons pe_int (pa_cons pe_int (pa_cons pe_int (pa_cons pe_int (pa_cons pe_int pa_nil)))))))) pa_nil))) pa_nil)))))
      (pss_cons (ps_if (pt_cmpR op_eq (pe_call G4 hr1 (by rfl) m4 k4 b4 .nil pass0 (pa_cons (pv 1) (pa_cons (pv 5) pa_nil))) pe_int (nomark _)) (pss_one (ps_set (i := 5) nd rfl (.inl rfl) (pe_op op_add_str (pe_call G2 hr2 (by rfl) m2 k2 b2 .nil pass0 (pa_cons (pv 0) (pa_cons (pv 4) pa_nil))) (pe_slice sl_str (pv 5) (po_some pe_int) po_none)))) pss_nil)
      (pss_cons (ps_while PassesOwn.never (pt_cmpR op_ge (pe_call G4 hr1 (by rfl) m4 k4 b4 .nil pass0 (pa_cons (pv 1) (pa_cons (pv 6) pa_nil))) (pe_call G4 hr1 (by rfl) m4 k4 b4 .nil pass0 (pa_cons (pv 1) (pa_cons (pv 5) pa_nil))) (nomark _)) (pss_one (ps_set (i := 6) nd rfl (.inl rfl) (pe_slice sl_str (pv 6) (po_some pe_int) po_none))))
      (pss_cons (ps_set (i := 7) nd rfl (.inl rfl) (pe_call G2 hr2 (by rfl) m2 k2 b2 .nil pass0 (pa_cons (pv 0) (pa_cons (pe_lst (pa_cons (pe_tup (pa_cons pe_int (pa_cons pe_int pa_nil))) (pa_cons (pe_tup (pa_cons pe_int (pa_cons pe_int pa_nil))) (pa_cons (pe_tup (pa_cons pe_int (pa_cons pe_int pa_nil))) (pa_cons (pe_tup (pa_cons pe_int (pa_cons pe_int pa_nil))) (pa_cons (pe_tup (pa_cons pe_int (pa_cons pe_int pa_nil))) (pa_cons (pe_tup (pa_cons pe_int (pa_cons pe_int pa_nil))) pa_nil))))))) pa_nil))))
      (pss_one (ps_ret (pe_tup (pa_cons (pv 5) (pa_cons (pv 6) (pa_cons (pe_cmpR op_eq (bIxT (pv 7) pe_int) pe_int (nomark _)) (pa_cons (pe_cmpR op_eq (bIxT (pv 7) pe_int) pe_int (nomark _)) pa_nil))))))))))))), ?_⟩
    have po0 := po
    obtain ⟨xs, hL, pd, l1, l4, nde⟩ := po
    have nn := pd.nonneg
    have xl := pd.1
    refine ⟨_, rfl, L, rfl, ⟨_, SqL.of hL⟩, fun D hD => lcHeads hL pd (by omega) (fun _ => rfl) hD fun H1 s1 hD1 => ?_⟩
    have Dp := pen.ne1 hD
    have hL1 := s1 _ _ hL
    have pd1 : PairsD H1 xs es := pd.mono fun _ _ _ q => q.same s1
    refine ⟨_, rfl, L, rfl, ⟨_, SqL.of hL1⟩, fun D2 hD2 => ?_⟩
    refine lcSel walk_list (fun i H' acc => Same H1 H' ∧ ∃ ds : List Nat, acc = ds.map sg ∧ (∀ d ∈ ds, ∃ n, (d, n) ∈ es ∧ 0 < n) ∧ ((∃ j e, j < i ∧ es[j]? = some e ∧ 0 < e.2) → ds ≠ [])) (by rw [sizeLine_eq]; omega) ⟨Same.new hD2, [], rfl, (fun _ h => nomatch h), fun ⟨_, _, h, _⟩ => absurd h (Nat.not_lt_zero _)⟩ (fun i H' acc _ q => SqL.of (q.1 _ _ hL1)) (fun _ _ _ _ y => y.1) ?_ ?_
    · rintro i x H' acc Q' Qf hi hDl hla ⟨s2, ds, rfl, sub, some_⟩ ⟨_, hx⟩ hq hf
      have hi' : i < es.length := by omega
      obtain ⟨t, et, pt⟩ := pd1.2 i _ (List.getElem?_eq_getElem hi')
      rw [hx] at et
      cases et
      have tt := SqT.of (K := K) (pt.same s2).1
      refine ⟨_, rfl, t, _, 1, _, rfl, rfl, tt, rfl, _, _, rfl, rfl, _, rfl, ?_⟩
      by_cases z : 0 < es[i].2
      · rw [decide_eq_true z]
        refine iteT ⟨_, rfl, t, _, 0, _, rfl, rfl, tt, rfl, hq _ _ hDl ⟨Same.putNew hD2 s2, ds ++ [es[i].1], by rw [List.map_append]; rfl, fun d hd => ?_, fun _ z => by simp at z⟩⟩
        rcases List.mem_append.mp hd with hd | hd
        · exact sub d hd
        · rw [List.mem_singleton.mp hd]; exact ⟨_, List.getElem_mem hi', z⟩
      · rw [decide_eq_false z]
        refine iteF (hf _ hDl ⟨s2, ds, rfl, sub, fun ⟨j, e, hj, he, e0⟩ => some_ ⟨j, e, ?_, he, e0⟩⟩)
        rcases Nat.lt_or_ge j i with lt | ge
        · exact lt
        · obtain rfl : j = i := by omega
          rw [List.getElem?_eq_getElem hi'] at he
          cases he
          exact absurd e0 z
    rintro H2 acc hD3 hla ⟨s2, ds, rfl, sub, some_⟩
    have dne : ds ≠ [] := by
      obtain ⟨e, he, e0⟩ := pos
      obtain ⟨j, hj⟩ := List.mem_iff_getElem?.mp he
      exact some_ ⟨j, e, by have := (List.getElem?_eq_some_iff.mp hj).1; omega, hj, e0⟩
    have D2p := (pen.ext s1).ne1 hD2
    have i2 : Ink c p n H H2 := ((Ink.start pen).same s1).same s2
    have hD2' := s2 _ _ hD1
    have po2 : PairsOf H2 L es := po0.ext pen Lp i2.1
    have dl : ds.length ≤ 4 := by rw [List.length_map] at hla; omega
    clear some_ s1 s2 hL1 pd1 hD2 hD1 hD hla hL pd xl
    have csl : (es.map (·.1)).length = es.length := by simp
    refine ⟨_, rfl, _, rfl, _, rfl, by show 6 ≤ sizeLine; decide, fun l hl => ⟨c, p, n, by omega, i2.2.new hl, .inl ⟨l, _, rfl, i2.2.ne1 hl, upd_same, by decide, by decide, fun v H3 hv pen3 x3 => ?_⟩⟩⟩
    obtain ⟨m, rfl, mlo, mhi⟩ : ∃ m : Nat, v = .int (m : Int) ∧ 1 ≤ m ∧ m ≤ 4 := by
      simp only [List.mem_cons, List.not_mem_nil, or_false] at hv
      rcases hv with rfl | rfl | rfl | rfl | rfl | rfl
      · exact ⟨1, rfl, by decide, by decide⟩
      · exact ⟨1, rfl, by decide, by decide⟩
      · exact ⟨2, rfl, by decide, by decide⟩
      · exact ⟨2, rfl, by decide, by decide⟩
      · exact ⟨3, rfl, by decide, by decide⟩
      · exact ⟨4, rfl, by decide, by decide⟩
    have x3' : Ext1 p H2 H3 := Ext1.trans (Ext1.new hl) x3
    have i3 : Ink c p (n + 1) H H3 := ⟨Ext1.trans i2.1 x3', pen3⟩
    have hD3' := x3' _ _ Dp hD2'
    have hD23 := x3' _ _ D2p hD3
    clear hv hl x3 pen3 x3' i2 hD2' hD3 po2
    refine ⟨c, p, D, n + 1, m, es.map (·.1), rfl, by omega, by omega, i3.2, Dp, hD3', by omega, by omega, fun os H4 osub ol i4 => ?_⟩
    have i4' := Ink.trans i3 i4
    have hD4 := i4.1 _ _ Dp hD3'
    have hD24 := i4.1 _ _ D2p hD23
    clear i3 i4 hD3' hD23
    refine ⟨_, rfl, _, rfl, _, rfl, by show 7 ≤ sizeLine; decide, fun l hl => ⟨c, p, n + 1 + 10, by omega, i4'.2.new hl, .inl ⟨l, _, rfl, i4'.2.ne1 hl, upd_same, by decide, by decide, fun v H5 hv pen5 x5 => ?_⟩⟩⟩
    obtain ⟨m2, rfl, mhi2⟩ : ∃ m : Nat, v = .int (m : Int) ∧ m ≤ 4 := by
      simp only [List.mem_cons, List.not_mem_nil, or_false] at hv
      rcases hv with rfl | rfl | rfl | rfl | rfl | rfl | rfl
      · exact ⟨1, rfl, by decide⟩
      · exact ⟨0, rfl, by decide⟩
      · exact ⟨1, rfl, by decide⟩
      · exact ⟨2, rfl, by decide⟩
      · exact ⟨2, rfl, by decide⟩
      · exact ⟨3, rfl, by decide⟩
      · exact ⟨4, rfl, by decide⟩
    have x5' : Ext1 p H4 H5 := Ext1.trans (Ext1.new hl) x5
    have i5 : Ink c p (n + 1 + 10 + 1) H H5 := ⟨Ext1.trans i4'.1 x5', pen5⟩
    have hD5 := x5' _ _ Dp hD4
    have hD25 := x5' _ _ D2p hD24
    clear hv hl x5 pen5 x5' i4' hD4 hD24
    refine ⟨c, p, D, n + 1 + 10 + 1, m2, es.map (·.1), rfl, by omega, by omega, i5.2, Dp, hD5, by omega, by omega, fun ns H6 nsub nl i6 => ?_⟩
    have i6' := Ink.trans i5 i6
    have hD26 := i6.1 _ _ D2p hD25
    clear i5 i6 hD5 hD25
    have po6 : PairsOf H6 L es := po0.ext pen Lp i6'.1
    have olm : os.length = m := ol
    have finish : ∀ (os' : List Nat) (H7 : Hp) (N : Nat), Ink c p N H H7 → N ≤ n + 29 → (∀ d ∈ os', d ∈ es.map (·.1)) → os'.length = m → 0 < wtC es os' →
        tRuleEnd K { nx := fun x H' => Q .non H', rt := Q } [some (.ref p), some (.ref L), some (.ref D), none, some (.ref D2), some (.str ⟨os'.toArray⟩), some (.str ⟨ns.toArray⟩), none] H7 := fun os' H7 N i7 nn7 sub7 ol7 w7 =>
      rule_end pen Lp po0 (by omega) i7 sub7 nsub (by omega) (by omega) (by omega) w7 fun d H' t gd rt i => k d H' t gd rt (i.mono (by omega))
    have po6' := po6
    obtain ⟨xs6, hL6, pd6, _⟩ := po6'
    refine ⟨_, rfl, _, rfl, L, xs6, es, os, rfl, hL6, pd6, l4, nde, osub, by omega, fun H7 s7 => ?_⟩
    have i7 := i6'.same s7
    have hD27 := s7 _ _ hD26
    refine ⟨rfl, _, rfl, ?_⟩
    by_cases z : wtC es os = 0
    · rw [decide_eq_true (show V.int (wtC es os) = V.int 0 by rw [z])]
      refine iteT ⟨_, rfl, _, rfl, c, p, n + 1 + 10 + 1 + 10, by omega, i7.2, .inl ⟨D2, _, rfl, D2p, hD27, by rw [List.length_map]; exact List.length_pos_iff.mpr dne, by rw [List.length_map]; omega, fun v H8 hv pen8 x8 => ?_⟩⟩
      obtain ⟨d, hd, rfl⟩ := List.mem_map.mp hv
      obtain ⟨z1, hz1, hz2⟩ := sub d hd
      refine ⟨_, rfl, _, rfl, _, rfl, len_small (by show os.toArray.size ≤ _; rw [List.size_toArray]; omega), ?_⟩
      rw [cut_tail]
      refine ⟨_, _, rfl, rfl, by show 1 + (os.drop 1).toArray.size ≤ _; rw [List.size_toArray, List.length_drop, sizeLine_eq]; omega, ?_⟩
      have ej : (⟨#[d]⟩ : Str) ++ ⟨(os.drop 1).toArray⟩ = ⟨(d :: os.drop 1).toArray⟩ := by
        show (⟨#[d] ++ (os.drop 1).toArray⟩ : Str) = _
        simp
      rw [ej]
      refine finish (d :: os.drop 1) H8 _ ⟨Ext1.trans i7.1 x8, pen8⟩ (by omega) (fun e he => ?_) (by rw [List.length_cons, List.length_drop]; omega) (wtC_pos nn hz1 hz2 List.mem_cons_self)
      rcases List.mem_cons.mp he with rfl | he
      · exact mem_heads hz1
      · exact osub e (List.mem_of_mem_drop he)
    · rw [decide_eq_false (fun q => z (V.int.inj q))]
      have := wtC_nonneg (l := os) nn
      exact iteF (finish os H7 _ i7 (by omega) osub ol (by omega))
end
end Kx
set_option Elab.async false
set_option maxRecDepth 100000
set_option autoImplicit false
set_option pp.maxSteps 400
set_option pp.deepTerms false
/-! items of lists of rules; _law_rules -/
namespace Kx
open PySem L2 PySem.Spec PyProof.Rows Rg Er Ru Tn
abbrev sRules : Stmt := top 42
/-- what may stand in a list that a book is asked of -/
inductive Itm where
  | non | text | empty | seven
  | rule (d : RD)
  deriving DecidableEq
def itD : Itm → PyData
  | .non => .none
  | .text => .str "x>o"
  | .empty => .tuple []
  | .seven => .int 7
  | .rule d => .tuple [.str d.1, .str d.2.1, .bool d.2.2.1, .bool d.2.2.2]
def ItAt (H : Hp) (v : V) : Itm → Prop
  | .non => v = .non
  | .text => v = .str "x>o"
  | .empty => ∃ t, v = .ref t ∧ H t = some (.tup [])
  | .seven => v = .int 7
  | .rule d => ∃ t, v = .ref t ∧ RuleAt H t d
def OkR (d : RD) : Prop := lets 1 d.1 = true ∧ lets 0 d.2.1 = true
def OkIt : Itm → Prop
  | .rule d => OkR d
  | _ => True
def ItsAt (H : Hp) (xs : List V) (is : List Itm) : Prop := xs.length = is.length ∧ ∀ (i : Nat) (it : Itm), is[i]? = some it → ∃ v, xs[i]? = some v ∧ ItAt H v it
/-- all but p stands, and p is a list -/
theorem ItAt.ext {c p : Addr} {n : Nat} {H H' : Hp} {v : V} {it : Itm} (pen : PenAt c n H p) (h : ItAt H v it) (e : Ext1 p H H') : ItAt H' v it := by
  have np : ∀ t ys, H t = some (.tup ys) → t ≠ p := by
    rintro t ys h rfl
    obtain ⟨_, _, _, q, _⟩ := pen
    rw [h] at q
    cases q
  cases it with
  | non => exact h
  | text => exact h
  | seven => exact h
  | empty => obtain ⟨t, rfl, h⟩ := h; exact ⟨t, rfl, e _ _ (np _ _ h) h⟩
  | rule d => obtain ⟨t, rfl, h⟩ := h; exact ⟨t, rfl, e _ _ (np _ _ h) h⟩
theorem ItAt.same {H H' : Hp} {v : V} {it : Itm} (h : ItAt H v it) (e : Same H H') : ItAt H' v it := by
  cases it with
  | non => exact h
  | text => exact h
  | seven => exact h
  | empty => obtain ⟨t, rfl, h⟩ := h; exact ⟨t, rfl, e _ _ h⟩
  | rule d => obtain ⟨t, rfl, h⟩ := h; exact ⟨t, rfl, e _ _ h⟩
/-- a list is put anew: no item of it is one -/
theorem ItAt.put {H : Hp} {v : V} {it : Itm} {l : Addr} {xs ys : List V} (h : ItAt H v it) (hl : H l = some (.lst xs)) : ItAt (upd H l (.lst ys)) v it := by
  have np : ∀ t ys, H t = some (.tup ys) → t ≠ l := by
    rintro t ys h rfl
    rw [h] at hl
    cases hl
  cases it with
  | non => exact h
  | text => exact h
  | seven => exact h
  | empty => obtain ⟨t, rfl, h⟩ := h; exact ⟨t, rfl, by rw [upd_ne (np _ _ h)]; exact h⟩
  | rule d => obtain ⟨t, rfl, h⟩ := h; exact ⟨t, rfl, by show upd _ _ _ _ = _; rw [upd_ne (np _ _ h)]; exact h⟩
theorem ItsAt.mono {H H' : Hp} {xs : List V} {is : List Itm} (h : ItsAt H xs is) (e : ∀ v it, ItAt H v it → ItAt H' v it) : ItsAt H' xs is := ⟨h.1, fun i it q => let ⟨v, a, b⟩ := h.2 i it q; ⟨v, a, e _ _ b⟩⟩
theorem ItsAt.snoc {H : Hp} {xs : List V} {is : List Itm} {v : V} {it : Itm} (h : ItsAt H xs is) (q : ItAt H v it) : ItsAt H (xs ++ [v]) (is ++ [it]) := by
  refine ⟨by simp [h.1], fun i e he => ?_⟩
  have hl := h.1
  by_cases lt : i < is.length
  · rw [List.getElem?_append_left lt] at he
    rw [List.getElem?_append_left (by omega)]
    exact h.2 i e he
  · rw [List.getElem?_append_right (by omega)] at he
    obtain ⟨i0, ei⟩ := List.getElem?_eq_some_iff.mp he
    have i0' : i - is.length = 0 := by simp at i0; omega
    rw [List.getElem?_append_right (by omega), show i - xs.length = 0 by omega]
    rw [i0'] at he
    cases he
    exact ⟨v, rfl, q⟩
theorem eqv_it (a b : Itm) : PyData.eqv (itD a) (itD b) = decide (a = b) := by
  cases a with
  | rule d =>
    cases b with
    | rule e =>
      obtain ⟨d1, d2, d3, d4⟩ := d
      obtain ⟨e1, e2, e3, e4⟩ := e
      rw [Bool.eq_iff_iff]
      simp [itD, PyData.eqv, PyData.eqvAll, and_assoc]
    | _ => simp [itD, PyData.eqv, PyData.eqvAll]
  | non => cases b <;> simp [itD, PyData.eqv, PyData.eqvAll]
  | text => cases b <;> simp [itD, PyData.eqv, PyData.eqvAll]
  | empty => cases b <;> simp [itD, PyData.eqv, PyData.eqvAll]
  | seven => cases b <;> simp [itD, PyData.eqv, PyData.eqvAll]
theorem any_it (is : List Itm) (it : Itm) : ((is.map itD).any fun z => PyData.eqv z (itD it)) = decide (it ∈ is) := by
  rw [Bool.eq_iff_iff, List.any_eq_true, decide_eq_true_iff]
  constructor
  · rintro ⟨z, hz, e⟩
    obtain ⟨a, ha, rfl⟩ := List.mem_map.mp hz
    rw [eqv_it] at e
    rw [← of_decide_eq_true e]
    exact ha
  · intro h
    exact ⟨itD it, List.mem_map.mpr ⟨it, h, rfl⟩, by rw [eqv_it]; exact decide_eq_true rfl⟩
theorem lets_abc {lo : Nat} {z : Str} (h : lets lo z = true) : ∀ c ∈ z.cps.toList, c ∈ abc.cps.toList := by
  unfold lets at h
  rw [Bool.and_eq_true] at h
  intro c hc
  exact of_decide_eq_true (List.all_eq_true.mp h.2 c hc)
theorem strOk_abc {z : Str} (h : ∀ c ∈ z.cps.toList, c ∈ abc.cps.toList) : PyData.strOk z = true := by
  unfold PyData.strOk
  rw [← Array.all_toList, List.all_eq_true]
  intro c hc
  exact decide_eq_true (abc_lt (h c hc))
theorem lay_it {it : Itm} (h : OkIt it) : (itD it).canLay0 = true ∧ (itD it).depth ≤ 1 := by
  cases it with
  | rule d =>
    have h1 := strOk_abc (lets_abc h.1)
    have h2 := strOk_abc (lets_abc h.2)
    constructor
    · simp [itD, PyData.canLay0, PyData.canLayAll0, h1, h2]
    · simp [itD, PyData.depth, PyData.depthAll]
  | non => exact ⟨rfl, by decide⟩
  | text => exact ⟨by decide +kernel, by decide +kernel⟩
  | empty => exact ⟨by simp [itD, PyData.canLay0, PyData.canLayAll0], by simp [itD, PyData.depth, PyData.depthAll]⟩
  | seven => exact ⟨by simp [itD, PyData.canLay0], by simp [itD, PyData.depth]⟩
theorem lay_its : ∀ {is : List Itm}, (∀ it ∈ is, OkIt it) → PyData.canLayAll0 (is.map itD) = true ∧ PyData.depthAll (is.map itD) ≤ 1
  | [], _ => ⟨rfl, Nat.zero_le _⟩
  | it :: r, h => by
    obtain ⟨a, b⟩ := lay_its (is := r) fun x hx => h x (List.mem_cons_of_mem _ hx)
    obtain ⟨c, d⟩ := lay_it (h it List.mem_cons_self)
    refine ⟨by simp only [List.map_cons, PyData.canLayAll0, c, a, Bool.and_self], ?_⟩
    simp only [List.map_cons, PyData.depthAll]
    omega
theorem shaped_it {it : Itm} (h : OkIt it) : SeqAt.shaped (itD it) = true := by
  obtain ⟨a, b⟩ := lay_it h
  show ((itD it).canLay0 && decide ((itD it).depth ≤ 64)) = true
  rw [a, decide_eq_true (by omega)]
  rfl
theorem shaped_its {is : List Itm} (h : ∀ it ∈ is, OkIt it) : SeqAt.shaped (.list (is.map itD)) = true := by
  obtain ⟨a, b⟩ := lay_its h
  show (PyData.canLayAll0 (is.map itD) && decide (PyData.depthAll (is.map itD) + 1 ≤ 64)) = true
  rw [a, decide_eq_true (by omega)]
  rfl
theorem ItAt.dp {K : PySem.W.Frag} {H : Hp} {v : V} {it : Itm} (h : ItAt H v it) : Dp K H v (itD it) := by
  cases it with
  | non => cases h; exact .non
  | text => cases h; exact .str _
  | seven => cases h; exact .int _
  | empty => obtain ⟨t, rfl, h⟩ := h; exact .tup (SqT.of h) .nil
  | rule d => obtain ⟨t, rfl, h⟩ := h; exact .tup (SqT.of h) (.cons (.str _) (.cons (.str _) (.cons (.bl _) (.cons (.bl _) .nil))))
theorem dp_its {K : PySem.W.Frag} {H : Hp} : ∀ {xs : List V} {is : List Itm}, ItsAt H xs is → DpAll K H xs (is.map itD)
  | [], [], _ => .nil
  | [], _ :: _, h => by have := h.1; simp at this
  | _ :: _, [], h => by have := h.1; simp at this
  | x :: r, e :: t, h => by
    obtain ⟨v, hv, p⟩ := h.2 0 e rfl
    cases hv
    exact .cons p.dp (dp_its ⟨by have := h.1; simpa using this, fun i f q => h.2 (i + 1) f q⟩)
theorem GoodR.ok {es : List (Nat × Int)} {d : RD} (abcs : ∀ e ∈ es, e.1 ∈ abc.cps.toList) (h : GoodR es d) : OkR d := by
  obtain ⟨h1, h2, h3, h4, h5, _⟩ := h
  have q : ∀ c, c ∈ es.map (·.1) → isL c = true := fun c hc => by
    obtain ⟨e, he, rfl⟩ := List.mem_map.mp hc
    exact decide_eq_true (abcs e he)
  constructor
  · unfold lets
    rw [decide_eq_true h3, decide_eq_true h4, List.all_eq_true.mpr fun c hc => q c (h1 c hc)]
    rfl
  · unfold lets
    rw [decide_eq_true (Nat.zero_le _), decide_eq_true h5, List.all_eq_true.mpr fun c hc => q c (h2 c hc)]
    rfl
theorem PairsOf.abc {H : Hp} {L : Addr} {es : List (Nat × Int)} (h : PairsOf H L es) : ∀ e ∈ es, e.1 ∈ Kx.abc.cps.toList := by
  obtain ⟨xs, _, pd, _⟩ := h
  exact pd.abc
/-- at F a list of these items -/
def ItsOf (H : Hp) (F : Addr) (is : List Itm) : Prop := ∃ xs, H F = some (.lst xs) ∧ ItsAt H xs is
theorem ItsOf.same {H H' : Hp} {F : Addr} {is : List Itm} (h : ItsOf H F is) (e : Same H H') : ItsOf H' F is := by
  obtain ⟨xs, h1, h2⟩ := h
  exact ⟨xs, e _ _ h1, h2.mono fun _ _ q => q.same e⟩
theorem ItsOf.ext {c p F : Addr} {n : Nat} {H H' : Hp} {is : List Itm} (pen : PenAt c n H p) (Fp : F ≠ p) (h : ItsOf H F is) (e : Ext1 p H H') : ItsOf H' F is := by
  obtain ⟨xs, h1, h2⟩ := h
  exact ⟨xs, e _ _ Fp h1, h2.mono fun _ _ q => q.ext pen e⟩
def spRules : Sp := fun vs H Q _ => ∃ (c p L : Addr) (n cap : Nat) (es : List (Nat × Int)), vs = [.ref p, .ref L, .int (cap : Int)] ∧ cap ≤ 8 ∧ n ≤ 700000 ∧ PenAt c n H p ∧ L ≠ p ∧ PairsOf H L es ∧ (∃ e ∈ es, 0 < e.2) ∧
  ∀ (F : Addr) H' (ds : List RD), F ≠ p → ItsOf H' F (ds.map .rule) → (∀ d ∈ ds, GoodR es d) → ds.Nodup → ds.length ≤ cap → Ink c p (n + 300) H H' → Q (.ref F) H'
theorem room65 {k : Nat} {A : Around} (r : Room (k + 1) A) : A.units + 65 < cLine := by have := r.un; omega
section
variable {P : Program} {w : World} {K : PySem.W.Frag} {mg : Str → Option Value} {base : Heap}
abbrev nRules : List Str := ["_law_pen_here", "_law_pairs_here", "_law_cap", "_law_found", "_law_k", "_law_rule_here"]
theorem scRules : FnScope nRules ["_law_pen_here", "_law_pairs_here", "_law_cap"] (defScope sRules) := ⟨rfl, rfl, rfl, by decide +kernel, rfl, by decide +kernel, by decide +kernel⟩
theorem ok_rules {f f1 f2 : Addr} {fd fd1 fd2 : FuncData} (F : L2.Fun K "_law_rules" "_law_rules" sRules f fd) (T : Txt mg)
    (G1 : FnOk P w K mg base CX0 1 f1 fd1 ["_law_pen_here", "_law_many"] spDraw) (m1 : mg "_law_draw" = some (.ref f1)) (k1 : PySem.W.keepIn K (.ref f1) = true) (b1 : L2.Binds K fd1 ["_law_pen_here", "_law_many"] [])
    (G2 : FnOk P w K mg base CX0 4 f2 fd2 ["_law_pen_here", "_law_pairs_here"] spRule) (m2 : mg "_law_rule" = some (.ref f2)) (k2 : PySem.W.keepIn K (.ref f2) = true) (b2 : L2.Binds K fd2 ["_law_pen_here", "_law_pairs_here"] []) :
    FnOk P w K mg base CX0 5 f fd ["_law_pen_here", "_law_pairs_here", "_law_cap"] spRules := by
  refine F.ok scRules (fun vs H Q E h => ?_) (fun cdv A outer s H vs Q E hr h => ?_)
  · obtain ⟨c, p, L, n, cap, es, rfl, _⟩ := h
    rfl
  · obtain ⟨c, p, L, n, cap, es, rfl, cb, nb, pen, Lp, po, pos, k⟩ := h
    have nd := scRules.nd
    have hr1 := hr.mono (show 1 ≤ 4 by decide)
    have hu65 := room65 hr
    refine ⟨_, pss_cons (ps_set (i := 3) nd rfl (.inl rfl) (pe_lst pa_nil))
      (pss_cons (ps_for PassesOwn.never rfl (pi_range1 (by rfl) T.range (pa_cons (pe_call G1 hr1 (by rfl) m1 k1 b1 .nil pass0 (pa_cons (pv 0) (pa_cons (pe_op op_add (pv 2) pe_int) pa_nil))) pa_nil)) (pg_name (i := 4) nd rfl (Or.inl rfl)) (pss_cons (ps_set (i := 5) nd rfl (.inl rfl) (pe_call G2 hr (by rfl) m2 k2 b2 .nil pass0 (pa_cons (pv 0) (pa_cons (pv 1) pa_nil))))
      (pss_one (ps_if (pt_cmpR (op_notInD hu65) (pv 5) (pv 3) rfl) (pss_one (ps_expr (pe_bm PySem.F.plainAttrs_list PySem.F.slot_list_append PySem.F.type_list_append mt_append (pv 3) (pa_cons (pv 5) pa_nil)))) pss_nil))))
      (pss_one (ps_ret (pv 3)))), ?_⟩
    refine ⟨Nat.zero_le _, fun F hF => ?_⟩
    have Fp := pen.ne1 hF
    have dF : PenAt c n (upd H F (.lst [])) p := pen.new hF
    have eF : upd H F (.lst []) F = some (.lst []) := upd_same
    have sF : Same H (upd H F (.lst [])) := Same.new hF
    generalize upd H F (.lst []) = H1 at dF eF sF ⊢
    refine ⟨_, rfl, _, rfl, _, _, rfl, rfl, ?_⟩
    refine ⟨c, p, (cap : Int) + 1, n, rfl, by omega, by omega, by omega, dF, fun r H2 r0 r1 pen2 x2 => ?_⟩
    refine ⟨r.toNat, by rw [show ((r.toNat : Nat) : Int) = r by omega], by omega, by omega, ?_⟩
    have ink0 : Ink c p (n + 1) H H2 := ⟨Ext1.trans (Same.ext1 p sF) x2, pen2⟩
    have eF2 := x2 _ _ Fp eF
    refine for_it walk_range (fun i σ' G => ∃ y4 y5, σ' = [some (.ref p), some (.ref L), some (.int (cap : Int)), some (.ref F), y4, y5] ∧ Ink c p (n + 1 + 30 * i) H G ∧ ∃ ds : List RD, ItsOf G F (ds.map .rule) ∧ (∀ d ∈ ds, GoodR es d) ∧ ds.Nodup ∧ ds.length ≤ i)
      ⟨_, _, rfl, ink0, [], ⟨[], eF2, rfl, fun i it h => nomatch h⟩, (fun d h => nomatch h), List.nodup_nil, Nat.le_refl _⟩ (fun _ _ _ _ _ => trivial) ?_ ?_
    · rintro i x σ' G G' hi ⟨y4, y5, rfl, ink, ds, its, good, ndd, dl⟩ ⟨rfl, rfl⟩
      refine ⟨_, rfl, _, rfl, c, p, L, n + 1 + 30 * i, es, rfl, by omega, ink.2, Lp, po.ext pen Lp ink.1, pos, fun d G2 t gd rt i2 => ?_⟩
      have its2 := its.ext ink.2 Fp i2.1
      have abcs := po.abc
      obtain ⟨xs, h1, h2⟩ := its2
      have ok : ∀ it ∈ ds.map Itm.rule, OkIt it := fun it h => by
        obtain ⟨d, hd, rfl⟩ := List.mem_map.mp h
        exact (good d hd).ok abcs
      refine ⟨_, rfl, _, rfl, itD (.rule d), (ds.map Itm.rule).map itD, ItAt.dp (it := .rule d) ⟨t, rfl, rt⟩, .lst (SqL.of h1) (dp_its h2), shaped_it (it := .rule d) (gd.ok abcs), shaped_its ok, _, rfl, ?_⟩
      rw [any_it]
      have inkn : Ink c p (n + 1 + 30 * (i + 1)) H G2 := (Ink.trans ink i2).mono (by omega)
      by_cases m : Itm.rule d ∈ ds.map Itm.rule
      · rw [decide_eq_true m]
        exact iteF ⟨_, _, rfl, inkn, ds, ⟨xs, h1, h2⟩, good, ndd, by omega⟩
      · rw [decide_eq_false m]
        have xl := h2.1
        refine iteT ⟨_, rfl, .inl ⟨rfl, _, SqL.of h1⟩, ?_⟩
        refine ⟨_, rfl, F, _, _, rfl, rfl, h1, by rw [sizeLine_eq, xl, List.length_map]; have : i < r.toNat := hi; omega, ?_⟩
        refine ⟨_, _, rfl, Ink.putNew inkn pen hF, ds ++ [d], ⟨xs ++ [.ref t], upd_same, ?_⟩, fun e he => ?_, ?_, by simp; omega⟩
        · rw [List.map_append]
          exact (h2.mono fun _ _ q => q.put h1).snoc (ItAt.put (it := .rule d) ⟨t, rfl, rt⟩ h1)
        · rcases List.mem_append.mp he with he | he
          · exact good e he
          · rw [List.mem_singleton.mp he]; exact gd
        · rw [List.nodup_append]
          refine ⟨ndd, by simp, fun a ha b hb z => ?_⟩
          rw [List.mem_singleton.mp hb] at z
          exact m (List.mem_map.mpr ⟨a, ha, by rw [z]⟩)
    · rintro σ' G ⟨y4, y5, rfl, ink, ds, its, good, ndd, dl⟩
      exact ⟨_, rfl, k F G ds Fp its good ndd (by omega) (ink.mono (by omega))⟩
end
end Kx
set_option Elab.async false
set_option maxRecDepth 100000
set_option autoImplicit false
set_option pp.maxSteps 400
set_option pp.deepTerms false
/-! _law_made -/
namespace Kx
open PySem L2 PySem.Spec PyProof.Rows Rg Er Ru Tn
abbrev sMade : Stmt := top 43
/-- what an item becomes: a rule, or itself -/
def MadeOf (C : Addr) (H : Hp) (v u : V) : Itm → Prop
  | .rule d => ∃ a, u = .ref a ∧ RlD C H a d
  | _ => u = v
theorem OkR.le {d : RD} (h : OkR d) : d.1.length ≤ 4 ∧ d.2.1.length ≤ 4 ∧ 1 ≤ d.1.length := by
  obtain ⟨h1, h2⟩ := h
  unfold lets at h1 h2
  simp only [Bool.and_eq_true, decide_eq_true_eq] at h1 h2
  exact ⟨h1.1.2, h2.1.2, h1.1.1⟩
def spMade (C : Addr) : Sp := fun vs H Q _ => ∃ (v : V) (it : Itm), vs = [v] ∧ ItAt H v it ∧ OkIt it ∧ ∀ H' u, Same H H' → MadeOf C H' v u it → Q u H'
section
variable {P : Program} {w : World} {K : PySem.W.Frag} {mg : Str → Option Value} {base : Heap}
theorem scMade : FnScope ["_law_rule_here"] ["_law_rule_here"] (defScope sMade) := ⟨rfl, rfl, rfl, by decide +kernel, rfl, by decide +kernel, by decide +kernel⟩
theorem ok_made {C CR f fi : Addr} {fd fdi : FuncData} (F : L2.Fun K "_law_made" "_law_made" sMade f fd) (T : Txt mg) (M : RT K mg C)
    (mk_ : Mk K C fi) (GI : FnOk P w K mg base (L2.CX P w) 3 fi fdi nInit (spRInit K C CR)) (kb : KBn K fdi nInit 3 ["left", "right"] gKw gKwV) :
    FnOk P w K mg base CX0 5 f fd ["_law_rule_here"] (spMade C) := by
  refine F.ok scMade (fun vs H Q E h => ?_) (fun cdv A outer s H vs Q E hr h => ?_)
  · obtain ⟨v, it, rfl, _⟩ := h
    rfl
  · obtain ⟨v, it, rfl, at_, ok, k⟩ := h
    refine ⟨_, pss_cons (ps_if (PW.pt (pw_or (pt_not (pt_val (bIsi (by rfl) T.isi (pv 0) (pe_bltn (v := .ty "tuple") (by rfl) T.tuple (by decide +kernel) rfl)))) (pw_or1 (pt_cmpR op_ne (bLen (by rfl) T.len (pv 0)) pe_int (nomark _))))) (pss_one (ps_ret (pv 0))) pss_nil)
      (pss_one (ps_ret (pe_makeK mk_ GI hr (by rfl) M.mgC kb passesF (pa_cons (bIxT (pv 0) pe_int) (pa_cons (bIxT (pv 0) pe_int) pa_nil)) (pk_cons (bIxT (pv 0) pe_int) (pk_cons (bIxT (pv 0) pe_int) pk_nil))))), ?_⟩
    cases it with
    | non =>
      cases at_
      exact ⟨_, rfl, .non, .ty "tuple", _, _, false, rfl, .ty "tuple", .base .non, kit_ty (by decide +kernel), false, rfl, iteT (iteT ⟨_, rfl, k H _ (Same.refl H) rfl⟩)⟩
    | text =>
      cases at_
      exact ⟨_, rfl, .str _, .ty "tuple", _, _, false, rfl, .ty "tuple", .base (.str _), kit_ty (by decide +kernel), false, rfl, iteT (iteT ⟨_, rfl, k H _ (Same.refl H) rfl⟩)⟩
    | seven =>
      cases at_
      exact ⟨_, rfl, .int _, .ty "tuple", _, _, false, rfl, .ty "tuple", .base (.int _), kit_ty (by decide +kernel), false, rfl, iteT (iteT ⟨_, rfl, k H _ (Same.refl H) rfl⟩)⟩
    | empty =>
      obtain ⟨t, rfl, ht⟩ := at_
      refine ⟨_, rfl, .ref t, .ty "tuple", _, _, true, rfl, .ty "tuple", .base (.tup ht), kit_ty (by decide +kernel), true, rfl, iteF ?_⟩
      exact ⟨_, rfl, _, 0, rfl, .inr ⟨_, SqT.of ht, rfl⟩, rfl, _, rfl, iteT ⟨_, rfl, k H _ (Same.refl H) rfl⟩⟩
    | rule d =>
      obtain ⟨t, rfl, ht⟩ := at_
      obtain ⟨l4, n4, _⟩ := OkR.le ok
      have tt := SqT.of (K := K) ht
      refine ⟨_, rfl, .ref t, .ty "tuple", _, _, true, rfl, .ty "tuple", .base (.tup ht), kit_ty (by decide +kernel), true, rfl, iteF ?_⟩
      refine ⟨_, rfl, _, 4, rfl, .inr ⟨_, tt, rfl⟩, rfl, _, rfl, iteF ?_⟩
      refine ⟨_, rfl, t, _, 0, _, rfl, rfl, tt, rfl, _, rfl, t, _, 1, _, rfl, rfl, tt, rfl, _, rfl, t, _, 2, _, rfl, rfl, tt, rfl, _, rfl, t, _, 3, _, rfl, rfl, tt, rfl, rfl, rfl, fun q dq hq hdq ne => ?_⟩
      refine ⟨q, dq, .str d.1, .str d.2.1, .bl d.2.2.1, .bl d.2.2.2, true, true, true, true, rfl, upd_same, .inl ⟨_, rfl, by omega, ok.1.symm⟩, .inl ⟨_, rfl, by omega, ok.2.symm⟩, ⟨_, .base (.bl _), kit_ty (by decide +kernel)⟩, ⟨_, .base (.bl _), kit_ty (by decide +kernel)⟩, ?_⟩
      exact fun H' e1 h' => ⟨rfl, k H' _ (same_ext1 hq (made_same hq hdq) e1) ⟨q, rfl, ⟨dq, h'⟩, l4, n4⟩⟩
end
end Kx
set_option Elab.async false
set_option maxRecDepth 100000
set_option autoImplicit false
set_option pp.maxSteps 400
set_option pp.deepTerms false
/-! _law_due -/
namespace Kx
open PySem L2 PySem.Spec PyProof.Rows Rg Er Ru Tn
abbrev sDue : Stmt := top 45
def optR : Itm → Option RD
  | .rule d => some d
  | _ => none
/-- what a book of these is to tell: nothing, or a word and a place -/
def dueOf (es : List (Nat × Int)) (is : List Itm) : Option (Str × Option Nat) :=
  if 8 < is.length then some ("book", none) else
    match firstBad es 0 [] (is.map optR) with
    | some i => some ("book", some i)
    | none => match firstHeavy es 0 (is.filterMap optR) with
      | some i => some ("heavier", some i)
      | none => none
def plV : Option Nat → V
  | none => .non
  | some i => .int (i : Int)
def ToldAs (H : Hp) (t : Addr) (w : Str × Option Nat) : Prop := H t = some (.lst [.str w.1, plV w.2])
theorem flatSgs (cs : List Nat) : (cs.map sg).all flatV = true := by
  rw [List.all_map]
  exact List.all_eq_true.mpr fun _ _ => rfl
theorem inV_sg (c : Nat) (ds : List Nat) : inV (sg c) (ds.map sg) = decide (c ∈ ds) := by
  refine Bool.eq_iff_iff.mpr ?_
  unfold inV
  rw [List.any_eq_true, decide_eq_true_iff]
  constructor
  · rintro ⟨y, hy, e⟩
    obtain ⟨d, hd, rfl⟩ := List.mem_map.mp hy
    have e' : ((⟨#[d]⟩ : Str) == ⟨#[c]⟩) = true := e
    rw [beq_iff_eq] at e'
    have := congrArg (fun s : Str => s.cps.toList) e'
    have : d = c := by simpa using this
    rw [← this]; exact hd
  · intro h
    exact ⟨sg c, List.mem_map.mpr ⟨c, h, rfl⟩, by show ((⟨#[c]⟩ : Str) == ⟨#[c]⟩) = true; exact beq_self_eq_true _⟩
theorem dpSgs {K : PySem.W.Frag} {H : Hp} : ∀ ds : List Nat, DpAll K H (ds.map sg) (ds.map fun c => PyData.str ⟨#[c]⟩)
  | [] => .nil
  | c :: r => .cons (.str _) (dpSgs r)
theorem shapedSgs {ds : List Nat} (h : ∀ c ∈ ds, c ∈ abc.cps.toList) : SeqAt.shaped (.list (ds.map fun c => PyData.str ⟨#[c]⟩)) = true := by
  have : PyData.canLayAll0 (ds.map fun c => PyData.str ⟨#[c]⟩) = true ∧ PyData.depthAll (ds.map fun c => PyData.str ⟨#[c]⟩) = 0 := by
    induction ds with
    | nil => exact ⟨rfl, rfl⟩
    | cons c r ih =>
      obtain ⟨a, b⟩ := ih fun x hx => h x (List.mem_cons_of_mem _ hx)
      have lt := abc_lt (h c List.mem_cons_self)
      refine ⟨?_, ?_⟩
      · simp only [List.map_cons, PyData.canLayAll0, PyData.canLay0, a, Bool.and_true]
        simpa [PyData.strOk] using lt
      · simp only [List.map_cons, PyData.depthAll, PyData.depth, b]
        rfl
  show (PyData.canLayAll0 _ && decide (PyData.depthAll _ + 1 ≤ 64)) = true
  rw [this.1, this.2]
  rfl
theorem eqv_nilS (ds : List Nat) : PyData.eqv (.list (ds.map fun c => PyData.str ⟨#[c]⟩)) (.list []) = ds.isEmpty := by
  cases ds <;> simp [PyData.eqv, PyData.eqvAll]
def spDue : Sp := fun vs H Q _ => ∃ (L F : Addr) (es : List (Nat × Int)) (is : List Itm), vs = [.ref L, .ref F] ∧ PairsOf H L es ∧ ItsOf H F is ∧ (∀ it ∈ is, OkIt it) ∧ is.length ≤ 100 ∧
  ∀ H', Same H H' → match dueOf es is with
    | none => Q .non H'
    | some w => ∀ t, ToldAs H' t w → Q (.ref t) H'
theorem ItsAt.take {H : Hp} {xs : List V} {is : List Itm} (h : ItsAt H xs is) (j : Nat) : ItsAt H (xs.take j) (is.take j) := by
  refine ⟨by rw [List.length_take, List.length_take, h.1], fun i it q => ?_⟩
  have lt : i < j := by
    have := (List.getElem?_eq_some_iff.mp q).1
    rw [List.length_take] at this; omega
  rw [List.getElem?_take_of_lt lt] at q
  obtain ⟨v, hv, a⟩ := h.2 i it q
  exact ⟨v, by rw [List.getElem?_take_of_lt lt]; exact hv, a⟩
theorem cut_to {xs : List V} {j : Nat} (h : j ≤ xs.length) : cutV xs none (some (j : Int)) = xs.take j := by
  unfold cutV
  rw [show HT.sIx xs.length 0 none = 0 from rfl, HT.sIx_nat, List.drop_zero, Nat.sub_zero, Nat.min_eq_left h]
theorem odd_out {es : List (Nat × Int)} {d : RD} : ((d.1 ++ d.2.1).cps.toList.filter fun c => !decide (c ∈ es.map (·.1))).isEmpty = inCs es d := by
  unfold inCs
  rw [Bool.eq_iff_iff, List.isEmpty_iff, List.filter_eq_nil_iff, List.all_eq_true]
  constructor
  · intro h c hc
    have := h c hc
    simpa using this
  · intro h c hc
    have := h c hc
    simpa using this
theorem app_chars (x y : Str) : (x ++ y).cps.toList = x.cps.toList ++ y.cps.toList := by rw [Str.cps_append, Array.toList_append]
theorem inCs_sub {es : List (Nat × Int)} {d : RD} (h : inCs es d = true) : (∀ c ∈ d.1.cps.toList, c ∈ es.map (·.1)) ∧ ∀ c ∈ d.2.1.cps.toList, c ∈ es.map (·.1) := by
  unfold inCs at h
  rw [List.all_eq_true, app_chars] at h
  exact ⟨fun c hc => of_decide_eq_true (h c (List.mem_append.mpr (.inl hc))), fun c hc => of_decide_eq_true (h c (List.mem_append.mpr (.inr hc)))⟩
theorem filterMap_rules (seen : List RD) : (seen.map Itm.rule).filterMap optR = seen := by
  rw [List.filterMap_map]
  exact List.filterMap_some
section
variable {P : Program} {w : World} {K : PySem.W.Frag} {mg : Str → Option Value} {base : Heap}
abbrev nDue : List Str := ["_law_pairs_here", "_law_listed", "_law_signs", "_law_pair", "_law_at", "_law_rule_here", "_law_sign"]
theorem scDue : FnScope nDue ["_law_pairs_here", "_law_listed"] (defScope sDue) := ⟨rfl, rfl, rfl, by decide +kernel, rfl, by decide +kernel, by decide +kernel⟩
theorem ok_due {f f1 : Addr} {fd fd1 : FuncData} (F : L2.Fun K "_law_due" "_law_due" sDue f fd) (T : Txt mg)
    (G1 : FnOk P w K mg base CX0 1 f1 fd1 ["_law_pairs_here", "_law_row"] spWeight) (m1 : mg "_law_weight" = some (.ref f1)) (k1 : PySem.W.keepIn K (.ref f1) = true) (b1 : L2.Binds K fd1 ["_law_pairs_here", "_law_row"] []) :
    FnOk P w K mg base CX0 2 f fd ["_law_pairs_here", "_law_listed"] spDue := by
  refine F.ok scDue (fun vs H Q E h => ?_) (fun cdv A outer s H vs Q E hr h => ?_)
  · obtain ⟨L, F, es, is, rfl, _⟩ := h
    rfl
  · obtain ⟨L, F, es, is, rfl, po, its, ok, il, k⟩ := h
    have nd := scDue.nd
    have hu65 := room65 hr
    refine ⟨_, pss_cons (ps_if (pt_cmpR op_gt (bLen (by rfl) T.len (pv 1)) pe_int (nomark _)) (pss_one (ps_ret (pe_lst (pa_cons pe_str (pa_cons pe_non pa_nil))))) pss_nil)
      (pss_cons (ps_set (i := 2) nd rfl (.inr rfl) (pe_lc (own := [("_law_pair", 3)]) (g := gName 3) (tt := tYes) (te := tOp (rIxT K) (tVar 3) (tC (.int 0))) rfl nd (pi_list (pv 0)) (blkOk_by (own := [("_law_pair", 3)]) (N := nDue) (sc := defScope sDue) (by decide +kernel)) (fun _ _ _ _ _ => (pg_name (i := 3) nd rfl (Or.inl rfl))) (fun _ _ _ _ _ => pts_nil) (fun _ _ _ _ _ => (bIxT (pv 3) pe_int))))
      (pss_cons (ps_for PassesOwn.never rfl (pi_range1 (by rfl) T.range (pa_cons (bLen (by rfl) T.len (pv 1)) pa_nil)) (pg_name (i := 4) nd rfl (Or.inl rfl)) (pss_cons (ps_set (i := 5) nd rfl (.inl rfl) (bIx (pv 1) (pv 4)))
      (pss_cons (ps_if (PW.pt (pw_or (pt_not (pt_val (bIsi (by rfl) T.isi (pv 5) (pe_bltn (v := .ty "tuple") (by rfl) T.tuple (by decide +kernel) rfl)))) (pw_or (pt_cmpR op_ne (bLen (by rfl) T.len (pv 5)) pe_int (nomark _)) (pw_or1 (pt_cmpR (op_inD hu65) (pv 5) (pe_slice sl_list (pv 1) po_none (po_some (pv 4))) rfl))))) (pss_one (ps_ret (pe_lst (pa_cons pe_str (pa_cons (pv 4) pa_nil))))) pss_nil)
      (pss_one (ps_if (pt_cmpR (op_neD hr.units) (pe_lc (own := [("_law_sign", 6)]) (g := gName 6) (tt := tTest (tOp (rIn K true) (tVar 6) (tVar 2))) (te := tVar 6) rfl nd (pi_str (pe_op op_add_str (bIxT (pv 5) pe_int) (bIxT (pv 5) pe_int))) (blkOk_by (own := [("_law_sign", 6)]) (N := nDue) (sc := defScope sDue) (by decide +kernel)) (fun _ _ _ _ _ => (pg_name (i := 6) nd rfl (Or.inl rfl))) (fun _ _ _ _ _ => pts_one (pt_cmpR op_notIn_seq (pv 6) (pv 2) rfl)) (fun _ _ _ _ _ => (pv 6))) (pe_lst pa_nil) (nomark _)) (pss_one (ps_ret (pe_lst (pa_cons pe_str (pa_cons (pv 4) pa_nil))))) pss_nil)))))
      (pss_cons (ps_for PassesOwn.never rfl (pi_range1 (by rfl) T.range (pa_cons (bLen (by rfl) T.len (pv 1)) pa_nil)) (pg_name (i := 4) nd rfl (Or.inl rfl)) (pss_one (ps_if (pt_cmpR op_le (pe_call G1 hr (by rfl) m1 k1 b1 .nil pass0 (pa_cons (pv 0) (pa_cons (bIxT (bIx (pv 1) (pv 4)) pe_int) pa_nil))) (pe_call G1 hr (by rfl) m1 k1 b1 .nil pass0 (pa_cons (pv 0) (pa_cons (bIxT (bIx (pv 1) (pv 4)) pe_int) pa_nil))) (nomark _)) (pss_one (ps_ret (pe_lst (pa_cons pe_str (pa_cons (pv 4) pa_nil))))) pss_nil)))
      (pss_one (ps_ret pe_non))))), ?_⟩
    have po0 := po
    obtain ⟨ps, hL, pd, l1, l4, nde⟩ := po
    obtain ⟨xs, hF, at_⟩ := its
    have xl := at_.1
    refine ⟨_, rfl, _, xs.length, rfl, .inl ⟨_, SqL.of hF, rfl⟩, _, _, rfl, rfl, _, rfl, ?_⟩
    by_cases many : 8 < is.length
    · rw [decide_eq_true (show (8 : Int) < ((xs.length : Nat) : Int) by omega)]
      refine iteT ⟨by show 2 ≤ sizeLine; decide, fun t ht => ?_⟩
      have := k _ (Same.new (o := .lst [.str "book", .non]) ht)
      rw [dueOf, if_pos many] at this
      exact this t upd_same
    rw [decide_eq_false (show ¬ (8 : Int) < ((xs.length : Nat) : Int) by omega)]
    refine iteF ⟨_, rfl, L, rfl, ⟨_, SqL.of hL⟩, fun D hD => lcHeads hL pd (by omega) (fun _ => rfl) hD fun H1 s1 hD1 => ?_⟩
    have hF1 := s1 _ _ hF
    refine ⟨_, rfl, _, xs.length, rfl, .inl ⟨_, SqL.of hF1, rfl⟩, xs.length, rfl, by omega, by omega, ?_⟩
    refine for_it walk_range (fun j σ' G => ∃ y3 y4 y5 y6, σ' = [some (.ref L), some (.ref F), some (.ref D), y3, y4, y5, y6] ∧ Same H1 G ∧ ∃ seen : List RD, is.take j = seen.map Itm.rule ∧ (∀ d ∈ seen, inCs es d = true) ∧ firstBad es 0 [] (is.map optR) = firstBad es j seen ((is.drop j).map optR))
      ⟨_, _, _, _, rfl, Same.refl H1, [], rfl, (fun _ h => nomatch h), rfl⟩ (fun _ _ _ _ _ => trivial) ?_ ?_
    · rintro j x σ' G' G hj ⟨y3, y4, y5, y6, rfl, s2, seen, et, sin, fb⟩ ⟨rfl, ex⟩
      obtain rfl : x = V.int (j : Int) := ex.trans (by show V.int (0 + (j : Int)) = _; rw [Int.zero_add])
      have hj' : j < is.length := by have : j < xs.length := hj; omega
      obtain ⟨it, hit⟩ : ∃ it, is[j]? = some it := ⟨_, List.getElem?_eq_getElem hj'⟩
      have s12 := Same.trans s1 s2
      have atG : ItsAt G xs is := at_.mono fun _ _ q => q.same s12
      obtain ⟨v, hv, av⟩ := atG.2 j it hit
      have hFG := s12 _ _ hF
      have bad : firstBad es 0 [] (is.map optR) = some j → ∀ G2, Same G G2 → ∀ t, G2 t = none → Q (.ref t) (upd G2 t (.lst [.str "book", .int (j : Int)])) := fun z G2 s3 t ht => by
        have := k _ (Same.trans (Same.trans s12 s3) (Same.new (o := .lst [.str "book", .int (j : Int)]) ht))
        rw [dueOf, if_neg many, z] at this
        exact this t upd_same
      have dr : is.drop j = it :: is.drop (j + 1) := by
        rw [List.drop_eq_getElem_cons hj']
        congr 1
        rw [List.getElem?_eq_getElem hj'] at hit
        exact Option.some.inj hit
      rw [dr, List.map_cons] at fb
      refine ⟨_, rfl, _, rfl, F, xs, (j : Int), v, rfl, rfl, SqL.of hFG, atI_int (by omega) (by rw [show ((j : Int)).toNat = j by omega]; exact hv), ?_⟩
      cases it with
      | non =>
        cases av
        exact ⟨_, rfl, .non, .ty "tuple", _, _, false, rfl, .ty "tuple", .base .non, kit_ty (by decide +kernel), false, rfl, iteT (iteT ⟨_, rfl, by show 2 ≤ sizeLine; decide, fun t ht => bad fb _ (Same.refl G) t ht⟩)⟩
      | text =>
        cases av
        exact ⟨_, rfl, .str _, .ty "tuple", _, _, false, rfl, .ty "tuple", .base (.str _), kit_ty (by decide +kernel), false, rfl, iteT (iteT ⟨_, rfl, by show 2 ≤ sizeLine; decide, fun t ht => bad fb _ (Same.refl G) t ht⟩)⟩
      | seven =>
        cases av
        exact ⟨_, rfl, .int _, .ty "tuple", _, _, false, rfl, .ty "tuple", .base (.int _), kit_ty (by decide +kernel), false, rfl, iteT (iteT ⟨_, rfl, by show 2 ≤ sizeLine; decide, fun t ht => bad fb _ (Same.refl G) t ht⟩)⟩
      | empty =>
        obtain ⟨t0, rfl, ht0⟩ := av
        refine ⟨_, rfl, .ref t0, .ty "tuple", _, _, true, rfl, .ty "tuple", .base (.tup ht0), kit_ty (by decide +kernel), true, rfl, iteF ?_⟩
        exact ⟨_, rfl, _, 0, rfl, .inr ⟨_, SqT.of ht0, rfl⟩, rfl, _, rfl, iteT (iteT ⟨_, rfl, by show 2 ≤ sizeLine; decide, fun t ht => bad fb _ (Same.refl G) t ht⟩)⟩
      | rule d =>
        obtain ⟨t0, rfl, ht0⟩ := av
        have okd : OkR d := ok _ (List.mem_of_getElem? hit)
        refine ⟨_, rfl, .ref t0, .ty "tuple", _, _, true, rfl, .ty "tuple", .base (.tup ht0), kit_ty (by decide +kernel), true, rfl, iteF ?_⟩
        refine ⟨_, rfl, _, 4, rfl, .inr ⟨_, SqT.of ht0, rfl⟩, rfl, _, rfl, iteF ?_⟩
        refine ⟨_, rfl, _, rfl, _, rfl, (j : Int), rfl, F, xs, rfl, SqL.of hFG, fun S hS => ?_⟩
        rw [cut_to (by omega)]
        have s3 : Same G (upd G S (.lst (xs.take j))) := Same.new hS
        have eS : upd G S (.lst (xs.take j)) S = some (.lst (xs.take j)) := upd_same
        generalize upd G S (.lst (xs.take j)) = G3 at s3 eS ⊢
        have okt : ∀ it ∈ is.take j, OkIt it := fun it h => ok it (List.mem_of_mem_take h)
        refine ⟨itD (.rule d), (is.take j).map itD, ItAt.dp (it := .rule d) ⟨t0, rfl, s3 _ _ ht0⟩, .lst (SqL.of eS) (dp_its ((atG.mono fun _ _ q => q.same s3).take j)), shaped_it (it := .rule d) okd, shaped_its okt, _, rfl, ?_⟩
        rw [any_it, et]
        have mem : decide (Itm.rule d ∈ seen.map Itm.rule) = decide (d ∈ seen) := by
          rw [Bool.eq_iff_iff, decide_eq_true_iff, decide_eq_true_iff, List.mem_map]
          exact ⟨fun ⟨e, he, z⟩ => by cases z; exact he, fun h => ⟨d, h, rfl⟩⟩
        rw [mem]
        by_cases dup : d ∈ seen
        · rw [decide_eq_true dup]
          have z : firstBad es 0 [] (is.map optR) = some j := by rw [fb]; show (if _ then _ else _) = _; rw [if_pos (.inr dup)]
          exact iteT ⟨_, rfl, by show 2 ≤ sizeLine; decide, fun t ht => bad z _ s3 t ht⟩
        rw [decide_eq_false dup]
        refine iteF ?_
        have tt := SqT.of (K := K) (s3 _ _ ht0)
        obtain ⟨d4, n4, _⟩ := okd.le
        have lenD : (d.1 ++ d.2.1).length ≤ 8 := by rw [Str.length_append]; omega
        refine ⟨_, rfl, t0, _, 0, _, rfl, rfl, tt, rfl, _, rfl, t0, _, 1, _, rfl, rfl, tt, rfl, d.1, d.2.1, rfl, rfl, by rw [sizeLine_eq]; omega, _, rfl, fun D2 hD2 => ?_⟩
        have hDG3 := s3 _ _ (s2 _ _ hD1)
        have lz : (d.1 ++ d.2.1).cps.toList.length = (d.1 ++ d.2.1).length := by simp [Str.length]
        refine lcSel walk_str (fun i H' acc => Same G3 H' ∧ acc = (((d.1 ++ d.2.1).cps.toList.take i).filter fun c => !decide (c ∈ es.map (·.1))).map sg) (by show (d.1 ++ d.2.1).length < _; rw [sizeLine_eq]; omega) ⟨Same.new hD2, rfl⟩ (fun _ _ _ _ _ => trivial) (fun _ _ _ _ y => y.1) ?_ ?_
        · rintro i x H' acc Q' Qf hi hDl hla ⟨s4, rfl⟩ ⟨_, c, hc, rfl⟩ hq hf
          have tk : ((d.1 ++ d.2.1).cps.toList.take (i + 1)) = (d.1 ++ d.2.1).cps.toList.take i ++ [c] := by
            rw [List.take_add_one, Array.getElem?_toList, hc]; rfl
          refine ⟨_, rfl, _, rfl, D, _, rfl, .inl (SqL.of (s4 _ _ hDG3)), rfl, flatSgs _, _, rfl, ?_⟩
          have e : inV (V.str ⟨#[c]⟩) ((es.map (·.1)).map sg) = decide (c ∈ es.map (·.1)) := inV_sg c _
          rw [e]
          by_cases m : c ∈ es.map (·.1)
          · rw [decide_eq_true m]
            refine iteF (hf _ hDl ⟨s4, ?_⟩)
            rw [tk, List.filter_append, List.filter_cons_of_neg (by simpa using m), List.filter_nil, List.append_nil]
          · rw [decide_eq_false m]
            refine iteT ⟨_, rfl, hq _ _ hDl ⟨Same.putNew hD2 s4, ?_⟩⟩
            rw [tk, List.filter_append, List.filter_cons_of_pos (by simpa using m), List.filter_nil, List.map_append]
            rfl
        rintro G4 acc hD4 hla ⟨s4, rfl⟩
        rw [List.take_of_length_le (by show _ ≤ (d.1 ++ d.2.1).length; omega)] at hD4
        refine ⟨Nat.zero_le _, fun Z hZ => ?_⟩
        have s5 : Same G4 (upd G4 Z (.lst [])) := Same.new hZ
        have eZ : upd G4 Z (.lst []) Z = some (.lst []) := upd_same
        generalize upd G4 Z (.lst []) = G5 at s5 eZ ⊢
        have s345 := Same.trans s3 (Same.trans s4 s5)
        have chars : ∀ c ∈ ((d.1 ++ d.2.1).cps.toList.filter fun c => !decide (c ∈ es.map (·.1))), c ∈ abc.cps.toList := fun c hc => by
          have := (List.mem_filter.mp hc).1
          rw [app_chars] at this
          rcases List.mem_append.mp this with h | h
          · exact lets_abc okd.1 c h
          · exact lets_abc okd.2 c h
        refine ⟨.list (((d.1 ++ d.2.1).cps.toList.filter fun c => !decide (c ∈ es.map (·.1))).map fun c => PyData.str ⟨#[c]⟩), .list [], .lst (SqL.of (s5 _ _ hD4)) (dpSgs _), .lst (SqL.of eZ) .nil, shapedSgs chars, rfl, _, rfl, ?_⟩
        rw [eqv_nilS, odd_out]
        cases ic : inCs es d with
        | false =>
          have z : firstBad es 0 [] (is.map optR) = some j := by rw [fb]; show (if _ then _ else _) = _; rw [if_pos (.inl ic)]
          exact iteT ⟨_, rfl, by show 2 ≤ sizeLine; decide, fun t ht => bad z _ s345 t ht⟩
        | true =>
          refine iteF ⟨_, _, _, _, rfl, Same.trans s2 s345, seen ++ [d], ?_, fun e he => ?_, ?_⟩
          · rw [List.take_add_one, hit, et, List.map_append]; rfl
          · rcases List.mem_append.mp he with he | he
            · exact sin e he
            · rw [List.mem_singleton.mp he]; exact ic
          · rw [fb]
            show (if _ then _ else _) = _
            rw [if_neg]
            rintro (z | z)
            · rw [ic] at z; cases z
            · exact dup z
    · rintro σ' G ⟨y3, y4, y5, y6, rfl, s2, seen, et, sin, fb⟩
      rw [List.drop_of_length_le (by omega)] at fb
      rw [List.take_of_length_le (by omega)] at et
      have fb0 : firstBad es 0 [] (is.map optR) = none := fb
      have sl : seen.length = is.length := by rw [et, List.length_map]
      have s12 := Same.trans s1 s2
      have fm : is.filterMap optR = seen := by rw [et]; exact filterMap_rules seen
      refine ⟨_, rfl, _, xs.length, rfl, .inl ⟨_, SqL.of (s12 _ _ hF), rfl⟩, xs.length, rfl, by omega, by omega, ?_⟩
      refine for_it walk_range (fun j σ' G => ∃ y3 y4 y5 y6, σ' = [some (.ref L), some (.ref F), some (.ref D), y3, y4, y5, y6] ∧ Same H G ∧ firstHeavy es 0 seen = firstHeavy es j (seen.drop j))
        ⟨_, _, _, _, rfl, s12, rfl⟩ (fun _ _ _ _ _ => trivial) ?_ ?_
      · rintro j x σ' G G' hj ⟨y3, y4, y5, y6, rfl, s3, fh⟩ ⟨rfl, ex⟩
        obtain rfl : x = V.int (j : Int) := ex.trans (by show V.int (0 + (j : Int)) = _; rw [Int.zero_add])
        have hjs : j < seen.length := by have : j < xs.length := hj; omega
        obtain ⟨d, hd⟩ : ∃ d, seen[j]? = some d := ⟨_, List.getElem?_eq_getElem hjs⟩
        have hit : is[j]? = some (.rule d) := by rw [et, List.getElem?_map, hd]; rfl
        obtain ⟨v, hv, t0, rfl, ht0⟩ := at_.2 j _ hit
        have okd : OkR d := ok _ (List.mem_of_getElem? hit)
        obtain ⟨d4, n4, _⟩ := okd.le
        obtain ⟨sub1, sub2⟩ := inCs_sub (sin d (List.mem_of_getElem? hd))
        have ix : atI xs (j : Int) = some (.ref t0) := atI_int (by omega) (by rw [show ((j : Int)).toNat = j by omega]; exact hv)
        have dr : seen.drop j = d :: seen.drop (j + 1) := by
          rw [List.drop_eq_getElem_cons hjs]
          congr 1
          rw [List.getElem?_eq_getElem hjs] at hd
          exact Option.some.inj hd
        rw [dr] at fh
        refine ⟨_, rfl, _, rfl, _, rfl, F, xs, _, _, rfl, rfl, SqL.of (s3 _ _ hF), ix, t0, _, 0, _, rfl, rfl, SqT.of (s3 _ _ ht0), rfl, L, ps, es, d.1.cps.toList, rfl, s3 _ _ hL, pd.mono fun _ _ _ q => q.same s3, l4, nde, sub1, by show d.1.length ≤ _; omega, fun G2 s4 => ?_⟩
        have s34 := Same.trans s3 s4
        refine ⟨_, rfl, _, rfl, _, rfl, F, xs, _, _, rfl, rfl, SqL.of (s34 _ _ hF), ix, t0, _, 1, _, rfl, rfl, SqT.of (s34 _ _ ht0), rfl, L, ps, es, d.2.1.cps.toList, rfl, s34 _ _ hL, pd.mono fun _ _ _ q => q.same s34, l4, nde, sub2, by show d.2.1.length ≤ _; omega, fun G3 s5 => ?_⟩
        have s345 := Same.trans s34 s5
        refine ⟨_, _, rfl, rfl, _, rfl, ?_⟩
        by_cases hvy : wtR es d.1 ≤ wtR es d.2.1
        · rw [decide_eq_true (show wtC es d.1.cps.toList ≤ wtC es d.2.1.cps.toList from hvy)]
          have z : firstHeavy es 0 seen = some j := by rw [fh]; unfold firstHeavy; rw [if_pos hvy]
          refine iteT ⟨_, rfl, by show 2 ≤ sizeLine; decide, fun t ht => ?_⟩
          have := k _ (Same.trans s345 (Same.new (o := .lst [.str "heavier", .int (j : Int)]) ht))
          rw [dueOf, if_neg many, fb0] at this
          dsimp only at this
          rw [fm, z] at this
          exact this t upd_same
        · rw [decide_eq_false (show ¬ wtC es d.1.cps.toList ≤ wtC es d.2.1.cps.toList from hvy)]
          refine iteF ⟨_, _, _, _, rfl, s345, ?_⟩
          rw [fh]
          show (if _ then _ else _) = _
          rw [if_neg hvy]
      · rintro σ' G ⟨y3, y4, y5, y6, rfl, s3, fh⟩
        rw [List.drop_of_length_le (by omega)] at fh
        have z : firstHeavy es 0 seen = none := fh
        have := k _ s3
        rw [dueOf, if_neg many, fb0] at this
        dsimp only at this
        rw [fm, z] at this
        exact this
end
end Kx
set_option Elab.async false
set_option maxRecDepth 100000
set_option autoImplicit false
set_option pp.maxSteps 400
set_option pp.deepTerms false
/-! text * number, text[::-1] -/
namespace Ru
open PySem L2 PySem.Spec PyProof.Rows PySem.Calls Er Rg
section
variable {X : Cx}
def revS (z : Str) : Str := ⟨z.cps.toList.reverse.toArray⟩
theorem rev_pick (z : Str) : ((Builtin.Str.strSliceIndices none none (-1) z.length).filterMap (z.cps[·]?)).toArray = z.cps.toList.reverse.toArray := by
  congr 1
  rw [picked_rev, PyProof.Rows.filterMap_get, List.map_map]
  · refine List.ext_getElem (by simp [Str.length]) fun i h1 h2 => ?_
    have hi : i < z.cps.size := by simpa [Str.length] using h1
    have hj : z.cps.size - 1 - i < z.cps.size := by omega
    simp [Str.length, Array.getD, hj]
  · intro i hi
    obtain ⟨k, hk, rfl⟩ := List.mem_map.mp hi
    have hk' : k < z.length := List.mem_range.mp hk
    show z.length - 1 - k < z.length
    omega
def tRevS (te : TE) : TE := fun σ H Q => te σ H fun x H1 => ∃ z : Str, x = .str z ∧ z.length ≤ sizeLine ∧ Q (.str (revS z)) H1
theorem pe_revS {e : Expr} {te : TE} {k : Nat} {p1 p2 p3 pos : Pos} (he : PE X e te) : PE X (.Subscript e (.Slice none none (some (.UnaryOp .USub (.Constant (.int 1) k p1) p2)) p3) pos) (tRevS te) := by
  refine ⟨fun pins s σ H Q I h => ?_⟩
  refine Subscript_ (thn (he.run pins s σ H _ I h) fun v s1 ⟨x, H1, I1, r1, q1⟩ => ?_)
  obtain ⟨z, ex, hz, q⟩ := q1
  subst ex
  obtain ⟨t, rfl⟩ := r1
  have hst : PO X (some (.UnaryOp .USub (.Constant (.int 1) k p1) p2)) (tPart (tUn (rU fun i => .int (-i)) (tC (.int 1)))) := po_some (pe_un un_neg pe_int)
  refine wpAny_Slice (thn (po_none.run pins s1 σ H1 (fun o H2 => o = none ∧ H2 = H1) I1 ⟨rfl, rfl⟩) fun vl s2 ⟨l, H2, I2, pl, el, e2⟩ => ?_)
  subst el e2
  refine thn (po_none.run pins s2 σ H2 (fun o H3 => o = none ∧ H3 = H2) I2 ⟨rfl, rfl⟩) fun vu s3 ⟨u, H3, I3, pu, eu, e3⟩ => ?_
  subst eu e3
  refine thn (hst.run pins s3 σ H3 (fun o H4 => o = some (-1) ∧ H4 = H3) I3 ⟨1, rfl, -1, rfl, rfl, rfl⟩) fun vs s4 ⟨o, H4, I4, ps, eo, e4⟩ => ?_
  subst eo e4
  have I5 : Inv X pins σ H4 { s4 with heap := s4.heap.push { cls := .type "slice", data := .fields #[vl, vu, vs] } } := I4.kept (t' := s4.toks) fun b ob q => Heap.get?_push_of_some _ q
  obtain ⟨l, rfl, hl⟩ := IsPart.raw pl
  obtain ⟨u, rfl, hu⟩ := IsPart.raw pu
  obtain ⟨st, rfl, hs⟩ := IsPart.raw ps
  cases l with
  | some _ => cases hl
  | none =>
  cases u with
  | some _ => cases hu
  | none =>
  show wpAny (model X.prog X.w) X.A (subscriptTail e (.Slice none none (some (.UnaryOp .USub (.Constant (.int 1) k p1) p2)) p3) (.str z t) (.ref s4.heap.objs.size)) (EP X pins σ Q) X.xe { s4 with heap := s4.heap.push { cls := .type "slice", data := .fields _ } }
  refine tail_any (ops := [.str z t, .ref s4.heap.objs.size]) (typeIs_str _ _ _) (PySem.F.slot_str_getitem.lookup) ?_ (by with_unfolding_all rfl)
  refine wpAny_getItem_str_slice (l := none) (u := none) (st := st) (Heap.IsSliceOf.new _ _ _ _) ?_ ?_
  · rw [hs]; rfl
  have pick := rev_pick z
  unfold PySem.sliceMade PySem.slicePicked
  rw [hs]
  rw [if_neg (by rw [show ((some (-1 : Int)).getD 1 == 1) = false from rfl, Bool.false_and]; exact Bool.false_ne_true)]
  show Made.post (Made.str ⟨((Builtin.Str.strSliceIndices none none (-1) z.length).filterMap (z.cps[·]?)).toArray⟩) _ _
  rw [pick]
  refine ⟨?_, .str _, _, I5.tok _, ⟨_, rfl⟩, q⟩
  show (z.cps.toList.reverse.toArray).size ≤ sizeLine
  rw [List.size_toArray, List.length_reverse, Array.length_toList]
  exact hz
end
end Ru
namespace Kx
open PySem L2 PySem.Spec PyProof.Rows Rg Er Ru Tn
def rept (x : Str) (n : Nat) : Str := ⟨(List.replicate n x.cps).foldl (· ++ ·) #[]⟩
theorem rept_one (x : Str) : rept x 1 = x := by
  obtain ⟨a⟩ := x
  show (⟨#[] ++ a⟩ : Str) = ⟨a⟩
  simp
def rMulS : R2 := fun x y H Q => ∃ (i : Str) (n : Int), x = .str i ∧ y = .int n ∧ 1 ≤ n ∧ n ≤ 1000 ∧ 0 < i.length ∧ i.length ≤ 1000 ∧ (rept i n.toNat).length ≤ sizeLine ∧ Q (.str (rept i n.toNat)) H
theorem op_mulS {X : Cx} : OpR X (binaryOp .Mult) rMulS := by
  rintro pins s σ H x y v u Q I rx ry ⟨i, n, rfl, rfl, n1, n2, l1, l2, l3, q⟩
  obtain ⟨t, rfl⟩ := rx
  obtain ⟨t', rfl⟩ := ry
  have nl : ¬ n < 1 := by omega
  refine PySem.P.mul_str ?_ (fun _ _ => ?_) (fun _ _ => ?_) ?_
  · rw [decide_eq_false (show ¬ n < -(2 ^ 63) by omega), decide_eq_false (show ¬ n ≥ 2 ^ 63 by omega)]
    rfl
  · have h1 : (1000 : Int) ≤ (2 ^ 63 - 1) / n := (Int.le_ediv_iff_mul_le (by omega)).mpr (by omega)
    omega
  · unfold Builtin.Str.tooLong
    refine decide_eq_false ?_
    have : i.length * n.toNat ≤ 1000 * 1000 := Nat.mul_le_mul l2 (by omega)
    rw [sizeLine_eq]
    omega
  · rw [if_neg nl]
    by_cases e : n = 1
    · subst e
      rw [if_pos (by rw [show ((1 : Int) == 1) = true from rfl, Bool.true_or])]
      rw [show (1 : Int).toNat = 1 from rfl, rept_one] at q
      exact ⟨.str i, H, I, ⟨t, rfl⟩, q⟩
    · rw [if_neg (by
        have a : (n == 1) = false := by simpa using e
        have b : (i.length == 0) = false := by simpa using Nat.ne_of_gt l1
        rw [a, b]; decide)]
      exact ⟨l3, .str (rept i n.toNat), H, I.tok _, ⟨_, rfl⟩, q⟩
theorem rept_one_sign (c : Nat) : ∀ (n : Nat) (a : Array Nat), (List.replicate n (#[c] : Array Nat)).foldl (· ++ ·) a = (a.toList ++ List.replicate n c).toArray
  | 0, a => by simp
  | n + 1, a => by
    rw [List.replicate_succ, List.foldl_cons, rept_one_sign c n]
    rw [List.replicate_succ]
    simp
/-- a sign * a number -/
def rMulC : R2 := fun x y H Q => ∃ (c n : Nat), x = .str ⟨#[c]⟩ ∧ y = .int (n : Int) ∧ n ≤ 1000 ∧ Q (.str ⟨(List.replicate n c).toArray⟩) H
theorem op_mulC {X : Cx} : OpR X (binaryOp .Mult) rMulC := by
  rintro pins s σ H x y v u Q I rx ry ⟨c, n, rfl, rfl, n1, q⟩
  by_cases z : n = 0
  · subst z
    exact op_mul1 pins s σ H _ _ v u Q I rx ry ⟨_, false, rfl, rfl, q⟩
  · have e : rept ⟨#[c]⟩ n = ⟨(List.replicate n c).toArray⟩ := by
      show (⟨(List.replicate n (#[c] : Array Nat)).foldl (· ++ ·) #[]⟩ : Str) = _
      rw [rept_one_sign]
      simp
    refine op_mulS pins s σ H _ _ v u Q I rx ry ⟨_, (n : Int), rfl, rfl, by omega, by omega, by show 0 < 1; decide, by show 1 ≤ 1000; decide, ?_, ?_⟩
    · rw [show ((n : Int)).toNat = n from rfl, e]
      show ((List.replicate n c).toArray).size ≤ _
      rw [sizeLine_eq]; simp; omega
    · rw [show ((n : Int)).toNat = n from rfl, e]; exact q
end Kx
set_option Elab.async false
set_option maxRecDepth 100000
set_option autoImplicit false
set_option pp.maxSteps 400
set_option pp.deepTerms false
/-! _law_spoilt -/
namespace Kx
open PySem L2 PySem.Spec PyProof.Rows Rg Er Ru Tn
abbrev sSpoilt : Stmt := top 44
theorem ItsAt.nil (H : Hp) : ItsAt H [] [] := ⟨rfl, fun i it h => nomatch h⟩
theorem ItsAt.drop {H : Hp} {xs : List V} {is : List Itm} (h : ItsAt H xs is) (j : Nat) : ItsAt H (xs.drop j) (is.drop j) := by
  refine ⟨by rw [List.length_drop, List.length_drop, h.1], fun i it q => ?_⟩
  rw [List.getElem?_drop] at q
  obtain ⟨v, hv, a⟩ := h.2 _ it q
  exact ⟨v, by rw [List.getElem?_drop]; exact hv, a⟩
theorem ItsAt.append {H : Hp} {xs ys : List V} {is ks : List Itm} (h : ItsAt H xs is) (g : ItsAt H ys ks) : ItsAt H (xs ++ ys) (is ++ ks) := by
  have l := h.1
  refine ⟨by rw [List.length_append, List.length_append, h.1, g.1], fun i it q => ?_⟩
  by_cases lt : i < is.length
  · rw [List.getElem?_append_left lt] at q
    obtain ⟨v, hv, a⟩ := h.2 i it q
    exact ⟨v, by rw [List.getElem?_append_left (by omega)]; exact hv, a⟩
  · rw [List.getElem?_append_right (by omega)] at q
    obtain ⟨v, hv, a⟩ := g.2 _ it q
    exact ⟨v, by rw [List.getElem?_append_right (by omega), l]; exact hv, a⟩
theorem ItsAt.one {H : Hp} {v : V} {it : Itm} (h : ItAt H v it) : ItsAt H [v] [it] := (ItsAt.nil H).snoc h
theorem ItsAt.rep {H : Hp} {xs : List V} {is : List Itm} (h : ItsAt H xs is) : ∀ k : Nat, ItsAt H (List.replicate k xs).flatten (List.replicate k is).flatten
  | 0 => ItsAt.nil H
  | k + 1 => by
    rw [List.replicate_succ, List.replicate_succ, List.flatten_cons, List.flatten_cons]
    exact h.append (h.rep k)
theorem ItsAt.mem {H : Hp} {xs : List V} {is : List Itm} {v : V} (h : ItsAt H xs is) (m : v ∈ xs) : ∃ it ∈ is, ItAt H v it := by
  obtain ⟨i, hi⟩ := List.mem_iff_getElem?.mp m
  have lt := (List.getElem?_eq_some_iff.mp hi).1
  obtain ⟨w, hw, a⟩ := h.2 i _ (List.getElem?_eq_getElem (by rw [← h.1]; exact lt))
  rw [hi] at hw
  cases hw
  exact ⟨_, List.getElem_mem _, a⟩
theorem cut_from {xs : List V} {j : Nat} (h : j ≤ xs.length) : cutV xs (some (j : Int)) none = xs.drop j := by
  unfold cutV
  rw [show HT.sIx xs.length xs.length none = xs.length from rfl, HT.sIx_nat, Nat.min_eq_left h, List.take_of_length_le (by simp)]
theorem cut_few (xs : List V) (j : Nat) : cutV xs none (some (j : Int)) = xs.take j := by
  unfold cutV
  rw [show HT.sIx xs.length 0 none = 0 from rfl, HT.sIx_nat, List.drop_zero, Nat.sub_zero]
  rcases Nat.le_total j xs.length with h | h
  · rw [Nat.min_eq_left h]
  · rw [Nat.min_eq_right h, List.take_of_length_le (Nat.le_refl _), List.take_of_length_le h]
/-- all but few letters are no sign -/
theorem filter_ne_len {d : Nat} : ∀ {l : List Nat}, l.Nodup → l.length ≤ (l.filter fun c => !decide (c = d)).length + 1
  | [], _ => Nat.zero_le _
  | a :: r, nd => by
    have h := List.nodup_cons.mp nd
    by_cases e : a = d
    · subst e
      have : (r.filter fun c => !decide (c = a)) = r := List.filter_eq_self.mpr fun c hc => by
        have : c ≠ a := fun z => h.1 (z ▸ hc)
        simpa using this
      rw [List.filter_cons_of_neg (by simp), this]
      simp
    · rw [List.filter_cons_of_pos (by simpa using e)]
      have := filter_ne_len (d := d) h.2
      simp only [List.length_cons]
      omega
theorem filter_out_len : ∀ (cs l : List Nat), l.Nodup → l.length ≤ (l.filter fun c => !decide (c ∈ cs)).length + cs.length
  | [], l, _ => by
    have : (l.filter fun c => !decide (c ∈ ([] : List Nat))) = l := List.filter_eq_self.mpr fun c _ => by simp
    rw [this]
    exact Nat.le_refl _
  | d :: cs, l, nd => by
    have h1 := filter_out_len cs l nd
    have h2 := filter_ne_len (d := d) (List.Pairwise.filter (fun c => !decide (c ∈ cs)) nd)
    rw [List.filter_filter] at h2
    have e : (l.filter fun c => !decide (c ∈ d :: cs)) = l.filter fun c => (!decide (c = d)) && !decide (c ∈ cs) := by
      refine List.filter_congr fun c _ => ?_
      by_cases a : c = d <;> by_cases b : c ∈ cs <;> simp [a, b]
    rw [e]
    simp only [List.length_cons]
    omega
theorem abc_nodup : abc.cps.toList.Nodup := by decide +kernel
theorem lets_one {c : Nat} (h : c ∈ abc.cps.toList) : lets 1 ⟨#[c]⟩ = true ∧ lets 0 ⟨#[c]⟩ = true := by
  have e : isL c = true := decide_eq_true h
  constructor
  · show (decide (1 ≤ 1) && decide (1 ≤ 4) && [c].all isL) = true
    simp [e]
  · show (decide (0 ≤ 1) && decide (1 ≤ 4) && [c].all isL) = true
    simp [e]
theorem lets_list {lo : Nat} {os : List Nat} (h : ∀ c ∈ os, c ∈ abc.cps.toList) (l : lo ≤ os.length) (u : os.length ≤ 4) : lets lo ⟨os.toArray⟩ = true := by
  show (decide (lo ≤ os.toArray.size) && decide (os.toArray.size ≤ 4) && os.all isL) = true
  have e : os.all isL = true := List.all_eq_true.mpr fun c hc => decide_eq_true (h c hc)
  rw [List.size_toArray, decide_eq_true l, decide_eq_true u, e]
  rfl
def spSpoilt : Sp := fun vs H Q _ => ∃ (c p L F : Addr) (n : Nat) (es : List (Nat × Int)) (is : List Itm), vs = [.ref p, .ref L, .ref F] ∧ n ≤ 700000 ∧ PenAt c n H p ∧ L ≠ p ∧ F ≠ p ∧ PairsOf H L es ∧ ItsOf H F is ∧ (∀ it ∈ is, OkIt it) ∧ is.length ≤ 8 ∧
  ∀ (F' : Addr) H' (is' : List Itm), F' ≠ p → ItsOf H' F' is' → (∀ it ∈ is', OkIt it) → is'.length ≤ 10 → Ink c p (n + 60) H H' → Q (.ref F') H'
section
variable {P : Program} {w : World} {K : PySem.W.Frag} {mg : Str → Option Value} {base : Heap}
abbrev nSpoilt : List Str := ["_law_pen_here", "_law_pairs_here", "_law_listed", "_law_signs", "_law_pair", "_law_other", "_law_letter", "_law_found", "_law_turn", "_law_old", "_law_odd", "_law_at"]
theorem scSpoilt : FnScope nSpoilt ["_law_pen_here", "_law_pairs_here", "_law_listed"] (defScope sSpoilt) := ⟨rfl, rfl, rfl, by decide +kernel, rfl, by decide +kernel, by decide +kernel⟩
theorem ok_spoilt {f f1 f2 f3 : Addr} {fd fd1 fd2 fd3 : FuncData} (F : L2.Fun K "_law_spoilt" "_law_spoilt" sSpoilt f fd) (T : Txt mg)
    (G1 : FnOk P w K mg base CX0 1 f1 fd1 ["_law_pen_here", "_law_many"] spDraw) (m1 : mg "_law_draw" = some (.ref f1)) (k1 : PySem.W.keepIn K (.ref f1) = true) (b1 : L2.Binds K fd1 ["_law_pen_here", "_law_many"] [])
    (G2 : FnOk P w K mg base CX0 2 f2 fd2 ["_law_pen_here", "_law_things"] spPick) (m2 : mg "_law_pick" = some (.ref f2)) (k2 : PySem.W.keepIn K (.ref f2) = true) (b2 : L2.Binds K fd2 ["_law_pen_here", "_law_things"] [])
    (G3 : FnOk P w K mg base CX0 3 f3 fd3 ["_law_pen_here", "_law_signs", "_law_many"] spText) (m3 : mg "_law_text" = some (.ref f3)) (k3 : PySem.W.keepIn K (.ref f3) = true) (b3 : L2.Binds K fd3 ["_law_pen_here", "_law_signs", "_law_many"] []) :
    FnOk P w K mg base CX0 4 f fd ["_law_pen_here", "_law_pairs_here", "_law_listed"] spSpoilt := by
  refine F.ok scSpoilt (fun vs H Q E h => ?_) (fun cdv A outer s H vs Q E hr h => ?_)
  · obtain ⟨c, p, L, F, n, es, is, rfl, _⟩ := h
    rfl
  · obtain ⟨c, p, L, F, n, es, is, rfl, nb, pen, Lp, Fp, po, its, ok, il, k⟩ := h
    have nd := scSpoilt.nd
    have hr1 := hr.mono (show 1 ≤ 3 by decide)
    have hr2 := hr.mono (show 2 ≤ 3 by decide)
    refine ⟨_, pss_cons (ps_set (i := 3) nd rfl (.inr rfl) (pe_lc (own := [("_law_pair", 4)]) (g := gName 4) (tt := tYes) (te := tOp (rIxT K) (tVar 4) (tC (.int 0))) rfl nd (pi_list (pv 1)) (blkOk_by (own := [("_law_pair", 4)]) (N := nSpoilt) (sc := defScope sSpoilt) (by decide +kernel)) (fun _ _ _ _ _ => (pg_name (i := 4) nd rfl (Or.inl rfl))) (fun _ _ _ _ _ => pts_nil) (fun _ _ _ _ _ => (bIxT (pv 4) pe_int))))
      (pss_cons (ps_set (i := 5) nd rfl (.inl rfl) (bIx (pe_lc (own := [("_law_letter", 6)]) (g := gName 6) (tt := tTest (tOp (rIn K true) (tVar 6) (tVar 3))) (te := tVar 6) rfl nd (pi_str pe_str) (blkOk_by (own := [("_law_letter", 6)]) (N := nSpoilt) (sc := defScope sSpoilt) (by decide +kernel)) (fun _ _ _ _ _ => (pg_name (i := 6) nd rfl (Or.inl rfl))) (fun _ _ _ _ _ => pts_one (pt_cmpR op_notIn_seq (pv 6) (pv 3) rfl)) (fun _ _ _ _ _ => (pv 6))) (pe_call G1 hr1 (by rfl) m1 k1 b1 .nil pass0 (pa_cons (pv 0) (pa_cons pe_int pa_nil)))))
      (pss_cons (ps_set (i := 7) nd rfl (.inl rfl) (bList (by rfl) T.list (pv 2)))
      (pss_cons (ps_for PassesOwn.never rfl (pi_range1 (by rfl) T.range (pa_cons (pe_op op_add pe_int (pe_call G1 hr1 (by rfl) m1 k1 b1 .nil pass0 (pa_cons (pv 0) (pa_cons pe_int pa_nil)))) pa_nil)) (pg_name (i := 8) nd rfl (Or.inl rfl)) (pss_cons (ps_set (i := 9) nd rfl (.inl rfl) (pe_call G3 hr (by rfl) m3 k3 b3 .nil pass0 (pa_cons (pv 0) (pa_cons (pv 3) (pa_cons (pe_op op_add pe_int (pe_call G1 hr1 (by rfl) m1 k1 b1 .nil pass0 (pa_cons (pv 0) (pa_cons pe_int pa_nil)))) pa_nil)))))
      (pss_cons (ps_set (i := 10) nd rfl (.inl rfl) (pe_lst (pa_cons pe_non (pa_cons pe_str (pa_cons (pe_tup pa_nil) (pa_cons pe_int (pa_cons (pe_tup (pa_cons (pv 5) (pa_cons pe_str (pa_cons pe_bl (pa_cons pe_bl pa_nil))))) (pa_cons (pe_tup (pa_cons (pv 9) (pa_cons (pv 5) (pa_cons pe_bl (pa_cons pe_bl pa_nil))))) (pa_cons (pe_tup (pa_cons (pv 9) (pa_cons (pv 9) (pa_cons pe_bl (pa_cons pe_bl pa_nil))))) pa_nil)))))))))
      (pss_cons (ps_set (i := 10) nd rfl (.inl rfl) (pe_op op_cat (pe_op op_cat (pv 10) (pe_lst (pa_cons (pe_tup (pa_cons (bIx (pv 3) pe_int) (pa_cons (pe_op op_mulC (bIx (pv 3) pe_int) pe_int) (pa_cons pe_bl (pa_cons pe_bl pa_nil))))) (pa_cons (pe_tup (pa_cons (pv 9) (pa_cons (pe_revS (pv 9)) (pa_cons pe_bl (pa_cons pe_bl pa_nil))))) pa_nil)))) (pe_slice sl_list (pv 7) po_none (po_some pe_int))))
      (pss_cons (ps_set (i := 11) nd rfl (.inl rfl) (pe_call G1 hr1 (by rfl) m1 k1 b1 .nil pass0 (pa_cons (pv 0) (pa_cons (pe_op op_add (bLen (by rfl) T.len (pv 7)) pe_int) pa_nil))))
      (pss_one (ps_set (i := 7) nd rfl (.inl rfl) (pe_op op_cat (pe_op op_cat (pe_slice sl_list (pv 7) po_none (po_some (pv 11))) (pe_lst (pa_cons (pe_call G2 hr2 (by rfl) m2 k2 b2 .nil pass0 (pa_cons (pv 0) (pa_cons (pv 10) pa_nil))) pa_nil))) (pe_slice sl_list (pv 7) (po_some (pv 11)) po_none)))))))))
      (pss_cons (ps_if (pt_cmpR op_eq (pe_call G1 hr1 (by rfl) m1 k1 b1 .nil pass0 (pa_cons (pv 0) (pa_cons pe_int pa_nil))) pe_int (nomark _)) (pss_one (ps_set (i := 7) nd rfl (.inl rfl) (pe_slice sl_list (pe_op op_rep (pv 7) pe_int) po_none (po_some pe_int)))) pss_nil)
      (pss_one (ps_ret (pv 7))))))), ?_⟩
    obtain ⟨ps, hL, pd, l1, l4, nde⟩ := po
    obtain ⟨xs, hF, at_⟩ := its
    have xl := at_.1
    have csabc : ∀ c ∈ es.map (·.1), c ∈ abc.cps.toList := fun c hc => by
      obtain ⟨e, he, rfl⟩ := List.mem_map.mp hc
      exact pd.abc e he
    have csl : (es.map (·.1)).length = es.length := by simp
    refine ⟨_, rfl, L, rfl, ⟨_, SqL.of hL⟩, fun D hD0 => lcHeads hL pd (by omega) (fun _ => rfl) hD0 fun H1 s1 hD => ?_⟩
    have Dp := pen.ne1 hD0
    have ink := (Ink.start pen).same s1
    refine ⟨abc, rfl, fun B hB => ?_⟩
    have Bp := ink.2.ne1 hB
    refine lcSel walk_str (fun i H' acc => Same H1 H' ∧ acc = ((abc.cps.toList.take i).filter fun c => !decide (c ∈ es.map (·.1))).map sg) (by rw [sizeLine_eq]; decide) ⟨Same.new hB, rfl⟩ (fun _ _ _ _ _ => trivial) (fun _ _ _ _ y => y.1) ?_ ?_
    · rintro i x H' acc Q' Qf hi hDl hla ⟨s4, rfl⟩ ⟨_, c, hc, rfl⟩ hq hf
      have tk : abc.cps.toList.take (i + 1) = abc.cps.toList.take i ++ [c] := by
        rw [List.take_add_one, Array.getElem?_toList, hc]; rfl
      refine ⟨_, rfl, _, rfl, D, _, rfl, .inl (SqL.of (s4 _ _ hD)), rfl, flatSgs _, _, rfl, ?_⟩
      have e : inV (V.str ⟨#[c]⟩) ((es.map (·.1)).map sg) = decide (c ∈ es.map (·.1)) := inV_sg c _
      rw [e]
      by_cases m : c ∈ es.map (·.1)
      · rw [decide_eq_true m]
        refine iteF (hf _ hDl ⟨s4, ?_⟩)
        rw [tk, List.filter_append, List.filter_cons_of_neg (by simpa using m), List.filter_nil, List.append_nil]
      · rw [decide_eq_false m]
        refine iteT ⟨_, rfl, hq _ _ hDl ⟨Same.putNew hB s4, ?_⟩⟩
        rw [tk, List.filter_append, List.filter_cons_of_pos (by simpa using m), List.filter_nil, List.map_append]
        rfl
    rintro H2 acc hB2 hla ⟨s2, rfl⟩
    have len22 := filter_out_len (es.map (·.1)) abc.cps.toList abc_nodup
    rw [show abc.cps.toList.length = 26 from by decide +kernel] at len22
    rw [List.take_of_length_le (by decide +kernel)] at hB2
    have subabc : ∀ c ∈ (abc.cps.toList.filter fun c => !decide (c ∈ es.map (·.1))), c ∈ abc.cps.toList := fun c hc => (List.mem_filter.mp hc).1
    generalize (abc.cps.toList.filter fun c => !decide (c ∈ es.map (·.1))) = others at hB2 len22 subabc
    replace ink := ink.same s2
    replace hD := s2 _ _ hD
    refine ⟨_, rfl, c, p, 9, n, rfl, by decide, by decide, by omega, ink.2, fun r G1 r0 r1 pen1 x1 => ?_⟩
    have a1 := (at_.mono fun _ _ q => q.same s1).mono fun _ _ q => q.same s2
    replace a1 := a1.mono fun _ _ q => q.ext ink.2 x1
    have hF1 := x1 _ _ Fp (s2 _ _ (s1 _ _ hF))
    replace hB2 := x1 _ _ Bp hB2
    replace hD := x1 _ _ Dp hD
    replace ink : Ink c p (n + 1) H G1 := ⟨Ext1.trans ink.1 x1, pen1⟩
    clear x1 pen1 s2 s1 hD0 hB hla
    obtain ⟨oc, hoc⟩ : ∃ oc, others[r.toNat]? = some oc := ⟨_, List.getElem?_eq_getElem (by omega)⟩
    have ocabc := subabc oc (List.mem_of_getElem? hoc)
    obtain ⟨c0, hc0⟩ : ∃ c0, (es.map (·.1))[0]? = some c0 := ⟨_, List.getElem?_eq_getElem (by omega)⟩
    have c0abc := csabc c0 (List.mem_of_getElem? hc0)
    have ix0 : atI ((es.map (·.1)).map sg) 0 = some (V.str ⟨#[c0]⟩) := atI_int (by decide) (by show ((es.map (·.1)).map sg)[0]? = _; rw [List.getElem?_map, hc0]; rfl)
    refine ⟨B, _, r, sg oc, rfl, rfl, SqL.of hB2, atI_int r0 (by rw [List.getElem?_map, hoc]; rfl), ?_⟩
    refine ⟨_, rfl, F, xs, rfl, .inl (SqL.of hF1), fun F1 hF1n => ?_⟩
    have F1p := ink.2.ne1 hF1n
    have s : Same G1 (upd G1 F1 (.lst xs)) := Same.new hF1n
    have eF : upd G1 F1 (.lst xs) F1 = some (.lst xs) := upd_same
    replace ink := ink.same s
    replace hD := s _ _ hD
    replace a1 := a1.mono fun _ _ q => q.same s
    generalize upd G1 F1 (.lst xs) = G1 at ink hD a1 eF ⊢
    clear s hF1n hF1 hB2
    refine ⟨_, rfl, c, p, 2, n + 1, rfl, by decide, by decide, by omega, ink.2, fun r2 G2 q0 q1 pen2 x2 => ⟨_, _, rfl, rfl, ?_⟩⟩
    replace a1 := a1.mono fun _ _ q => q.ext ink.2 x2
    replace eF := x2 _ _ F1p eF
    replace hD := x2 _ _ Dp hD
    replace ink : Ink c p (n + 2) H G2 := ⟨Ext1.trans ink.1 x2, pen2⟩
    clear x2 pen2
    refine ⟨(1 + r2).toNat, by rw [show (((1 + r2).toNat : Nat) : Int) = 1 + r2 by omega], by omega, by omega, ?_⟩
    refine for_it walk_range (fun i σ' G => ∃ y4 y6 y8 y9 y10 y11 F2 is2, σ' = [some (.ref p), some (.ref L), some (.ref F), some (.ref D), y4, some (.str ⟨#[oc]⟩), y6, some (.ref F2), y8, y9, y10, y11] ∧ Ink c p (n + 2 + 20 * i) H G ∧ G D = some (.lst ((es.map (·.1)).map sg)) ∧ ItsOf G F2 is2 ∧ (∀ it ∈ is2, OkIt it) ∧ is2.length ≤ 8 + i ∧ F2 ≠ p)
      ⟨_, _, _, _, _, _, F1, is, rfl, ink, hD, ⟨xs, eF, a1⟩, ok, il, F1p⟩ (fun _ _ _ _ _ => trivial) ?_ ?_
    · rintro i x σ' G' G2 hi ⟨y4, y6, y8, y9, y10, y11, F2, is2, rfl, ink, hD, ⟨xs2, f2, a2⟩, ok2, l2, F2p⟩ ⟨rfl, ex⟩
      have xl2 := a2.1
      refine ⟨_, rfl, _, rfl, _, rfl, c, p, 3, n + 2 + 20 * i, rfl, by decide, by decide, by omega, ink.2, fun r G3 r0 r1 pen3 x3 => ⟨_, _, rfl, rfl, ?_⟩⟩
      have Dp' := Dp
      replace hD := x3 _ _ Dp hD
      replace f2 := x3 _ _ F2p f2
      replace a2 := a2.mono fun _ _ q => q.ext ink.2 x3
      replace ink : Ink c p (n + 2 + 20 * i + 1) H G3 := ⟨Ext1.trans ink.1 x3, pen3⟩
      clear x3 pen3
      refine ⟨c, p, D, n + 2 + 20 * i + 1, (1 + r).toNat, es.map (·.1), by rw [show (((1 + r).toNat : Nat) : Int) = 1 + r by omega]; rfl, by omega, by omega, ink.2, Dp, hD, by omega, by omega, fun os G4 osub ol i4 => ?_⟩
      have x4 := i4.1
      replace hD := x4 _ _ Dp hD
      replace f2 := x4 _ _ F2p f2
      replace a2 := a2.mono fun _ _ q => q.ext ink.2 x4
      replace ink := Ink.trans ink i4
      clear x4 i4
      have oabc : ∀ c ∈ os, c ∈ abc.cps.toList := fun c hc => csabc c (osub c hc)
      refine ⟨Nat.zero_le _, fun e0 h0 => ?_⟩
      have s : Same G4 (upd G4 e0 (.tup [])) := Same.new h0
      have e0p : e0 ≠ p := ink.2.ne1 h0
      replace ink := ink.same s
      replace hD := s _ _ hD
      replace f2 := s _ _ f2
      replace a2 := a2.mono fun _ _ q => q.same s
      have g0 : upd G4 e0 (.tup []) e0 = some (.tup []) := upd_same
      generalize upd G4 e0 (.tup []) = G5 at ink hD f2 a2 g0 ⊢
      clear h0 s
      have o : ItsAt G5 [.non, .str "x>o", .ref e0, .int 7] [.non, .text, .empty, .seven] := ((ItsAt.one (it := .non) rfl).snoc (it := .text) rfl |>.snoc (it := .empty) ⟨e0, rfl, g0⟩).snoc (it := .seven) rfl
      refine ⟨_, rfl, by show 4 ≤ sizeLine; decide, fun t1 h1 => ?_⟩
      have s : Same G5 (upd G5 t1 (.tup [.str ⟨#[oc]⟩, .str "", .bl false, .bl false])) := Same.new h1
      have t1p : t1 ≠ p := ink.2.ne1 h1
      replace ink := ink.same s
      replace hD := s _ _ hD
      replace f2 := s _ _ f2
      replace a2 := a2.mono fun _ _ q => q.same s
      replace o := o.mono fun _ _ q => q.same s
      have g1 : upd G5 t1 (.tup [.str ⟨#[oc]⟩, .str "", .bl false, .bl false]) t1 = some (.tup [.str ⟨#[oc]⟩, .str "", .bl false, .bl false]) := upd_same
      generalize upd G5 t1 (.tup [.str ⟨#[oc]⟩, .str "", .bl false, .bl false]) = G6 at ink hD f2 a2 o g1 ⊢
      clear h1 s
      replace o := o.snoc (it := .rule (⟨#[oc]⟩, "", false, false)) ⟨t1, rfl, g1⟩
      refine ⟨_, rfl, _, rfl, by show 4 ≤ sizeLine; decide, fun t2 h2 => ?_⟩
      have s : Same G6 (upd G6 t2 (.tup [.str ⟨os.toArray⟩, .str ⟨#[oc]⟩, .bl false, .bl true])) := Same.new h2
      have t2p : t2 ≠ p := ink.2.ne1 h2
      replace ink := ink.same s
      replace hD := s _ _ hD
      replace f2 := s _ _ f2
      replace a2 := a2.mono fun _ _ q => q.same s
      replace o := o.mono fun _ _ q => q.same s
      have g2 : upd G6 t2 (.tup [.str ⟨os.toArray⟩, .str ⟨#[oc]⟩, .bl false, .bl true]) t2 = some (.tup [.str ⟨os.toArray⟩, .str ⟨#[oc]⟩, .bl false, .bl true]) := upd_same
      generalize upd G6 t2 (.tup [.str ⟨os.toArray⟩, .str ⟨#[oc]⟩, .bl false, .bl true]) = G7 at ink hD f2 a2 o g2 ⊢
      clear h2 s
      replace o := o.snoc (it := .rule (⟨os.toArray⟩, ⟨#[oc]⟩, false, true)) ⟨t2, rfl, g2⟩
      refine ⟨_, rfl, _, rfl, by show 4 ≤ sizeLine; decide, fun t3 h3 => ?_⟩
      have s : Same G7 (upd G7 t3 (.tup [.str ⟨os.toArray⟩, .str ⟨os.toArray⟩, .bl true, .bl false])) := Same.new h3
      have t3p : t3 ≠ p := ink.2.ne1 h3
      replace ink := ink.same s
      replace hD := s _ _ hD
      replace f2 := s _ _ f2
      replace a2 := a2.mono fun _ _ q => q.same s
      replace o := o.mono fun _ _ q => q.same s
      have g3 : upd G7 t3 (.tup [.str ⟨os.toArray⟩, .str ⟨os.toArray⟩, .bl true, .bl false]) t3 = some (.tup [.str ⟨os.toArray⟩, .str ⟨os.toArray⟩, .bl true, .bl false]) := upd_same
      generalize upd G7 t3 (.tup [.str ⟨os.toArray⟩, .str ⟨os.toArray⟩, .bl true, .bl false]) = G8 at ink hD f2 a2 o g3 ⊢
      clear h3 s
      replace o := o.snoc (it := .rule (⟨os.toArray⟩, ⟨os.toArray⟩, true, false)) ⟨t3, rfl, g3⟩
      refine ⟨by show 7 ≤ sizeLine; decide, fun l1 h1 => ?_⟩
      have s : Same G8 (upd G8 l1 (.lst [.non, .str "x>o", .ref e0, .int 7, .ref t1, .ref t2, .ref t3])) := Same.new h1
      have l1p : l1 ≠ p := ink.2.ne1 h1
      replace ink := ink.same s
      replace hD := s _ _ hD
      replace f2 := s _ _ f2
      replace a2 := a2.mono fun _ _ q => q.same s
      replace o := o.mono fun _ _ q => q.same s
      have b1 : upd G8 l1 (.lst [.non, .str "x>o", .ref e0, .int 7, .ref t1, .ref t2, .ref t3]) l1 = some (.lst [.non, .str "x>o", .ref e0, .int 7, .ref t1, .ref t2, .ref t3]) := upd_same
      generalize upd G8 l1 (.lst [.non, .str "x>o", .ref e0, .int 7, .ref t1, .ref t2, .ref t3]) = G9 at ink hD f2 a2 o b1 ⊢
      clear h1 s
      refine ⟨_, rfl, _, rfl, D, _, 0, _, rfl, rfl, SqL.of hD, ix0, _, rfl, D, _, 0, _, rfl, rfl, SqL.of hD, ix0, c0, 2, rfl, rfl, by decide, by show 4 ≤ sizeLine; decide, fun t4 h4 => ?_⟩
      have s : Same G9 (upd G9 t4 (.tup [.str ⟨#[c0]⟩, .str ⟨(List.replicate 2 c0).toArray⟩, .bl false, .bl false])) := Same.new h4
      have t4p : t4 ≠ p := ink.2.ne1 h4
      replace ink := ink.same s
      replace hD := s _ _ hD
      replace f2 := s _ _ f2
      replace a2 := a2.mono fun _ _ q => q.same s
      replace o := o.mono fun _ _ q => q.same s
      replace b1 := s _ _ b1
      have g4 : upd G9 t4 (.tup [.str ⟨#[c0]⟩, .str ⟨(List.replicate 2 c0).toArray⟩, .bl false, .bl false]) t4 = some (.tup [.str ⟨#[c0]⟩, .str ⟨(List.replicate 2 c0).toArray⟩, .bl false, .bl false]) := upd_same
      generalize upd G9 t4 (.tup [.str ⟨#[c0]⟩, .str ⟨(List.replicate 2 c0).toArray⟩, .bl false, .bl false]) = G10 at ink hD f2 a2 o b1 g4 ⊢
      clear h4 s
      replace o := o.snoc (it := .rule (⟨#[c0]⟩, ⟨(List.replicate 2 c0).toArray⟩, false, false)) ⟨t4, rfl, g4⟩
      refine ⟨_, rfl, _, rfl, _, rfl, len_small (by show os.toArray.size ≤ _; rw [List.size_toArray]; omega), by show 4 ≤ sizeLine; decide, fun t5 h5 => ?_⟩
      have s : Same G10 (upd G10 t5 (.tup [.str ⟨os.toArray⟩, .str (revS ⟨os.toArray⟩), .bl false, .bl false])) := Same.new h5
      have t5p : t5 ≠ p := ink.2.ne1 h5
      replace ink := ink.same s
      replace hD := s _ _ hD
      replace f2 := s _ _ f2
      replace a2 := a2.mono fun _ _ q => q.same s
      replace o := o.mono fun _ _ q => q.same s
      replace b1 := s _ _ b1
      have g5 : upd G10 t5 (.tup [.str ⟨os.toArray⟩, .str (revS ⟨os.toArray⟩), .bl false, .bl false]) t5 = some (.tup [.str ⟨os.toArray⟩, .str (revS ⟨os.toArray⟩), .bl false, .bl false]) := upd_same
      generalize upd G10 t5 (.tup [.str ⟨os.toArray⟩, .str (revS ⟨os.toArray⟩), .bl false, .bl false]) = G11 at ink hD f2 a2 o b1 g5 ⊢
      clear h5 s
      replace o := o.snoc (it := .rule (⟨os.toArray⟩, revS ⟨os.toArray⟩, false, false)) ⟨t5, rfl, g5⟩
      refine ⟨by show 2 ≤ sizeLine; decide, fun l2 h2 => ?_⟩
      have s : Same G11 (upd G11 l2 (.lst [.ref t4, .ref t5])) := Same.new h2
      have l2p : l2 ≠ p := ink.2.ne1 h2
      replace ink := ink.same s
      replace hD := s _ _ hD
      replace f2 := s _ _ f2
      replace a2 := a2.mono fun _ _ q => q.same s
      replace o := o.mono fun _ _ q => q.same s
      replace b1 := s _ _ b1
      have b2 : upd G11 l2 (.lst [.ref t4, .ref t5]) l2 = some (.lst [.ref t4, .ref t5]) := upd_same
      generalize upd G11 l2 (.lst [.ref t4, .ref t5]) = G12 at ink hD f2 a2 o b1 b2 ⊢
      clear h2 s
      refine ⟨l1, l2, _, _, rfl, rfl, b1, b2, by show 7 + 2 ≤ sizeLine; decide, fun l3 h3 => ?_⟩
      have s : Same G12 (upd G12 l3 (.lst ([.non, .str "x>o", .ref e0, .int 7, .ref t1, .ref t2, .ref t3] ++ [.ref t4, .ref t5]))) := Same.new h3
      have l3p : l3 ≠ p := ink.2.ne1 h3
      replace ink := ink.same s
      replace hD := s _ _ hD
      replace f2 := s _ _ f2
      replace a2 := a2.mono fun _ _ q => q.same s
      replace o := o.mono fun _ _ q => q.same s
      replace b1 := s _ _ b1
      replace b2 := s _ _ b2
      have b3 : upd G12 l3 (.lst ([.non, .str "x>o", .ref e0, .int 7, .ref t1, .ref t2, .ref t3] ++ [.ref t4, .ref t5])) l3 = some (.lst ([.non, .str "x>o", .ref e0, .int 7, .ref t1, .ref t2, .ref t3] ++ [.ref t4, .ref t5])) := upd_same
      generalize upd G12 l3 (.lst ([.non, .str "x>o", .ref e0, .int 7, .ref t1, .ref t2, .ref t3] ++ [.ref t4, .ref t5])) = G13 at ink hD f2 a2 o b1 b2 b3 ⊢
      clear h3 s
      clear b1 b2
      refine ⟨_, rfl, (2 : Int), rfl, F2, xs2, rfl, SqL.of f2, fun S0 h3 => ?_⟩
      rw [show (2 : Int) = ((2 : Nat) : Int) from rfl, cut_few]
      have s : Same G13 (upd G13 S0 (.lst (xs2.take 2))) := Same.new h3
      have S0p : S0 ≠ p := ink.2.ne1 h3
      replace ink := ink.same s
      replace hD := s _ _ hD
      replace f2 := s _ _ f2
      replace a2 := a2.mono fun _ _ q => q.same s
      replace o := o.mono fun _ _ q => q.same s
      replace b3 := s _ _ b3
      have b4 : upd G13 S0 (.lst (xs2.take 2)) S0 = some (.lst (xs2.take 2)) := upd_same
      generalize upd G13 S0 (.lst (xs2.take 2)) = G14 at ink hD f2 a2 o b3 b4 ⊢
      clear h3 s
      refine ⟨l3, S0, _, _, rfl, rfl, b3, b4, by rw [List.length_take, sizeLine_eq]; show 9 + _ ≤ _; omega, fun l4 h4 => ?_⟩
      have s : Same G14 (upd G14 l4 (.lst (([.non, .str "x>o", .ref e0, .int 7, .ref t1, .ref t2, .ref t3] ++ [.ref t4, .ref t5]) ++ xs2.take 2))) := Same.new h4
      have l4p : l4 ≠ p := ink.2.ne1 h4
      replace ink := ink.same s
      replace hD := s _ _ hD
      replace f2 := s _ _ f2
      replace a2 := a2.mono fun _ _ q => q.same s
      replace o := o.mono fun _ _ q => q.same s
      replace b3 := s _ _ b3
      replace b4 := s _ _ b4
      have b5 : upd G14 l4 (.lst (([.non, .str "x>o", .ref e0, .int 7, .ref t1, .ref t2, .ref t3] ++ [.ref t4, .ref t5]) ++ xs2.take 2)) l4 = some (.lst (([.non, .str "x>o", .ref e0, .int 7, .ref t1, .ref t2, .ref t3] ++ [.ref t4, .ref t5]) ++ xs2.take 2)) := upd_same
      generalize upd G14 l4 (.lst (([.non, .str "x>o", .ref e0, .int 7, .ref t1, .ref t2, .ref t3] ++ [.ref t4, .ref t5]) ++ xs2.take 2)) = G15 at ink hD f2 a2 o b3 b4 b5 ⊢
      clear h4 s
      clear b3 b4
      replace o := o.append (a2.take 2)
      have oko : ∀ it ∈ ([Itm.non, .text, .empty, .seven] ++ [.rule (⟨#[oc]⟩, "", false, false)] ++ [.rule (⟨os.toArray⟩, ⟨#[oc]⟩, false, true)] ++ [.rule (⟨os.toArray⟩, ⟨os.toArray⟩, true, false)] ++ [.rule (⟨#[c0]⟩, ⟨(List.replicate 2 c0).toArray⟩, false, false)] ++ [.rule (⟨os.toArray⟩, revS ⟨os.toArray⟩, false, false)] ++ is2.take 2), OkIt it := by
        intro it hit
        have revabc : ∀ c ∈ os.reverse, c ∈ abc.cps.toList := fun c hc => oabc c (List.mem_reverse.mp hc)
        simp only [List.mem_append, List.mem_cons, List.not_mem_nil, or_false] at hit
        rcases hit with ((((((rfl | rfl | rfl | rfl) | rfl) | rfl) | rfl) | rfl) | rfl) | h
        · trivial
        · trivial
        · trivial
        · trivial
        · exact ⟨(lets_one ocabc).1, rfl⟩
        · exact ⟨lets_list oabc (by omega) (by omega), (lets_one ocabc).2⟩
        · exact ⟨lets_list oabc (by omega) (by omega), lets_list oabc (by omega) (by omega)⟩
        · exact ⟨(lets_one c0abc).1, lets_list (fun c hc => by rw [List.eq_of_mem_replicate hc]; exact c0abc) (Nat.zero_le _) (by rw [List.length_replicate]; decide)⟩
        · exact ⟨lets_list oabc (by omega) (by omega), lets_list revabc (Nat.zero_le _) (by rw [List.length_reverse]; show os.length ≤ 4; omega)⟩
        · exact ok2 it (List.mem_of_mem_take h)
      generalize [Itm.non, .text, .empty, .seven] ++ [.rule (⟨#[oc]⟩, "", false, false)] ++ [.rule (⟨os.toArray⟩, ⟨#[oc]⟩, false, true)] ++ [.rule (⟨os.toArray⟩, ⟨os.toArray⟩, true, false)] ++ [.rule (⟨#[c0]⟩, ⟨(List.replicate 2 c0).toArray⟩, false, false)] ++ [.rule (⟨os.toArray⟩, revS ⟨os.toArray⟩, false, false)] ++ is2.take 2 = io at o oko
      have b6 : G15 l4 = some (.lst ([.non, .str "x>o", .ref e0, .int 7] ++ [.ref t1] ++ [.ref t2] ++ [.ref t3] ++ [.ref t4] ++ [.ref t5] ++ xs2.take 2)) := b5
      have xol : ([.non, .str "x>o", .ref e0, .int 7] ++ [.ref t1] ++ [.ref t2] ++ [.ref t3] ++ [.ref t4] ++ [.ref t5] ++ xs2.take 2 : List V).length = 9 + (xs2.take 2).length := by simp; omega
      clear b5
      generalize ([.non, .str "x>o", .ref e0, .int 7] ++ [.ref t1] ++ [.ref t2] ++ [.ref t3] ++ [.ref t4] ++ [.ref t5] ++ xs2.take 2 : List V) = xo at o b6 xol
      rw [List.length_take] at xol
      refine ⟨_, rfl, _, rfl, _, xs2.length, rfl, .inl ⟨_, SqL.of f2, rfl⟩, _, _, rfl, rfl, c, p, (xs2.length : Int) + 1, n + 2 + 20 * i + 1 + 10, rfl, by omega, by omega, by omega, ink.2, fun a G50 a0 a1 pen5 x5 => ?_⟩
      replace hD := x5 _ _ Dp hD
      replace f2 := x5 _ _ F2p f2
      replace a2 := a2.mono fun _ _ q => q.ext ink.2 x5
      replace o := o.mono fun _ _ q => q.ext ink.2 x5
      replace b6 := x5 _ _ l4p b6
      replace ink : Ink c p (n + 2 + 20 * i + 1 + 10 + 1) H G50 := ⟨Ext1.trans ink.1 x5, pen5⟩
      clear x5 pen5
      obtain ⟨ka, rfl⟩ : ∃ ka : Nat, a = (ka : Int) := ⟨a.toNat, by omega⟩
      refine ⟨_, rfl, _, rfl, (ka : Int), rfl, F2, xs2, rfl, SqL.of f2, fun S1 h6 => ?_⟩
      rw [cut_few]
      have s : Same G50 (upd G50 S1 (.lst (xs2.take ka))) := Same.new h6
      have S1p : S1 ≠ p := ink.2.ne1 h6
      replace ink := ink.same s
      replace hD := s _ _ hD
      replace f2 := s _ _ f2
      replace a2 := a2.mono fun _ _ q => q.same s
      replace o := o.mono fun _ _ q => q.same s
      replace b6 := s _ _ b6
      have b7 : upd G50 S1 (.lst (xs2.take ka)) S1 = some (.lst (xs2.take ka)) := upd_same
      generalize upd G50 S1 (.lst (xs2.take ka)) = G51 at ink hD f2 a2 o b6 b7 ⊢
      clear h6 s
      refine ⟨_, rfl, _, rfl, c, p, n + 2 + 20 * i + 1 + 10 + 1, by omega, ink.2, .inl ⟨l4, _, rfl, l4p, b6, by omega, by omega, fun v G60 hv pen6 x6 => ?_⟩⟩
      obtain ⟨it, hit, av⟩ := o.mem hv
      replace av := av.ext ink.2 x6
      replace hD := x6 _ _ Dp hD
      replace f2 := x6 _ _ F2p f2
      replace a2 := a2.mono fun _ _ q => q.ext ink.2 x6
      replace o := o.mono fun _ _ q => q.ext ink.2 x6
      replace b6 := x6 _ _ l4p b6
      replace b7 := x6 _ _ S1p b7
      replace ink : Ink c p (n + 2 + 20 * i + 1 + 10 + 1 + 1) H G60 := ⟨Ext1.trans ink.1 x6, pen6⟩
      clear x6 pen6 hv
      clear o b6
      replace av := ItsAt.one av
      refine ⟨by show 1 ≤ sizeLine; decide, fun l5 h5 => ?_⟩
      have s : Same G60 (upd G60 l5 (.lst [v])) := Same.new h5
      have l5p : l5 ≠ p := ink.2.ne1 h5
      replace ink := ink.same s
      replace hD := s _ _ hD
      replace f2 := s _ _ f2
      replace a2 := a2.mono fun _ _ q => q.same s
      replace b7 := s _ _ b7
      replace av := av.mono fun _ _ q => q.same s
      have b8 : upd G60 l5 (.lst [v]) l5 = some (.lst [v]) := upd_same
      generalize upd G60 l5 (.lst [v]) = G61 at ink hD f2 a2 b7 av b8 ⊢
      clear h5 s
      refine ⟨S1, l5, _, _, rfl, rfl, b7, b8, by rw [List.length_take, sizeLine_eq]; show _ + 1 ≤ _; omega, fun l6 h6 => ?_⟩
      have s : Same G61 (upd G61 l6 (.lst (xs2.take ka ++ [v]))) := Same.new h6
      have l6p : l6 ≠ p := ink.2.ne1 h6
      replace ink := ink.same s
      replace hD := s _ _ hD
      replace f2 := s _ _ f2
      replace a2 := a2.mono fun _ _ q => q.same s
      replace b7 := s _ _ b7
      replace av := av.mono fun _ _ q => q.same s
      replace b8 := s _ _ b8
      have b9 : upd G61 l6 (.lst (xs2.take ka ++ [v])) l6 = some (.lst (xs2.take ka ++ [v])) := upd_same
      generalize upd G61 l6 (.lst (xs2.take ka ++ [v])) = G62 at ink hD f2 a2 b7 av b8 b9 ⊢
      clear h6 s
      clear b7 b8
      refine ⟨_, rfl, _, rfl, (ka : Int), rfl, F2, xs2, rfl, SqL.of f2, fun S2 h6 => ?_⟩
      rw [cut_from (by omega)]
      have s : Same G62 (upd G62 S2 (.lst (xs2.drop ka))) := Same.new h6
      have S2p : S2 ≠ p := ink.2.ne1 h6
      replace ink := ink.same s
      replace hD := s _ _ hD
      replace f2 := s _ _ f2
      replace a2 := a2.mono fun _ _ q => q.same s
      replace av := av.mono fun _ _ q => q.same s
      replace b9 := s _ _ b9
      have b10 : upd G62 S2 (.lst (xs2.drop ka)) S2 = some (.lst (xs2.drop ka)) := upd_same
      generalize upd G62 S2 (.lst (xs2.drop ka)) = G63 at ink hD f2 a2 av b9 b10 ⊢
      clear h6 s
      refine ⟨l6, S2, _, _, rfl, rfl, b9, b10, by rw [List.length_append, List.length_take, List.length_drop, sizeLine_eq]; show _ + 1 + _ ≤ _; omega, fun l7 h7 => ?_⟩
      have s : Same G63 (upd G63 l7 (.lst ((xs2.take ka ++ [v]) ++ xs2.drop ka))) := Same.new h7
      have l7p : l7 ≠ p := ink.2.ne1 h7
      replace ink := ink.same s
      replace hD := s _ _ hD
      replace f2 := s _ _ f2
      replace a2 := a2.mono fun _ _ q => q.same s
      replace av := av.mono fun _ _ q => q.same s
      replace b9 := s _ _ b9
      replace b10 := s _ _ b10
      have b11 : upd G63 l7 (.lst ((xs2.take ka ++ [v]) ++ xs2.drop ka)) l7 = some (.lst ((xs2.take ka ++ [v]) ++ xs2.drop ka)) := upd_same
      generalize upd G63 l7 (.lst ((xs2.take ka ++ [v]) ++ xs2.drop ka)) = G64 at ink hD f2 a2 av b9 b10 b11 ⊢
      clear h7 s
      refine ⟨_, _, _, _, _, _, l7, (is2.take ka ++ [it]) ++ is2.drop ka, rfl, ink.mono (by omega), hD, ⟨_, b11, ((a2.take ka).append av).append (a2.drop ka)⟩, fun it' h => ?_, ?_, l7p⟩
      · rcases List.mem_append.mp h with h | h
        · rcases List.mem_append.mp h with h | h
          · exact ok2 it' (List.mem_of_mem_take h)
          · rw [List.mem_singleton.mp h]; exact oko it hit
        · exact ok2 it' (List.mem_of_mem_drop h)
      · rw [List.length_append, List.length_append, List.length_take, List.length_drop]
        show _ + 1 + _ ≤ _
        omega
    · rintro σ' G2 ⟨y4, y6, y8, y9, y10, y11, F2, is2, rfl, ink, hD, ⟨xs2, f2, a2⟩, ok2, l2, F2p⟩
      have xl2 := a2.1
      refine ⟨_, rfl, c, p, 6, n + 2 + 20 * (1 + r2).toNat, rfl, by decide, by decide, by omega, ink.2, fun r6 G3 w0 w1 pen3 x3 => ⟨rfl, _, rfl, ?_⟩⟩
      replace a2 := a2.mono fun _ _ q => q.ext ink.2 x3
      replace f2 := x3 _ _ F2p f2
      replace ink : Ink c p (n + 2 + 20 * (1 + r2).toNat + 1) H G3 := ⟨Ext1.trans ink.1 x3, pen3⟩
      by_cases z : r6 = 0
      · rw [decide_eq_true (show V.int r6 = V.int 0 by rw [z])]
        refine iteT ⟨_, rfl, F2, 9, xs2, rfl, rfl, f2, by decide, by decide, by show xs2.length * 9 ≤ _; rw [sizeLine_eq]; omega, fun R hR => ?_⟩
        have s : Same G3 (upd G3 R (.lst (List.replicate (9 : Int).toNat xs2).flatten)) := Same.new hR
        have eR : upd G3 R (.lst (List.replicate (9 : Int).toNat xs2).flatten) R = some (.lst (List.replicate (9 : Int).toNat xs2).flatten) := upd_same
        have ar : ItsAt G3 (List.replicate (9 : Int).toNat xs2).flatten (List.replicate 9 is2).flatten := ItsAt.rep a2 9
        replace ar := ar.mono fun _ _ q => q.same s
        replace ink := ink.same s
        generalize upd G3 R (.lst (List.replicate (9 : Int).toNat xs2).flatten) = G4 at eR ar ink ⊢
        refine ⟨9, rfl, R, _, rfl, SqL.of eR, fun Z hZ => ?_⟩
        rw [show (9 : Int) = ((9 : Nat) : Int) from rfl, cut_few]
        have Zp := ink.2.ne1 hZ
        refine ⟨_, rfl, k Z _ ((List.replicate 9 is2).flatten.take 9) Zp ⟨_, upd_same, (ar.take 9).mono fun _ _ q => q.same (Same.new hZ)⟩ (fun it h => ?_) (by rw [List.length_take]; omega) ((ink.same (Same.new hZ)).mono (by omega))⟩
        obtain ⟨l, hl, hm⟩ := List.mem_flatten.mp (List.mem_of_mem_take h)
        rw [List.eq_of_mem_replicate hl] at hm
        exact ok2 it hm
      · rw [decide_eq_false (fun q => z (V.int.inj q))]
        exact iteF ⟨_, rfl, k F2 G3 is2 F2p ⟨xs2, f2, a2⟩ ok2 (by omega) (ink.mono (by omega))⟩
end
end Kx
set_option Elab.async false
set_option maxRecDepth 100000
set_option autoImplicit false
/-! try: .. except G as n: y = e except G' as n: y = e' -/
namespace Er
open PySem L2 PySem.Spec PyProof.Rows PySem.Calls
/-- what two such rows wish of an error of the body -/
def wVal2 (K : PySem.W.Frag) (c c2 : Value) (i j m : Nat) (te te2 : Addr → Value → Option Addr → TE) (Wout : WX) (D : Ends) : WX := fun cls d σ H =>
  ∃ b, PySem.W.exmOne K cls c = some b ∧ (b = true → σ.length = m → ∀ a, H a = none → te a cls d (σ.set i (some (.ref a))) H (fun v H' => D.nx (((σ.set i (some (.ref a))).set j (some v)).set i none) H')) ∧
    (b = false → ∃ b2, PySem.W.exmOne K cls c2 = some b2 ∧ (b2 = true → σ.length = m → ∀ a, H a = none → te2 a cls d (σ.set i (some (.ref a))) H (fun v H' => D.nx (((σ.set i (some (.ref a))).set j (some v)).set i none) H')) ∧ (b2 = false → Wout cls d σ H))
section
variable {X : Cx} {x x2 n y : Str} {c c2 : Value} {i j : Nat} {body : List Stmt} {e₀ e₂ : Expr} {te te2 : Addr → Value → Option Addr → TE} {np yp sp np2 yp2 sp2 pos pos' pos2 : Pos} {tb : WX → TS} {Wout : WX}
theorem ps_try_val2 (hs : X.stack = X.env :: X.outer) (hf : X.env.frame = some X.env.locals) (hex : X.ex = []) (hN : X.N.Nodup) (hi : X.N[i]? = some n) (hj : X.N[j]? = some y) (hln : X.env.kindOf n = some .local) (hly : X.env.kindOf y = some .local) (hc : Names X x c) (hc2 : Names X x2 c2) (tk : Takes X Wout)
    (hsw : swapsWith e₀ (some (.Name y yp)) sp.line X.env = pure false) (hsw2 : swapsWith e₂ (some (.Name y yp2)) sp2.line X.env = pure false)
    (he : ∀ (a : Addr) (oe : Obj) (cls : Value) (d : Option Addr) (pn : List (Addr × Obj)), Zc cls d oe → (∃ vs, oe.data = .fields vs) → PE (X.suite a ((a, oe) :: pn)) e₀ (te a cls d))
    (he2 : ∀ (a : Addr) (oe : Obj) (cls : Value) (d : Option Addr) (pn : List (Addr × Obj)), Zc cls d oe → (∃ vs, oe.data = .fields vs) → PE (X.suite a ((a, oe) :: pn)) e₂ (te2 a cls d))
    (hb : ∀ (W : WX) (pn : List (Addr × Obj)) (xe : Value → Shared → Prop), Takes (X.tr pn xe) W → PassesOwn (model X.prog X.w) X.A X.env xe → PSs (X.tr pn xe) body (tb W)) :
    PS X (.Try body [.ExceptHandler (some (.Name x np)) (some n) [.Assign [.Name y yp] e₀ sp] pos', .ExceptHandler (some (.Name x2 np2)) (some n) [.Assign [.Name y yp2] e₂ sp2] pos2] [] [] pos) (fun D σ H => tb (wVal2 X.K c c2 i j X.N.length te te2 Wout D) D σ H) := by
  constructor
  intro pins s σ H D I h
  have fine := I.ok
  have frames : X.A.frames = some (X.env :: X.outer) := fine.frames.trans (congrArg some hs)
  have run := (hb (wVal2 X.K c c2 i j X.N.length te te2 Wout D) (X.pn ++ pins) (fun e s₁ => wpAny (model X.prog X.w) X.A (noteFrame e X.env) (fun _ s₂ => wpAny (model X.prog X.w) X.A (setFlight e none) (fun _ s₃ =>
    wpAny (model X.prog X.w) X.A (handleBy e X.env [.ExceptHandler (some (.Name x np)) (some n) [.Assign [.Name y yp] e₀ sp] pos', .ExceptHandler (some (.Name x2 np2)) (some n) [.Assign [.Name y yp2] e₂ sp2] pos2]) (SP X pins D) X.xe s₃) X.xe s₂) X.xe s₁) ?hit PassesOwn.looking).run [] s σ H D (I.toTry _) h
  case hit =>
    rintro u s' ⟨a, B, sI, pins1, σ1, H1, cls, d, rfl, J0, ground, up0, sky0, na, os, ag, b, test, yes, no⟩
    have J : Inv X pins σ1 H1 sI := J0.ofTry fine
    have sky : Sky B (X.env :: X.outer) a (Zc cls d) X.env.locals s'.heap := hs ▸ sky0
    show wpAny (model X.prog X.w) X.A (noteFrame (.ref a) X.env) _ _ _
    refine Sky.land Zc.steady frames hf sky fun g3 fly3 up3 => ?_
    have J3 : Inv X pins σ1 H1 { s' with heap := g3 } := J.landed ground fly3.1 (up0.trans up3) os ag
    obtain ⟨o3, v3, e3, z3, d3⟩ := fly3.there
    have away : a ∉ frs (X.env :: X.outer) := fun mem => by
      obtain ⟨_, o, e, no_⟩ := fly3.2.2.1.mem mem
      rw [e3] at e; cases e
      exact no_ _ d3
    have awayL : a ≠ X.env.locals := fun z => away (List.mem_filterMap.mpr ⟨X.env, List.mem_cons_self, hf.trans (congrArg some z.symm)⟩)
    have awayF : a ∉ X.fs := fun mem => by
      obtain ⟨e, m1, m2⟩ := List.mem_filterMap.mp mem
      exact away (List.mem_filterMap.mpr ⟨e, List.mem_cons_of_mem _ m1, m2⟩)
    -- the error is younger than the entry
    have young : sI.heap.get? a = none := by
      cases q : sI.heap.get? a with
      | none => rfl
      | some o =>
        have qB := ground a o q (by rw [hs]; exact away)
        rw [fly3.2.1] at qB; cases qB
    have entry : X.s_0.heap.get? a = none := by
      cases q : X.s_0.heap.get? a with
      | none => rfl
      | some o =>
        obtain ⟨o', q'⟩ := J.base.there a o q (by rw [hex]; exact List.not_mem_nil)
        rw [young] at q'; cases q'
    have apart : ∀ p ∈ X.pn ++ pins, p.1 ≠ a := fun p hp z => by
      have q := (J.pin p hp).1
      rw [z, young] at q; cases q
    have S3 := J3.suite e3 d3 na awayL awayF
    refine wpAny_handleBy_cons (codeAny_handlers_test ?_) (by intro q; cases q)
    have LT : PySem.W.Looks (model X.prog X.w) g3 (typeOf (.ref a)) cls := fun _ _ _ _ k q => wpAny_typeOf_ref (k _ _ e3) (by rw [z3.1]; exact q)
    have LM := PySem.W.exm_one (M := model X.prog X.w) J3.kIn LT test
    have named : ∀ {Q : Value → Shared → Prop} {E : Value → Shared → Prop}, Q c { s' with heap := g3 } → wpAny (model X.prog X.w) (X.A.mark (some (.ref a))) (eval (.Name x np) X.env) Q E { s' with heap := g3 } := fun {Q E} q => by
      rcases hc with ⟨hg, hdbg, hm | ⟨hm, hv, hnn⟩⟩
      · exact ld_glob (X := X.suite a ((a, o3) :: (X.pn ++ pins))) S3 hg hm q hdbg
      · exact ld_blt (X := X.suite a ((a, o3) :: (X.pn ++ pins))) S3 hg hm hv q hnn hdbg
    refine named (LM.here ?_)
    cases b with
    | true =>
      refine codeAny_handlers_suite_as (HandSPX.lands_againZ fly3 fun g4 fly4 up4 => ?_)
      have J4 : Inv X pins σ1 H1 { s' with heap := g4 } := J.landed ground fly4.1 ((up0.trans up3).trans up4) os ag
      obtain ⟨o4, v4, e4, z4, d4⟩ := fly4.there
      have S4 := J4.suite e4 d4 na awayL awayF
      refine store_ok (X := X.suite a ((a, o4) :: (X.pn ++ pins))) (v := .ref a) S4 hN hi (.inl hln) rfl (fun s5 S5 => ?_) (.inr hln)
      have one := pss_one (X := X.suite a ((a, o4) :: (X.pn ++ pins))) (ps_set (pos := sp) (pos' := yp) (i := j) hN hj (.inl hly) (he a o4 cls d (X.pn ++ pins) z4 ⟨v4, d4⟩) hsw (.inr hly))
      refine wpAny_mono (one.run [] s5 _ H1 { nx := fun σ' H' => D.nx (σ'.set i none) H', rt := fun _ _ => False } S5 (yes rfl S4.len a na)) (fun fl s6 got => ?_) (fun _ _ z => False.elim z)
      cases fl with
      | next =>
        obtain ⟨_, _, S6, q6⟩ := got
        exact gone_ok (S6.unsuite fine) hN hi hln fun s7 J7 => ⟨_, _, J7, q6⟩
      | ret u => obtain ⟨_, _, _, _, _, z⟩ := got; exact z.elim
      | brk => obtain ⟨_, _, _, z⟩ := got; exact z.elim
      | cont => obtain ⟨_, _, _, z⟩ := got; exact z.elim
    | false =>
      obtain ⟨b2, test2, yes2, no2⟩ := no rfl
      refine wpAny_handleBy_cons (codeAny_handlers_test ?_) (by intro q; cases q)
      have LM2 := PySem.W.exm_one (M := model X.prog X.w) J3.kIn LT test2
      have named2 : ∀ {Q : Value → Shared → Prop} {E : Value → Shared → Prop}, Q c2 { s' with heap := g3 } → wpAny (model X.prog X.w) (X.A.mark (some (.ref a))) (eval (.Name x2 np2) X.env) Q E { s' with heap := g3 } := fun {Q E} q => by
        rcases hc2 with ⟨hg, hdbg, hm | ⟨hm, hv, hnn⟩⟩
        · exact ld_glob (X := X.suite a ((a, o3) :: (X.pn ++ pins))) S3 hg hm q hdbg
        · exact ld_blt (X := X.suite a ((a, o3) :: (X.pn ++ pins))) S3 hg hm hv q hnn hdbg
      refine named2 (LM2.here ?_)
      cases b2 with
      | true =>
        refine codeAny_handlers_suite_as (HandSPX.lands_againZ fly3 fun g4 fly4 up4 => ?_)
        have J4 : Inv X pins σ1 H1 { s' with heap := g4 } := J.landed ground fly4.1 ((up0.trans up3).trans up4) os ag
        obtain ⟨o4, v4, e4, z4, d4⟩ := fly4.there
        have S4 := J4.suite e4 d4 na awayL awayF
        refine store_ok (X := X.suite a ((a, o4) :: (X.pn ++ pins))) (v := .ref a) S4 hN hi (.inl hln) rfl (fun s5 S5 => ?_) (.inr hln)
        have one := pss_one (X := X.suite a ((a, o4) :: (X.pn ++ pins))) (ps_set (pos := sp2) (pos' := yp2) (i := j) hN hj (.inl hly) (he2 a o4 cls d (X.pn ++ pins) z4 ⟨v4, d4⟩) hsw2 (.inr hly))
        refine wpAny_mono (one.run [] s5 _ H1 { nx := fun σ' H' => D.nx (σ'.set i none) H', rt := fun _ _ => False } S5 (yes2 rfl S4.len a na)) (fun fl s6 got => ?_) (fun _ _ z => False.elim z)
        cases fl with
        | next =>
          obtain ⟨_, _, S6, q6⟩ := got
          exact gone_ok (S6.unsuite fine) hN hi hln fun s7 J7 => ⟨_, _, J7, q6⟩
        | ret u => obtain ⟨_, _, _, _, _, z⟩ := got; exact z.elim
        | brk => obtain ⟨_, _, _, z⟩ := got; exact z.elim
        | cont => obtain ⟨_, _, _, z⟩ := got; exact z.elim
      | false =>
        show wpAny (model X.prog X.w) X.A (handleBy (.ref a) X.env []) _ _ _
        refine wpAny_handleBy_nil ?_
        obtain ⟨_, _, _, oe, vs, T, oT, us, q1, q2, q3, q4, q5⟩ := id fly3
        unfold PySem.passOn
        refine wpAny_bind (wpAny_field q1 q3 q4 ?_)
        rw [if_neg (by simp)]
        have out : wpAny (model X.prog X.w) X.A (setFlight (.ref a) X.env.frame) (fun _ s4 => wpAny (model X.prog X.w) X.A (throw (.ref a) : Sem Flow) (SP X pins D) X.xe s4) X.xe { s' with heap := g3 } := by
          rw [hf]
          exact HandSPX.setFlight_upZ fly3 fun g4 held up4 => wpAny_throw (tk _ _ ⟨a, B, sI, pins, σ1, H1, cls, d, rfl, J, ground, (up0.trans up3).trans up4, .inr (.inr (by rw [hs]; exact held)), na, os, ag, no2 rfl⟩)
        first
          | exact wpAny_bind (wpAny_pure (wpAny_bind out))
          | exact wpAny_bind out
  refine wpAny_Try_except (wpAny_mono run (fun f s1 got => ?_) fun e s1 he => he)
  cases f with
  | next => obtain ⟨σ', H', J', q⟩ := got; exact wpAny_execs_nil ⟨σ', H', J'.ofTry fine, q⟩
  | brk => obtain ⟨σ', H', J', q⟩ := got; exact ⟨σ', H', J'.ofTry fine, q⟩
  | cont => obtain ⟨σ', H', J', q⟩ := got; exact ⟨σ', H', J'.ofTry fine, q⟩
  | ret u => obtain ⟨v, σ', H', J', r, q⟩ := got; exact ⟨v, σ', H', J'.ofTry fine, r, q⟩
end
end Er
set_option Elab.async false
set_option maxRecDepth 100000
set_option autoImplicit false
/-! a def whose code object is known; what stays while lambdas are made -/
namespace Kx
open PySem L2 PySem.Spec PyProof.Rows Rg Er Ru LamX
/-- all but the pen and the tables of code stays -/
def Ext2 (p : Addr) (H H' : Hp) : Prop := ∀ b o, b ≠ p → (∀ ps, o ≠ .tbl ps) → H b = some o → H' b = some o
theorem Ext2.refl (p : Addr) (H : Hp) : Ext2 p H H := fun _ _ _ _ q => q
theorem Ext2.of {p : Addr} {H H' : Hp} (e : Ext1 p H H') : Ext2 p H H' := fun b o n _ q => e b o n q
theorem Ext2.trans {p : Addr} {H H1 H2 : Hp} (a : Ext2 p H H1) (b : Ext2 p H1 H2) : Ext2 p H H2 := fun c o n t e => b c o n t (a c o n t e)
theorem Ext2.ofN {p : Addr} {H H' : Hp} (e : ExtN H H') : Ext2 p H H' := fun b o _ t q => e b o q t
/-- as Rg.funG, where the def's code object is known -/
theorem fnG_of {P : Program} {w : World} {K : PySem.W.Frag} {mg : Str → Option Value} {base : Heap} {x qual : Str} {st : Stmt} {f cd : Addr} {oc kV doc pm ct : Value} {od an : Option Addr} {osl : Array (Option Value)} {N ps : List Str} {k : Nat} {sp : Sp}
    (lk : K.lookup f = some ⟨oc, od, .func (PySem.W.fnOf x qual (defArgs st) (defBody st) (defScope st) .none kV doc pm an (.ref cd) ct), osl⟩) (hcd : PySem.W.codeIn K (.ref cd) qual = true) (S : FnScope N ps (defScope st)) (len : ∀ vs H Q E, sp vs H Q E → vs.length = ps.length)
    (body : ∀ (A : Around) (outer : List Env) (s : Shared) (H : Hp) (vs : List V) (Q : VK) (E : XK), A.guards = some [] → Room k (A.deeper (envOfC qual (defScope st) s.heap.objs.size f (.ref cd))) → sp vs H Q E →
      ∃ t, PSs (cxOf CX0 P w K mg base N qual (defScope st) f (.ref cd) A outer s H E).nox (defBody st) t ∧ t { nx := fun _ H' => Q .non H', rt := Q } (L2.start N vs) H) :
    FnG P w K mg base CX0 (k + 1) f (PySem.W.fnOf x qual (defArgs st) (defBody st) (defScope st) .none kV doc pm an (.ref cd) ct) ps sp := by
  refine ⟨len, fun A outer s H args us vs Q E hg hr e0 hb r want => ?_⟩
  have there : ∀ b o, base.get? b = some o → s.heap.get? b = some o := fun b o e => (e0.bs b o e).1
  have KX := e0.mod.kin.keeps there
  have kinds : ∀ y ∈ ps.zip us, (defScope st).names.lookup y.1 = some .local ∨ ((defScope st).names.lookup y.1 = some .cell ∧ ((cellsFrom (s.heap.objs.size + 1) (defScope st).names []).lookup y.1).isSome = true) := by
    rintro ⟨n, v⟩ hy
    rcases S.par n (List.of_mem_zip hy).1 with q | q
    · exact Or.inl q
    · exact Or.inr ⟨q, PySem.W.cellsFrom_some _ _ _ (Or.inl q)⟩
  refine codeAny_call_function hr.depth (KX _ _ lk) rfl S.co S.gen rfl (PySem.W.codeRec_of KX hcd) (hb _ _ _ _ (wpAny_newFunctionEnv_cells S.kind kinds ?_))
  intro env he s1 x
  subst he
  obtain ⟨t, ht, q⟩ := body A outer s H vs Q E hg (hr.deeper _) want
  have I : Inv (cxOf CX0 P w K mg base N qual (defScope st) f (.ref cd) A outer s H E) [] (L2.start N vs) H s1 := inv_start S hr.hd e0 (len _ _ _ _ want) r x
  refine ⟨(e0.mod.nolimit.keeps there).keeps x.toInCall.keep, codeAny_func (wpAny_mono (ht.nox.run [] s1 (L2.start N vs) H _ I q) ?_ fun _ _ z => z)⟩
  intro fl s2 out
  cases fl with
  | ret u => obtain ⟨v, _, H2, J, rv, q2⟩ := out; exact ⟨v, H2, J.os, J.bare, J.base, J.hok, rv, q2⟩
  | next => obtain ⟨_, H2, J, q2⟩ := out; exact ⟨V.non, H2, J.os, J.bare, J.base, J.hok, rfl, q2⟩
  | brk => obtain ⟨_, _, _, q2⟩ := out; exact q2.elim
  | cont => obtain ⟨_, _, _, q2⟩ := out; exact q2.elim
theorem PenAt.extN {c p : Addr} {n : Nat} {H H' : Hp} (h : PenAt c n H p) (e : ExtN H H') : PenAt c n H' p := by
  obtain ⟨ns, a, g, h1, h2, h3⟩ := h
  exact ⟨ns, a, g, e _ _ h1 (fun _ z => nomatch z), e _ _ h2 (fun _ z => nomatch z), h3⟩
/-- the tables stay where all but the pen does -/
theorem tabs_ink {T : List (Addr × Str)} {c p : Addr} {n m : Nat} {H H' : Hp} (h : Tabs T H) (pen : PenAt c n H p) (i : Ink c p m H H') : Tabs T H' := fun t ht => by
  obtain ⟨ps, h1, h2, h3⟩ := h t ht
  obtain ⟨ns, a, g, q1, _⟩ := pen
  have ne : ∀ {b : Addr} {o : HO}, H b = some o → (∀ xs, o ≠ .lst xs) → b ≠ p := fun {b o} e1 k => by
    rintro rfl
    rw [q1] at e1
    exact k _ (Option.some.inj e1).symm
  refine ⟨ps, i.1 _ _ (ne h1 (fun _ z => nomatch z)) h1, h2, fun pos cv e => ?_⟩
  obtain ⟨d, e1, e2⟩ := h3 pos cv e
  exact ⟨d, e1, i.1 _ _ (ne e2 (fun _ z => by unfold CodeO at z; cases z)) e2⟩
theorem tabs_put {T : List (Addr × Str)} {G : Hp} {a : Addr} {xs : List V} {o : HO} (h : Tabs T G) (e : G a = some (.lst xs)) : Tabs T (upd G a o) := fun t ht => by
  obtain ⟨ps, h1, h2, h3⟩ := h t ht
  have ne : ∀ {b : Addr} {u : HO}, G b = some u → (∀ xs, u ≠ .lst xs) → b ≠ a := fun {b u} e1 k => by
    rintro rfl
    rw [e] at e1
    exact k _ (Option.some.inj e1).symm
  refine ⟨ps, by rw [upd_ne (ne h1 (fun _ z => nomatch z))]; exact h1, h2, fun pos cv q => ?_⟩
  obtain ⟨d, e1, e2⟩ := h3 pos cv q
  exact ⟨d, e1, by rw [upd_ne (ne e2 (fun _ z => by unfold CodeO at z; cases z))]; exact e2⟩
/-- the heap grew: the pen at p has moved, tables of code are filled, all else stands -/
structure Gr (T : List (Addr × Str)) (c p : Addr) (n : Nat) (H H' : Hp) : Prop where
  ext : Ext2 p H H'
  pen : PenAt c n H' p
  tabs : Tabs T H'
section
variable {T : List (Addr × Str)} {c p : Addr} {n m : Nat} {H H1 H2 : Hp}
theorem Gr.start (h : PenAt c n H p) (t : Tabs T H) : Gr T c p n H H := ⟨Ext2.refl p H, h, t⟩
theorem Gr.same (g : Gr T c p n H H1) (s : Same H1 H2) : Gr T c p n H H2 := ⟨g.ext.trans (Ext2.of (Same.ext1 p s)), g.pen.ext s, g.tabs.ext s⟩
theorem Gr.ink (g : Gr T c p n H H1) (i : Ink c p m H1 H2) : Gr T c p m H H2 := ⟨g.ext.trans (Ext2.of i.1), i.2, tabs_ink g.tabs g.pen i⟩
theorem Gr.extN (g : Gr T c p n H H1) (e : ExtN H1 H2) (t : Tabs T H2) : Gr T c p n H H2 := ⟨g.ext.trans (Ext2.ofN e), g.pen.extN e, t⟩
theorem Gr.trans (g : Gr T c p n H H1) (k : Gr T c p m H1 H2) : Gr T c p m H H2 := ⟨g.ext.trans k.ext, k.pen, k.tabs⟩
theorem Gr.mono (g : Gr T c p n H H1) (l : n ≤ m) : Gr T c p m H H1 := ⟨g.ext, g.pen.mono l, g.tabs⟩
theorem Gr.at_ (g : Gr T c p n H H1) {b : Addr} {o : HO} (e : H b = some o) (ne : b ≠ p) (nt : ∀ ps, o ≠ .tbl ps := by intro _ z; cases z) : H1 b = some o := g.ext b o ne nt e
/-- a list that is new since H may change -/
theorem Gr.putNew (g : Gr T c p n H H1) {q : Addr} {xs : List V} {o : HO} (new : H q = none) (e : H1 q = some (.lst xs)) (ne : q ≠ p) (nc : q ≠ c) : Gr T c p n H (upd H1 q o) :=
  ⟨fun b u n t z => by rw [upd_ne (ne_of_none z new)]; exact g.ext b u n t z, by
    obtain ⟨ns, a, k, h1, h2, h3⟩ := g.pen
    exact ⟨ns, a, k, by rw [upd_ne ne.symm]; exact h1, by rw [upd_ne nc.symm]; exact h2, h3⟩, tabs_put g.tabs e⟩
/-- what is new is neither the pen nor its cells -/
theorem Gr.freeNe (h : PenAt c n H p) {q : Addr} (new : H q = none) : q ≠ p ∧ q ≠ c := ⟨h.ne1 new, h.ne2 new⟩
theorem PenAt.neO {b : Addr} {o : HO} (h : PenAt c n H p) (e : H b = some o) (k : ∀ xs, o ≠ .lst xs) : b ≠ p := by
  rintro rfl
  obtain ⟨ns, a, g, h1, _⟩ := h
  rw [h1] at e
  exact k _ (Option.some.inj e).symm
theorem PairAt.gr (g : Gr T c p m H H1) (pen : PenAt c n H p) {t : Addr} {d : Nat} {i : Int} (h : PairAt H t d i) : PairAt H1 t d i := ⟨g.at_ h.1 (pen.neO h.1 fun _ z => nomatch z), h.2⟩
theorem PairsD.gr (g : Gr T c p m H H1) (pen : PenAt c n H p) {xs : List V} {es : List (Nat × Int)} (h : PairsD H xs es) : PairsD H1 xs es := h.mono fun _ _ _ q => q.gr g pen
theorem Wts.gr (g : Gr T c p m H H1) (pen : PenAt c n H p) {C a : Addr} {es : List (Nat × Int)} {xs : List V} (h : Wts C H a es xs) : Wts C H1 a es xs := by
  obtain ⟨dx, q, h1, h2, h3⟩ := h
  exact ⟨dx, q, g.at_ h1 (pen.neO h1 fun _ z => nomatch z), g.at_ h2 (pen.neO h2 fun _ z => nomatch z), h3.gr g pen⟩
end
end Kx

set_option Elab.async false
set_option maxRecDepth 100000
set_option autoImplicit false
set_option pp.maxSteps 400
set_option pp.deepTerms false
/-! _law_heard(lambda: ..) -/
namespace Kx
open PySem L2 PySem.Spec PyProof.Rows Rg Er Ru LamX Tn ClX
abbrev sHeard : Stmt := top 46
abbrev nHeard : List Str := ["_law_asking", "_law_found", "_law_told", "error"]
theorem scHeard : FnScope nHeard ["_law_asking"] (defScope sHeard) := ⟨rfl, rfl, rfl, by decide +kernel, rfl, by decide +kernel, by decide +kernel⟩
structure HearP (K : PySem.W.Frag) (mg : Str → Option Value) (x f : Str) (C : Addr) : Prop where
  g : mg x = some (.ref C)
  xf : XfC K C
  em : PySem.W.exmOne K (.ref C) (.ref C) = some true
  no : PySem.W.findIn K (.ref C) f = some none
/-- both errors that are heard -/
structure Hear2 (K : PySem.W.Frag) (mg : Str → Option Value) (CB CH : Addr) : Prop where
  b : HearP K mg "BadBook" "at" CB
  h : HearP K mg "Heavier" "at" CH
  no : PySem.W.exmOne K (.ref CH) (.ref CB) = some false
/-- the error that is heard: [a word, its field] is told -/
def hears (CB CH : Addr) (Q : VK) : XK := fun cls d H' => ∃ dd v, ∃ w : Str, d = some dd ∧ H' dd = some (.xd [("at", v)]) ∧ ((cls = .ref CB ∧ w = "book") ∨ (cls = .ref CH ∧ w = "heavier")) ∧ ∀ q H'', Same H' H'' → H'' q = some (.lst [.str w, v]) → Q (.ref q) H''
def TTheard (CB CH : Addr) : (XK → Hp → VK → Prop) → Hp → VK → Prop := fun tl H Q => ∀ (H1 : Hp) (Q' : VK), Same H H1 → (∀ v H', Q v H' → Q' v H') → tl (hears CB CH Q) H1 Q'
theorem heard_gives {X : Cx} {g : Addr} {cdg : Value} {q : Str} {CB CH : Addr} (T : Hear2 X.K X.mg CB CH) : GivesTo X nHeard "_law_heard" (defScope sHeard) g cdg (defBody sHeard) "_law_asking" q (TTheard CB CH) := by
  intro f c' s H Q tl act hc h
  have nd := scHeard.nd
  refine ⟨_, pss_cons (ps_asg (pe_tup (pa_cons pe_non (pa_cons pe_non pa_nil))) (pg_tup rfl (pgs_cons (pg_name (i := 1) nd rfl (Or.inl rfl)) (pgs_cons (pg_name (i := 2) nd rfl (Or.inl rfl)) pgs_nil))))
    (pss_cons (ps_try_val2 (i := 3) (j := 2) (c := .ref CB) (c2 := .ref CH) (Wout := fun _ _ _ _ => False) (te := fun a cls d => tLst (tCons (tC (.str "book")) (tCons (tXf a cls d CB "at" (tVar 3)) tNil))) (te2 := fun a cls d => tLst (tCons (tC (.str "heavier")) (tCons (tXf a cls d CH "at" (tVar 3)) tNil)))
      (tb := fun W D σ H => ∃ Ech : XK, (∀ cls d σ' H', Ech cls d H' → W cls d σ' H') ∧ σ[0]? = some (some (.ref f)) ∧ H c' = some (CodeO c' q) ∧ tl Ech H (fun v H' => D.nx (σ.set 1 (some v)) H'))
      rfl rfl rfl nd rfl rfl rfl rfl ⟨rfl, by decide, .inl T.b.g⟩ ⟨rfl, by decide, .inl T.h.g⟩ L2.takes0 rfl rfl (fun a oe cls d pn hz hf => pe_lst (pa_cons pe_str (pa_cons (pe_xf T.b.xf T.b.no hz hf (pv 3)) pa_nil))) (fun a oe cls d pn hz hf => pe_lst (pa_cons pe_str (pa_cons (pe_xf T.h.xf T.h.no hz hf (pv 3)) pa_nil))) (fun W pn xe tk _ => ?_))
    (pss_one (ps_ret (pe_ifExp (pt_cmp (pc_isN (pv 2))) (pv 1) (pv 2))))), ?_⟩
  · refine ⟨fun pins s' σ H' D I h' => ?_⟩
    obtain ⟨Ech, hW, h1, h2, h3⟩ := h'
    exact (pss_one (ps_set (i := 1) nd rfl (.inl rfl) (act W pn xe Ech _ _ tk hW))).run pins s' σ H' D I ⟨h1, h2, h3⟩
  · refine ⟨by show 2 ≤ sizeLine; decide, fun t ht => ?_⟩
    refine ⟨t, _, rfl, SqT.of upd_same, rfl, _, _, rfl, _, _, rfl, rfl, ?_⟩
    have s1 : Same H (upd H t (.tup [.non, .non])) := Same.new ht
    generalize upd H t (.tup [.non, .non]) = H1 at s1 ⊢
    refine ⟨hears CB CH Q, ?_, rfl, s1 _ _ hc, h _ _ s1 fun v H' qv => ⟨_, rfl, true, rfl, iteT ⟨_, rfl, qv⟩⟩⟩
    rintro cls d σ' H' ⟨dd, v, w, rfl, hd, ⟨rfl, rfl⟩ | ⟨rfl, rfl⟩, k⟩
    · refine ⟨true, T.b.em, fun _ hlen a' na => ?_, fun z => nomatch z⟩
      obtain ⟨x0, x1, x2, x3, rfl⟩ : ∃ x0 x1 x2 x3, σ' = [x0, x1, x2, x3] := by
        match σ', hlen with
        | [x0, x1, x2, x3], _ => exact ⟨x0, x1, x2, x3, rfl⟩
      refine ⟨_, rfl, rfl, rfl, dd, _, v, rfl, hd, rfl, by show 2 ≤ sizeLine; decide, fun q hq => ?_⟩
      exact ⟨_, rfl, false, rfl, iteF ⟨_, rfl, k q _ (Same.new hq) upd_same⟩⟩
    · refine ⟨false, T.no, (fun z => nomatch z), fun _ => ⟨true, T.h.em, fun _ hlen a' na => ?_, fun z => nomatch z⟩⟩
      obtain ⟨x0, x1, x2, x3, rfl⟩ : ∃ x0 x1 x2 x3, σ' = [x0, x1, x2, x3] := by
        match σ', hlen with
        | [x0, x1, x2, x3], _ => exact ⟨x0, x1, x2, x3, rfl⟩
      refine ⟨_, rfl, rfl, rfl, dd, _, v, rfl, hd, rfl, by show 2 ≤ sizeLine; decide, fun q hq => ?_⟩
      exact ⟨_, rfl, false, rfl, iteF ⟨_, rfl, k q _ (Same.new hq) upd_same⟩⟩
def lamQ (x : Str) : Str := x ++ ".<locals>." ++ "<lambda>"
section
variable {P : Program} {w : World} {K : PySem.W.Frag} {mg : Str → Option Value} {base : Heap}
/-- _law_heard(lambda: body), in a def whose code stands at cd -/
theorem pe_hear {N : List Str} {qual : Str} {sc : Scope} {A : Around} {outer : List Env} {s : Shared} {H : Hp} {E0' : XK} {f cd tab CB CH g : Addr} {T : List (Addr × Str)} {cdg oc dV kV doc pm ct : Value} {an od : Option Addr} {osl : Array (Option Value)} {params : Arguments} {body : Expr} {scope : Scope} {t : XK → TE} {p lpos pos : Pos}
    (hr : Room 10 (A.deeper (envOfC qual sc s.heap.objs.size f (.ref cd)))) (Hc : Hear2 K mg CB CH) (hm : mg "_law_heard" = some (.ref g)) (hk : PySem.W.keepIn K (.ref g) = true)
    (lk : K.lookup g = some ⟨oc, od, .func (PySem.W.fnOf "_law_heard" "_law_heard" (defArgs sHeard) (defBody sHeard) (defScope sHeard) dV kV doc pm an cdg ct), osl⟩) (hcg : PySem.W.codeIn K cdg "_law_heard" = true) (hb : L2.Binds K (PySem.W.fnOf "_law_heard" "_law_heard" (defArgs sHeard) (defBody sHeard) (defScope sHeard) dV kV doc pm an cdg ct) ["_law_asking"] [])
    (TB : TabB base mg cd tab) (hT : (tab, lamQ qual) ∈ T) (hu : ∀ p ∈ T, p.1 = tab → p.2 = lamQ qual) (hg : Gl (cxOf CX0 P w K mg base N qual sc f (.ref cd) A outer s H E0').nox "_law_heard") (L : LamS sc scope) (hdef : defaultsOf params (envOfC qual sc s.heap.objs.size f (.ref cd)) = ([], [])) (hbind : ∀ (q : Str) (cl : List (Str × Addr)) (pm cv ctv : Value), bindArgs (PySem.W.kla_fn "<lambda>" q params body scope cl pm cv ctv) ⟨[], []⟩ = pure [])
    (hbody : ∀ (A' : Around) (outer' : List Env) (s' : Shared) (H' : Hp) (E : XK) (f' c' : Addr), Room 8 (A'.deeper (lamEnv (cxOf CX0 P w K mg base N qual sc f (.ref cd) A outer s H E0').nox scope s'.heap.objs.size f' c')) → PE (lamCx (cxOf CX0 P w K mg base N qual sc f (.ref cd) A outer s H E0').nox A' outer' s' H' E scope f' c') body (t E)) :
    PE (cxOf CX0 P w K mg base N qual sc f (.ref cd) A outer s H E0').nox (.Call (.Name "_law_heard" p) [.Lambda params body scope lpos] [] pos) (tLam T (TTheard CB CH) t) :=
  pe_lamcall (X := (cxOf CX0 P w K mg base N qual sc f (.ref cd) A outer s H E0').nox) (a := "_law_asking") (k := 8) hg hm hk lk hcg hb scHeard rfl (Or.inl rfl) (heard_gives Hc) TB rfl hT hu hr L hdef hbind hbody
/-- what the law needs of _law_heard -/
structure Hd (K : PySem.W.Frag) (mg : Str → Option Value) (g : Addr) (cdg oc dV kV doc pm ct : Value) (an od : Option Addr) (osl : Array (Option Value)) : Prop where
  hm : mg "_law_heard" = some (.ref g)
  hk : PySem.W.keepIn K (.ref g) = true
  lk : K.lookup g = some ⟨oc, od, .func (PySem.W.fnOf "_law_heard" "_law_heard" (defArgs sHeard) (defBody sHeard) (defScope sHeard) dV kV doc pm an cdg ct), osl⟩
  hcg : PySem.W.codeIn K cdg "_law_heard" = true
  hb : L2.Binds K (PySem.W.fnOf "_law_heard" "_law_heard" (defArgs sHeard) (defBody sHeard) (defScope sHeard) dV kV doc pm an cdg ct) ["_law_asking"] []
/-- what is asked of Book comes out as a book or is told -/
def HeardAs (K : PySem.W.Frag) (C CW CR : Addr) (H : Hp) (v : V) (es : List (Nat × Int)) (rs : List RD) : Option (Str × Option Nat) → Prop
  | none => ∃ b, v = .ref b ∧ Bk C CW CR H b es rs
  | some w => ∃ q, v = .ref q ∧ ToldAs H q w
end
end Kx
set_option Elab.async false
set_option maxRecDepth 100000
set_option autoImplicit false
set_option pp.maxSteps 400
set_option pp.deepTerms false
/-! str(data); what holds of good pairs and rules -/
namespace Rg
open PySem L2 PySem.Spec PyProof.Rows PySem.Calls
section
variable {X : Cx}
theorem cr_strD (hg : X.A.guards = some []) (hr : Room 0 X.A) : CallR X (.type "str") (rRepr X.K) := by
  rintro pins s σ H xs us Q I r ⟨a, d, rfl, rd, h1, h2, h3, h4, q⟩
  cases r with
  | cons r0 r1 =>
    cases r1
    obtain ⟨as, R⟩ := Rp.reads I rd r0
    cases r0
    refine str_of_reads R h1 (fun z => absurd (h2.symm.trans z) Bool.false_ne_true) hg (by have := hr.un; omega) (fun _ _ e => e) (fun h' u tk keep => ?_) h4
    exact ⟨.str d.shown, H, I.kept keep, ⟨u, rfl⟩, q⟩
end
end Rg
namespace Kx
open PySem L2 PySem.Spec PyProof.Rows Rg Er Ru Tn LamX ClX
def rTup (K : PySem.W.Frag) : List V → Hp → VK → Prop := fun xs H Q => ∃ p ys, xs = [.ref p] ∧ ((SqL K H p ys ∧ ∀ l, H l = none → Q (.ref l) (upd H l (.tup ys))) ∨ (SqT K H p ys ∧ Q (.ref p) H))
theorem bTup {X : Cx} {e : Expr} {te : TE} {p pos : Pos} (hg : Gl X "tuple") (m : X.mg "tuple" = none) (he : PE X e te) (na : starEach [e] X.env = (false, eval e X.env) :: starEach [] X.env := by rfl) : PE X (.Call (.Name "tuple" p) [e] [] pos) (tCB (rTup X.K) (tCons te tNil)) :=
  pe_callTy call_tuple_of hg m (by decide +kernel) (pa_cons he pa_nil na) (he := na)
/-- tuple of a list or of a tuple, over a heap that only grows -/
theorem rTup_new {K : PySem.W.Frag} {H : Hp} {a : Addr} {ys : List V} {Q : VK} (e : H a = some (.lst ys)) (k : ∀ l, H l = none → Q (.ref l) (upd H l (.tup ys))) : rTup K [.ref a] H Q := ⟨a, ys, rfl, .inl ⟨SqL.of e, k⟩⟩
theorem badFrom_none : ∀ (es : List (Nat × Int)) (i : Nat) (seen : List Nat), (es.map (·.1)).Nodup → (∀ c ∈ es.map (·.1), c ∉ seen) → badFrom i seen (es.map some) = none
  | [], _, _, _, _ => rfl
  | (c, n) :: r, i, seen, nd, no => by
    rw [List.map_cons] at nd no
    rw [List.nodup_cons] at nd
    show (if c ∈ seen then some i else badFrom (i + 1) (seen ++ [c]) (r.map some)) = none
    rw [if_neg (no c List.mem_cons_self)]
    refine badFrom_none r (i + 1) (seen ++ [c]) nd.2 fun d hd hs => ?_
    rcases List.mem_append.mp hs with h | h
    · exact no d (List.mem_cons_of_mem _ hd) h
    · rw [List.mem_singleton.mp h] at hd
      exact nd.1 hd
theorem PairsD.rev {H : Hp} {xs : List V} {es : List (Nat × Int)} (h : PairsD H xs es) : PairsD H xs.reverse es.reverse := by
  refine ⟨by simp [h.1], fun i e he => ?_⟩
  have hi : i < es.length := by
    have := (List.getElem?_eq_some_iff.mp he).1
    simpa using this
  rw [List.getElem?_reverse hi] at he
  obtain ⟨t, h1, h2⟩ := h.2 _ e he
  refine ⟨t, ?_, h2⟩
  rw [List.getElem?_reverse (by rw [h.1]; exact hi), h.1]
  exact h1
theorem eqvL (es fs : List (Nat × Int)) : PyData.eqv (.list (es.map dPair)) (.list (fs.map dPair)) = decide (es = fs) := eqvPairs es fs
theorem nfSelf (K : PySem.W.Frag) (C : Addr) : PySem.W.notFirst K C (.ref C) = true := by simp [PySem.W.notFirst]
theorem shapedL {es : List (Nat × Int)} (h : ∀ e ∈ es, e.1 ∈ abc.cps.toList) : SeqAt.shaped (.list (es.map dPair)) = true := by
  obtain ⟨a, b⟩ := layPairs h
  show (PyData.canLayAll0 (es.map dPair) && decide (PyData.depthAll (es.map dPair) + 1 ≤ 64)) = true
  rw [a, decide_eq_true (by omega)]
  rfl
theorem ents_of {K : PySem.W.Frag} {H : Hp} {xs : List V} {es : List (Nat × Int)} (h : PairsD H xs es) : Ents K H xs (es.map some) := ⟨by rw [h.1]; simp, fun i o ho => by
  rw [List.getElem?_map] at ho
  obtain ⟨e, he, rfl⟩ := Option.map_eq_some_iff.mp ho
  obtain ⟨t, h1, h2⟩ := h.2 i e he
  exact ⟨_, h1, .inl ⟨t, e.1, e.2, rfl, h2, rfl⟩⟩⟩
theorem some_inj {es fs : List (Nat × Int)} (h : es.map some = fs.map some) : fs = es := by
  have := congrArg (List.map fun o => o.getD (0, 0)) h
  simpa [Function.comp_def] using this.symm
theorem of_good {K : PySem.W.Frag} {C CB l : Addr} {H : Hp} {xs : List V} {es : List (Nat × Int)} {Q : VK} {E : XK} (hl : Sq H l xs) (h : PairsD H xs es) (l1 : 1 ≤ es.length) (l4 : es.length ≤ 4) (nd : (es.map (·.1)).Nodup)
    (k : ∀ a H', Same H H' → Wts C H' a es xs → Q (.ref a) H') : spWOfA K C CB [.ref C, .ref l] H Q E := by
  have al := h.1
  refine ⟨l, xs, es.map some, rfl, hl, ents_of h, by omega, fun n => absurd ⟨by omega, by omega⟩ n, fun _ => ?_⟩
  rw [badFrom_none es 0 [] nd fun _ _ h => by cases h]
  exact fun es' H' a e s w => k a H' s (by rw [some_inj e] at w; exact w)
theorem firstBad_none : ∀ (ds : List RD) (es : List (Nat × Int)) (i : Nat) (seen : List RD), (∀ d ∈ ds, inCs es d = true) → ds.Nodup → (∀ d ∈ ds, d ∉ seen) → firstBad es i seen (ds.map some) = none
  | [], _, _, _, _, _, _ => rfl
  | d :: r, es, i, seen, h1, h2, h3 => by
    show (if _ then _ else _) = _
    have nd := List.nodup_cons.mp h2
    rw [if_neg, firstBad_none r es (i + 1) (seen ++ [d]) (fun e he => h1 e (List.mem_cons_of_mem _ he)) nd.2 fun e he hs => ?_]
    · rcases List.mem_append.mp hs with h | h
      · exact h3 e (List.mem_cons_of_mem _ he) h
      · rw [List.mem_singleton.mp h] at he
        exact nd.1 he
    · rintro (z | z)
      · rw [h1 d List.mem_cons_self] at z; cases z
      · exact h3 d List.mem_cons_self z
theorem firstHeavy_none : ∀ (ds : List RD) (es : List (Nat × Int)) (i : Nat), (∀ d ∈ ds, wtR es d.2.1 < wtR es d.1) → firstHeavy es i ds = none
  | [], _, _, _ => rfl
  | d :: r, es, i, h => by
    show (if _ then _ else _) = _
    rw [if_neg (by have := h d List.mem_cons_self; omega)]
    exact firstHeavy_none r es (i + 1) fun e he => h e (List.mem_cons_of_mem _ he)
theorem GoodR.inCs {es : List (Nat × Int)} {d : RD} (h : GoodR es d) : inCs es d = true := by
  unfold Kx.inCs
  rw [List.all_eq_true, app_chars]
  intro c hc
  rcases List.mem_append.mp hc with hc | hc
  · exact decide_eq_true (h.1 c hc)
  · exact decide_eq_true (h.2.1 c hc)
/-- a book of good rules -/
theorem bof_good {K : PySem.W.Frag} {C CW CR CB CH q M : Addr} {H : Hp} {ms ws : List V} {es : List (Nat × Int)} {ds : List RD} {Q : VK} {E : XK} (hM : Sq H M ms) (hr : RulesAt CR H ms ds) (hw : Wts CW H q es ws) (l4 : es.length ≤ 4) (d8 : ds.length ≤ 8)
    (g1 : firstBad es 0 [] (ds.map some) = none) (g2 : firstHeavy es 0 ds = none) (k : ∀ H' b, Same H H' → Bk C CW CR H' b es ds → Q (.ref b) H') : spBOf K C CW CR CB CH [.ref C, .ref q, .ref M] H Q E := by
  have ml := hr.1
  refine ⟨M, .ref q, ms, rfl, hM, by omega, .inr ⟨q, ws, es, ds.map some, rfl, hw, l4, hr.ents, fun z => absurd z (by omega), fun _ => ?_⟩⟩
  rw [g1]
  dsimp only
  intro rs er
  have : rs = ds := by
    have := congrArg (List.filterMap id) er
    rw [List.filterMap_map, List.filterMap_map] at this
    simpa using this.symm
  subst this
  rw [g2]
  exact k
theorem ext_at {c p a : Addr} {n : Nat} {H H' : Hp} {o : HO} (pen : PenAt c n H p) (e : Ext1 p H H') (h : H a = some o) (no : ∀ xs, o ≠ .lst xs) : H' a = some o := e _ _ (pen.neO h no) h
theorem PairsD.ext {c p : Addr} {n : Nat} {H H' : Hp} {xs : List V} {es : List (Nat × Int)} (pen : PenAt c n H p) (e : Ext1 p H H') (h : PairsD H xs es) : PairsD H' xs es := h.mono fun _ _ _ q => ⟨ext_at pen e q.1 (fun _ z => nomatch z), q.2⟩
theorem Wts.ext {c p C a : Addr} {n : Nat} {H H' : Hp} {xs : List V} {es : List (Nat × Int)} (pen : PenAt c n H p) (e : Ext1 p H H') (h : Wts C H a es xs) : Wts C H' a es xs := by
  obtain ⟨dx, q, h1, h2, h3⟩ := h
  exact ⟨dx, q, ext_at pen e h1 (fun _ z => nomatch z), ext_at pen e h2 (fun _ z => nomatch z), h3.ext pen e⟩
theorem RlD.ext {c p C a : Addr} {n : Nat} {H H' : Hp} {d : RD} (pen : PenAt c n H p) (e : Ext1 p H H') (h : RlD C H a d) : RlD C H' a d := by
  obtain ⟨⟨dx, h1⟩, h2⟩ := h
  exact ⟨⟨dx, ext_at pen e h1 fun _ z => nomatch z⟩, h2⟩
theorem RulesAt.ext {c p C : Addr} {n : Nat} {H H' : Hp} {ys : List V} {rs : List RD} (pen : PenAt c n H p) (e : Ext1 p H H') (h : RulesAt C H ys rs) : RulesAt C H' ys rs := ⟨h.1, fun i d q => let ⟨a, x, y⟩ := h.2 i d q; ⟨a, x, y.ext pen e⟩⟩
theorem Bk.ext {c p C CW CR b : Addr} {n : Nat} {H H' : Hp} {es : List (Nat × Int)} {rs : List RD} (pen : PenAt c n H p) (e : Ext1 p H H') (h : Bk C CW CR H b es rs) : Bk C CW CR H' b es rs := by
  obtain ⟨dx, q, r, xs, ys, h1, h2, h3, h4⟩ := h
  exact ⟨dx, q, r, xs, ys, ext_at pen e h1 (fun _ z => nomatch z), h2.ext pen e, ext_at pen e h3 (fun _ z => nomatch z), h4.ext pen e⟩
theorem RulesAt.rev {C : Addr} {H : Hp} {ys : List V} {rs : List RD} (h : RulesAt C H ys rs) : RulesAt C H ys.reverse rs.reverse := by
  refine ⟨by simp [h.1], fun i d he => ?_⟩
  have hi : i < rs.length := by
    have := (List.getElem?_eq_some_iff.mp he).1
    simpa using this
  rw [List.getElem?_reverse hi] at he
  obtain ⟨t, h1, h2⟩ := h.2 _ d he
  refine ⟨t, ?_, h2⟩
  rw [List.getElem?_reverse (by rw [h.1]; exact hi), h.1]
  exact h1
/-- what is known of Weights, Rule and Book -/
structure BF (P : Program) (w : World) (K : PySem.W.Frag) (mg : Str → Option Value) (base : Heap) (C CW CR CB CH CS CQ : Addr) : Prop where
  M : BT K C
  gB : mg "Book" = some (.ref C)
  I : InsT K C
  kB : PySem.W.kitOne K (.ref C) (.ref C) = some true
  kBL : PySem.W.kitOne K (.type "list") (.ref C) = some false
  nBL : PySem.W.notFirst K C (.type "list") = true
  MW : WT K CW
  gW : mg "Weights" = some (.ref CW)
  IW : InsT K CW
  MR : RT K mg CR
  IR : InsT K CR
  rNon : PySem.W.kitOne K (.type "NoneType") (.ref CR) = some false ∧ PySem.W.notFirst K CR (.type "NoneType") = true
  rStr : PySem.W.kitOne K (.type "str") (.ref CR) = some false ∧ PySem.W.notFirst K CR (.type "str") = true
  rInt : PySem.W.kitOne K (.type "int") (.ref CR) = some false ∧ PySem.W.notFirst K CR (.type "int") = true
  rTup : PySem.W.kitOne K (.type "tuple") (.ref CR) = some false ∧ PySem.W.notFirst K CR (.type "tuple") = true
  rDct : PySem.W.kitOne K (.type "dict") (.ref CR) = some false ∧ PySem.W.notFirst K CR (.type "dict") = true
  rLst : PySem.W.kitOne K (.type "list") (.ref CR) = some false ∧ PySem.W.notFirst K CR (.type "list") = true
  rdB : CRead K C (.type "type")
  ofB : ∃ p g, CMet K C (.type "type") "of" p g ∧ FnR P w K mg base (L2.CX P w) 6 g (spBOf K C CW CR CB CH)
  rdW : CRead K CW (.type "type")
  ofW : ∃ p g, CMet K CW (.type "type") "of" p g ∧ FnR P w K mg base (L2.CX P w) 6 g (spWOfA K CW CS)
  len : ∃ f fd, PySem.W.findIn K (.ref C) "__len__" = some (some (.ref f)) ∧ PySem.W.isFn K (.ref f) = true ∧ FnOk P w K mg base CX0 1 f fd ["self"] (spBLen C CW CR) ∧ L2.Binds K fd ["self"] []
  has : ∃ f fd, PySem.W.findIn K (.ref C) "__contains__" = some (some (.ref f)) ∧ PySem.W.isFn K (.ref f) = true ∧ FnOk P w K mg base CX0 3 f fd ["self", "x"] (spBHas K C CW CR) ∧ L2.Binds K fd ["self", "x"] []
  item : ∃ f fd, PySem.W.findIn K (.ref C) "__getitem__" = some (some (.ref f)) ∧ PySem.W.fnIn K f = true ∧ PySem.W.isFn K (.ref f) = true ∧ FnOk P w K mg base CX0 1 f fd ["self", "at"] (spBItem C CW CR) ∧ L2.Binds K fd ["self", "at"] []
  long : ∃ p g fd, PropOf K C "longest" p g ∧ FnOk P w K mg base CX0 1 g fd ["self"] (spBLong C CW CR) ∧ L2.Binds K fd ["self"] []
  eqB : ∃ f fd, PySem.W.findIn K (.ref C) "__eq__" = some (some (.ref f)) ∧ PySem.W.isFn K (.ref f) = true ∧ FnOk P w K mg base CX0 3 f fd ["self", "other"] (spBEq K C CW CR) ∧ L2.Binds K fd ["self", "other"] []
  eqW : ∃ f fd, PySem.W.findIn K (.ref CW) "__eq__" = some (some (.ref f)) ∧ PySem.W.isFn K (.ref f) = true ∧ FnOk P w K mg base CX0 1 f fd ["self", "other"] (spWEq K CW) ∧ L2.Binds K fd ["self", "other"] []
  eqR : ∃ f fd, PySem.W.findIn K (.ref CR) "__eq__" = some (some (.ref f)) ∧ PySem.W.isFn K (.ref f) = true ∧ FnOk P w K mg base CX0 1 f fd ["self", "other"] (spREq K CR) ∧ L2.Binds K fd ["self", "other"] []
  made : ∃ f fd, mg "_law_made" = some (.ref f) ∧ PySem.W.keepIn K (.ref f) = true ∧ FnOk P w K mg base CX0 5 f fd ["_law_rule_here"] (spMade CR) ∧ L2.Binds K fd ["_law_rule_here"] []
  due : ∃ f fd, mg "_law_due" = some (.ref f) ∧ PySem.W.keepIn K (.ref f) = true ∧ FnOk P w K mg base CX0 2 f fd ["_law_pairs_here", "_law_listed"] spDue ∧ L2.Binds K fd ["_law_pairs_here", "_law_listed"] []
  rule : ∃ f fd, mg "_law_rule" = some (.ref f) ∧ PySem.W.keepIn K (.ref f) = true ∧ FnOk P w K mg base CX0 4 f fd ["_law_pen_here", "_law_pairs_here"] spRule ∧ L2.Binds K fd ["_law_pen_here", "_law_pairs_here"] []
end Kx
set_option Elab.async false
set_option maxRecDepth 100000
set_option autoImplicit false
set_option pp.maxSteps 400
set_option pp.deepTerms false
/-! _law_right -/
namespace Kx
open PySem L2 PySem.Spec PyProof.Rows Rg Er Ru Tn LamX ClX
abbrev sRight : Stmt := top 47
def spRight : Sp := fun vs H Q _ => ∃ (c p L F : Addr) (n : Nat) (es : List (Nat × Int)) (ds : List RD), vs = [.ref p, .ref L, .ref F] ∧ n ≤ 600000 ∧ PenAt c n H p ∧ L ≠ p ∧ F ≠ p ∧ PairsOf H L es ∧ (∃ e ∈ es, 0 < e.2) ∧ ItsOf H F (ds.map .rule) ∧ (∀ d ∈ ds, GoodR es d) ∧ ds.Nodup ∧ ds.length ≤ 8 ∧
  ∀ H', Ink c p (n + 200) H H' → Q (.bl true) H'
theorem RlD.put {C l a : Addr} {H : Hp} {d : RD} {xs ys : List V} (h : RlD C H a d) (hl : H l = some (.lst xs)) : RlD C (upd H l (.lst ys)) a d := by
  obtain ⟨⟨dx, h1⟩, h2⟩ := h
  refine ⟨⟨dx, ?_⟩, h2⟩
  rw [upd_ne]
  · exact h1
  · rintro rfl; rw [h1] at hl; cases hl
theorem RulesAt.put {C l : Addr} {H : Hp} {zs xs ys : List V} {rs : List RD} (h : RulesAt C H zs rs) (hl : H l = some (.lst xs)) : RulesAt C (upd H l (.lst ys)) zs rs := ⟨h.1, fun i d q => let ⟨a, x, y⟩ := h.2 i d q; ⟨a, x, y.put hl⟩⟩
theorem RulesAt.nil (C : Addr) (H : Hp) : RulesAt C H [] [] := ⟨rfl, fun _ _ h => nomatch h⟩
theorem RulesAt.snoc {C a : Addr} {H : Hp} {xs : List V} {rs : List RD} {d : RD} (h : RulesAt C H xs rs) (q : RlD C H a d) : RulesAt C H (xs ++ [.ref a]) (rs ++ [d]) := by
  refine ⟨by simp [h.1], fun i e he => ?_⟩
  have hl := h.1
  by_cases lt : i < rs.length
  · rw [List.getElem?_append_left lt] at he
    rw [List.getElem?_append_left (by omega)]
    exact h.2 i e he
  · rw [List.getElem?_append_right (by omega)] at he
    obtain ⟨i0, ei⟩ := List.getElem?_eq_some_iff.mp he
    have i0' : i - rs.length = 0 := by simp at i0; omega
    rw [List.getElem?_append_right (by omega), show i - xs.length = 0 by omega]
    rw [i0'] at he
    cases he
    exact ⟨a, rfl, q⟩
theorem ne_int {a b : Int} (h : a = b) : (!decide (V.int a = V.int b)) = false := by rw [h]; simp
theorem eq_rules {K : PySem.W.Frag} {C a b : Addr} {H : Hp} {d e : RD} {Q : VK} (I : InsT K C) (ha : RlD C H a d) (hb : RlD C H b e) (q : Q (.bl (decide (d = e))) H) : rEqOwn K C (spREq K C) E0 (.ref a) (.ref b) H Q := by
  have ha' := ha
  have hb' := hb
  obtain ⟨⟨dx, h1⟩, _⟩ := ha'
  obtain ⟨⟨dy, h2⟩, _⟩ := hb'
  rw [lenD] at q
  exact ⟨a, dx, _, .ref C, rfl, h1, I.ty h2, nfSelf K C, a, .ref b, _, _, _, _, rfl, ha.1, .inl ⟨b, _, _, _, _, rfl, hb.1, _, rfl, q⟩⟩
theorem eq_weights {K : PySem.W.Frag} {C a b : Addr} {H : Hp} {xs ys : List V} {es fs : List (Nat × Int)} {Q : VK} (I : InsT K C) (ha : Wts C H a es xs) (hb : Wts C H b fs ys) (q : Q (.bl (decide (es = fs))) H) : rEqOwn K C (spWEq K C) E0 (.ref a) (.ref b) H Q := by
  have ha' := ha
  have hb' := hb
  obtain ⟨dx, _, h1, _⟩ := ha'
  obtain ⟨dy, _, h2, _⟩ := hb'
  exact ⟨a, dx, _, .ref C, rfl, h1, I.ty h2, nfSelf K C, a, es, xs, .ref b, rfl, ha, .inl ⟨b, fs, ys, rfl, hb, _, rfl, q⟩⟩
theorem eq_books {K : PySem.W.Frag} {C CW CR a b : Addr} {H : Hp} {es fs : List (Nat × Int)} {rs ss : List RD} {Q : VK} (I : InsT K C) (ha : Bk C CW CR H a es rs) (hb : Bk C CW CR H b fs ss) (q : Q (.bl (decide (es = fs) && decide (rs = ss))) H) : rEqOwn K C (spBEq K C CW CR) E0 (.ref a) (.ref b) H Q := by
  have ha' := ha
  have hb' := hb
  obtain ⟨dx, _, _, _, _, h1, _⟩ := ha'
  obtain ⟨dy, _, _, _, _, h2, _⟩ := hb'
  exact ⟨a, dx, _, .ref C, rfl, h1, I.ty h2, nfSelf K C, a, es, rs, .ref b, rfl, ha, .inl ⟨b, fs, ss, rfl, hb, _, rfl, q⟩⟩
/-- [] != [] -/
theorem ne_nils {K : PySem.W.Frag} {D : Addr} {G : Hp} {Q : VK} (hD : G D = some (.lst [])) (k : ∀ G2, Same G G2 → Q (.bl false) G2) : tLst tNil [] G fun y H => rNeD K (.ref D) y H Q := by
  refine ⟨Nat.zero_le _, fun Z hZ => ?_⟩
  have s : Same G (upd G Z (.lst [])) := Same.new hZ
  exact ⟨.list [], .list [], .lst (SqL.of (s _ _ hD)) .nil, .lst (SqL.of upd_same) .nil, rfl, rfl, k _ s⟩
theorem longR_snoc (ds : List RD) (d : RD) : longR (ds ++ [d]) = if (d.1.length : Int) > longR ds then (d.1.length : Int) else longR ds := by
  unfold longR
  rw [List.map_append, List.foldl_append]
  show max _ (d.1.length : Int) = _
  generalize List.foldl max 0 (ds.map fun d => (d.1.length : Int)) = z
  split <;> omega
theorem at_int {xs : List V} {i : Nat} {v : V} (h : xs[i]? = some v) : atI xs (i : Int) = some v := atI_int (by omega) (by rw [show ((i : Int)).toNat = i by omega]; exact h)
theorem tameStr {z : Str} (h : z.length ≤ 4) (o : ∀ c ∈ z.cps.toList, c ∈ abc.cps.toList) : Tame (.str z) 0 4 := by
  refine ⟨by simp only [PyData.showable], by simp only [PyData.hasDict], by simp only [PyData.depth]; exact Nat.zero_le _, ?_, by simp only [PyData.weight]; exact h⟩
  simp only [PyData.leavesShort, List.all_eq_true, decide_eq_true_eq]
  intro c hc
  have := abc_lt (o c hc)
  omega
theorem tameR {d : RD} (h : OkR d) : Tame (itD (.rule d)) 1 100 := by
  obtain ⟨l4, n4, _⟩ := h.le
  exact .tup (.cons (w1 := 4) (w2 := 50) (tameStr l4 (lets_abc h.1)) (.cons (w1 := 4) (w2 := 20) (tameStr n4 (lets_abc h.2)) (.cons (w1 := 0) (w2 := 5) (.bool _) (.cons (w1 := 0) (w2 := 0) (.bool _) .nil (by decide)) (by decide)) (by decide)) (by decide))
theorem RuleAt.rp {K : PySem.W.Frag} {H : Hp} {t : Addr} {d : RD} (h : RuleAt H t d) : Rp K H (.ref t) (itD (.rule d)) := .tup (SqT.of h) (.cons (.str _) (.cons (.str _) (.cons (.bl _) (.cons (.bl _) .nil))))
theorem mem_rules {d : RD} {ds : List RD} : decide (Itm.rule d ∈ ds.map Itm.rule) = decide (d ∈ ds) := by
  rw [Bool.eq_iff_iff, decide_eq_true_iff, decide_eq_true_iff, List.mem_map]
  exact ⟨fun ⟨e, he, z⟩ => by cases z; exact he, fun h => ⟨d, h, rfl⟩⟩
theorem ne_bl {a b : Bool} (h : a = b) : (!decide (V.bl a = V.bl b)) = false := by rw [h]; simp
/-- what no book has in it -/
def OddB (K : PySem.W.Frag) (CR : Addr) (G : Hp) (v : V) : Prop := ∀ H', Same G H' → (∃ t, TyX K H' v t ∧ PySem.W.kitOne K t (.ref CR) = some false ∧ PySem.W.notFirst K CR t = true) ∧ ∀ a dx fs, v = .ref a → H' a ≠ some (.ins CR dx fs)
theorem wtC_app : ∀ (es fs : List (Nat × Int)) (l : List Nat), wtC (es ++ fs) l = wtC es l + wtC fs l := fun es fs l => by
  unfold wtC
  rw [List.map_append, List.sum_append]
theorem wtC_rev : ∀ (es : List (Nat × Int)) (l : List Nat), wtC es.reverse l = wtC es l
  | [], _ => rfl
  | e :: r, l => by
    rw [List.reverse_cons, wtC_app, wtC_rev r l, show e :: r = [e] ++ r from rfl, wtC_app]
    omega
theorem GoodR.rev {es : List (Nat × Int)} {d : RD} (h : GoodR es d) : GoodR es.reverse d := by
  obtain ⟨h1, h2, h3, h4, h5, h6⟩ := h
  refine ⟨fun c hc => ?_, fun c hc => ?_, h3, h4, h5, ?_⟩
  · rw [List.map_reverse, List.mem_reverse]; exact h1 c hc
  · rw [List.map_reverse, List.mem_reverse]; exact h2 c hc
  · unfold wtR
    rw [wtC_rev, wtC_rev]
    exact h6
theorem rev_iff : ∀ {es : List (Nat × Int)}, 1 ≤ es.length → (es.map (·.1)).Nodup → decide (es.reverse = es) = decide (es.length = 1)
  | [], l, _ => absurd l (by decide)
  | [e], _, _ => by simp
  | a :: b :: r, _, nd => by
    have no : ¬ (a :: b :: r).reverse = a :: b :: r := by
      intro z
      have h0 : (a :: b :: r).reverse.head? = some a := by rw [z]; rfl
      rw [List.head?_reverse, List.getLast?_cons_cons] at h0
      have mem : a ∈ b :: r := List.mem_of_getLast? h0
      rw [List.map_cons, List.nodup_cons] at nd
      exact nd.1 (List.mem_map.mpr ⟨a, mem, rfl⟩)
    rw [decide_eq_false no, decide_eq_false (by simp)]
theorem eqvAll_its : ∀ is ks : List Itm, PyData.eqvAll (is.map itD) (ks.map itD) = decide (is = ks)
  | [], [] => rfl
  | [], _ :: _ => rfl
  | _ :: _, [] => rfl
  | e :: r, f :: t => by
    simp only [List.map_cons, PyData.eqvAll, eqv_it, eqvAll_its r t]
    by_cases h1 : e = f
    · by_cases h2 : r = t
      · simp [h1, h2]
      · simp [h1, h2]
    · simp [h1]
theorem eqv_its (is ks : List Itm) : PyData.eqv (.list (is.map itD)) (.list (ks.map itD)) = decide (is = ks) := eqvAll_its is ks
theorem ItsAt.rev {H : Hp} {ys : List V} {rs : List Itm} (h : ItsAt H ys rs) : ItsAt H ys.reverse rs.reverse := by
  refine ⟨by simp [h.1], fun i d he => ?_⟩
  have hi : i < rs.length := by
    have := (List.getElem?_eq_some_iff.mp he).1
    simpa using this
  rw [List.getElem?_reverse hi] at he
  obtain ⟨t, h1, h2⟩ := h.2 _ d he
  refine ⟨t, ?_, h2⟩
  rw [List.getElem?_reverse (by rw [h.1]; exact hi), h.1]
  exact h1
theorem rule_rev (ds : List RD) : decide (ds.reverse = ds) = decide (ds.map Itm.rule = (ds.map Itm.rule).reverse) := by
  rw [Bool.eq_iff_iff, decide_eq_true_iff, decide_eq_true_iff, ← List.map_reverse]
  constructor
  · intro h; rw [h]
  · intro h
    have := congrArg (List.filterMap optR) h
    rw [filterMap_rules, filterMap_rules] at this
    exact this.symm
/-- the double weight, 9 at most -/
def hvy (e : Nat × Int) : Nat × Int := (e.1, if e.2 * 2 < 9 then e.2 * 2 else 9)
theorem hvy_letters (es : List (Nat × Int)) : (es.map hvy).map (·.1) = es.map (·.1) := by
  rw [List.map_map]
  rfl
/-- what stands while _law_right runs -/
structure RtS (C CW CR : Addr) (H G : Hp) (c p : Addr) (N : Nat) (L F M b : Addr) (es : List (Nat × Int)) (ds : List RD) : Prop where
  ink : Ink c p N H G
  po : PairsOf G L es
  its : ItsOf G F (ds.map .rule)
  md : ∃ ms, G M = some (.lst ms) ∧ RulesAt CR G ms ds
  bk : Bk C CW CR G b es ds
theorem RtS.same {C CW CR c p L F M b : Addr} {H G G2 : Hp} {N : Nat} {es : List (Nat × Int)} {ds : List RD} (h : RtS C CW CR H G c p N L F M b es ds) (s : Same G G2) : RtS C CW CR H G2 c p N L F M b es ds := by
  obtain ⟨h1, ⟨xs, h2, h3, h4⟩, h5, ⟨ms, h6, h7⟩, h8⟩ := h
  exact ⟨h1.same s, ⟨xs, s _ _ h2, h3.mono fun _ _ _ q => q.same s, h4⟩, h5.same s, ⟨ms, s _ _ h6, h7.same s⟩, h8.same s⟩
theorem RtS.step {C CW CR c p L F M b : Addr} {H G G2 : Hp} {N N2 : Nat} {es : List (Nat × Int)} {ds : List RD} (h : RtS C CW CR H G c p N L F M b es ds) (Lp : L ≠ p) (Fp : F ≠ p) (Mp : M ≠ p) (i : Ink c p N2 G G2) : RtS C CW CR H G2 c p N2 L F M b es ds := by
  obtain ⟨h1, h2, h5, ⟨ms, h6, h7⟩, h8⟩ := h
  exact ⟨Ink.trans h1 i, h2.ext h1.2 Lp i.1, h5.ext h1.2 Fp i.1, ⟨ms, i.1 _ _ Mp h6, h7.ext h1.2 i.1⟩, h8.ext h1.2 i.1⟩
section
variable {P : Program} {w : World} {K : PySem.W.Frag} {mg : Str → Option Value} {base : Heap}
abbrev nRight : List Str := ["_law_pen_here", "_law_pairs_here", "_law_listed", "_law_made_here", "_law_rule_here", "_law_book", "_law_k", "_law_longest", "_law_others", "_law_odd", "_law_turned", "_law_heavier", "_law_pair", "_law_same", "_law_is_even"]
theorem scRight : FnScope nRight ["_law_pen_here", "_law_pairs_here", "_law_listed"] (defScope sRight) := ⟨rfl, rfl, rfl, by decide +kernel, rfl, by decide +kernel, by decide +kernel⟩
set_option maxHeartbeats 0 in
theorem ok_right {C CW CR CB CH CS CQ f : Addr} {fd : FuncData} (F : L2.Fun K "_law_right" "_law_right" sRight f fd) (T : Txt mg) (mMax : mg "max" = none) (mMin : mg "min" = none) (mStr : mg "str" = none) (B : BF P w K mg base C CW CR CB CH CS CQ) :
    FnG P w K mg base CX0 8 f fd ["_law_pen_here", "_law_pairs_here", "_law_listed"] spRight := by
  obtain ⟨M, gB, I, kB, kBL, nBL, MW, gW, IW, MR, IR, rNon, rStr, rInt, rTup_, rDct, rLst, rdB, ⟨pB, gBo, oB, oBF⟩, rdW, ⟨pW, gWo, oW, oWF⟩, ⟨fl, fdl, al, nl, lF, lb⟩, ⟨fh, fdh, ah, nh, hF, hb⟩, ⟨fi, fdi, ai, ii, ni, iF, ib⟩, ⟨pL, gL, fdL, poL, GL, bL⟩,
    ⟨fq, fdq, aq, nq, qF, qb⟩, ⟨fw, fdw, aw, nw, wF, wb⟩, ⟨fr, fdr, ar, nr, rF, rb⟩, ⟨f1, fd1, m1, k1, G1, b1⟩, ⟨f2, fd2, m2, k2, G2, b2⟩, ⟨f3, fd3, m3, k3, G3, b3⟩⟩ := B
  refine funG F scRight (fun vs H Q E h => ?_) (fun cdv A outer s H vs Q E hg hr h => ?_)
  · obtain ⟨c, p, L, F, n, es, ds, rfl, _⟩ := h
    rfl
  · obtain ⟨c, p, L, F, n, es, ds, rfl, nb, pen, Lp, Fp, po, pos, its, good, ndd, d8, k⟩ := h
    have nd := scRight.nd
    have hr0 := hr.mono (show 0 ≤ 7 by decide)
    have hr1 := hr.mono (show 1 ≤ 7 by decide)
    have hr1' := hr.mono (show 1 + 1 ≤ 7 by decide)
    have hr2 := hr.mono (show 2 ≤ 7 by decide)
    have hr3 := hr.mono (show 3 ≤ 7 by decide)
    have hr4 := hr.mono (show 4 ≤ 7 by decide)
    have hr5 := hr.mono (show 5 ≤ 7 by decide)
    have hr6 := hr.mono (show 6 ≤ 7 by decide)
    have hu65 := room65 hr1
    refine ⟨_, pss_cons (ps_set (i := 3) nd rfl (.inr rfl) (pe_lc (own := [("_law_rule_here", 4)]) (g := gName 4) (tt := tYes) rfl nd (pi_list (pv 2)) (blkOk_by (own := [("_law_rule_here", 4)]) (N := nRight) (sc := defScope sRight) (by decide +kernel)) (fun _ _ _ _ _ => (pg_name (i := 4) nd rfl (Or.inl rfl))) (fun _ _ _ _ _ => pts_nil) (fun _ _ _ _ _ => (pe_call G1 hr5 (by rfl) m1 k1 b1 .nil pass0 (pa_cons (pv 4) pa_nil)))))
      (pss_cons (ps_set (i := 5) nd rfl (.inr rfl) (pe_cmeth (pe_glob (v := .ref C) (by rfl) gB rfl) rdB oB oBF hr6 passesF (pa_cons (pe_cmeth (pe_glob (v := .ref CW) (by rfl) gW rfl) rdW oW oWF hr6 passesF (pa_cons (pv 1) pa_nil)) (pa_cons (pv 3) pa_nil))))
      (pss_cons (ps_if (PW.pt (pw_or (pt_cmpR op_ne (pe_callB (cr_len lF hr1' lb pass0 al nl) (by rfl) T.len PySem.boot_len (pa_cons (pv 5) pa_nil)) (bLen (by rfl) T.len (pv 2)) (nomark _)) (pw_or1 (pt_cmpR op_ne (bLen (by rfl) T.len (pe_fld (pv 5) rfl)) (bLen (by rfl) T.len (pv 2)) (nomark _))))) (pss_one (ps_never)) pss_nil)
      (pss_cons (ps_if (pt_cmpR (op_neD hr.units) (pe_lc (own := [("_law_k", 6)]) (g := gName 6) (tt := tNot (tTest (tOp (rEqOwn K CR (spREq K CR) E0) (tOp (rIxT K) (tFld K (tVar 5) "rules") (tVar 6)) (tOp (rIxL K) (tVar 3) (tVar 6))))) (te := tVar 6) rfl nd (pi_range1 (by rfl) T.range (pa_cons (bLen (by rfl) T.len (pv 2)) pa_nil)) (blkOk_by (own := [("_law_k", 6)]) (N := nRight) (sc := defScope sRight) (by decide +kernel)) (fun _ _ _ _ _ => (pg_name (i := 6) nd rfl (Or.inl rfl))) (fun _ _ _ _ _ => pts_one (pt_not (pt_cmpR (op_eqOwn rF hr1 rb pass0 ar nr) (bIxT (pe_fld (pv 5) rfl) (pv 6)) (bIx (pv 3) (pv 6)) (nomark _)))) (fun _ _ _ _ _ => (pv 6))) (pe_lst pa_nil) (nomark _)) (pss_one (ps_never)) pss_nil)
      (pss_cons (ps_if (PW.pt (pw_or (pt_not (pt_val (bIsi (by rfl) T.isi (pe_fld (pv 5) rfl) (pe_bltn (v := .ty "tuple") (by rfl) T.tuple (by decide +kernel) rfl)))) (pw_or (pt_not (pt_cmpR (op_eqOwn wF hr1 wb pass0 aw nw) (pe_fld (pv 5) rfl) (pe_cmeth (pe_glob (v := .ref CW) (by rfl) gW rfl) rdW oW oWF hr6 passesF (pa_cons (pv 1) pa_nil)) (nomark _))) (pw_or1 (pt_cmpR op_ne (ClX.pe_cval (pe_glob (v := .ref C) (by rfl) gB rfl)) pe_int (nomark _)))))) (pss_one (ps_never)) pss_nil)
      (pss_cons (ps_set (i := 7) nd rfl (.inl rfl) pe_int)
      (pss_cons (ps_for PassesOwn.never rfl (pi_list (pv 2)) (pg_name (i := 4) nd rfl (Or.inl rfl)) (pss_one (ps_set (i := 7) nd rfl (.inl rfl) (pe_callB (call_max2 rfl) (by rfl) mMax (by decide +kernel) (pa_cons (pv 7) (pa_cons (bLen (by rfl) T.len (bIxT (pv 4) pe_int)) pa_nil))))))
      (pss_cons (ps_if (pt_cmpR op_ne (pe_prop (pv 5) M.cl poL GL hr1' bL .nil pass0 rfl) (pv 7) (nomark _)) (pss_one (ps_never)) pss_nil)
      (pss_cons (ps_setLc (i := 8) (own := [("_law_k", 6)]) (g := gName 6) (tt := tYes) (te := tCall spRule [] E0 (tCons (tVar 0) (tCons (tVar 1) tNil))) rfl nd rfl rfl (sw_true rfl rfl rfl (by decide +kernel)) (pi_range1 (by rfl) T.range (pa_cons pe_int pa_nil)) (blkOk_by (own := [("_law_k", 6)]) (N := nRight) (sc := defScope sRight) (by decide +kernel)) (fun _ _ _ _ _ => (pg_name (i := 6) nd rfl (Or.inl rfl))) (fun _ _ _ _ _ => pts_nil) (fun _ _ _ _ _ => (pe_call G3 hr4 (by rfl) m3 k3 b3 .nil pass0 (pa_cons (pv 0) (pa_cons (pv 1) pa_nil)))))
      (pss_cons (ps_for PassesOwn.never rfl (pi_list (pe_op op_cat (pv 2) (pv 8))) (pg_name (i := 4) nd rfl (Or.inl rfl)) (pss_one (ps_if (pt_cmpR op_ne (pe_cmpR (op_has hF hr3 hb pass0 ah nh) (pe_call G1 hr5 (by rfl) m1 k1 b1 .nil pass0 (pa_cons (pv 4) pa_nil)) (pv 5) rfl) (pe_cmpR (op_inD hu65) (pv 4) (pv 2) rfl) (nomark _)) (pss_one (ps_never)) pss_nil)))
      (pss_cons (ps_for PassesOwn.never rfl (pi_range1 (by rfl) T.range (pa_cons (bLen (by rfl) T.len (pv 2)) pa_nil)) (pg_name (i := 6) nd rfl (Or.inl rfl)) (pss_one (ps_if (pt_not (pt_cmpR (op_eqOwn rF hr1 rb pass0 ar nr) (pe_item iF hr1' ib pass0 ai ii ni (pv 5) (pv 6)) (bIx (pv 3) (pv 6)) (nomark _))) (pss_one (ps_never)) pss_nil)))
      (pss_cons (ps_if (pt_cmpR (op_neD hr.units) (pe_lc (own := [("_law_odd", 9)]) (g := gName 9) (tt := tTest (tOp (rHas false C (spBHas K C CW CR) E0) (tVar 9) (tVar 5))) (te := tVar 9) rfl nd (pi_list (pe_lst (pa_cons pe_non (pa_cons pe_str (pa_cons pe_int (pa_cons (pe_callTy (cr_strD hg hr0) (by rfl) mStr (by decide +kernel) (pa_cons (bIx (pv 8) pe_int) pa_nil)) (pa_cons (bIx (pv 8) pe_int) (pa_cons pe_dnewK (pa_cons (pe_lst pa_nil) pa_nil))))))))) (blkOk_by (own := [("_law_odd", 9)]) (N := nRight) (sc := defScope sRight) (by decide +kernel)) (fun _ _ _ _ _ => (pg_name (i := 9) nd rfl (Or.inl rfl))) (fun _ _ _ _ _ => pts_one (pt_cmpR (op_has hF hr3 hb pass0 ah nh) (pv 9) (pv 5) rfl)) (fun _ _ _ _ _ => (pv 9))) (pe_lst pa_nil) (nomark _)) (pss_one (ps_never)) pss_nil)
      (pss_cons (ps_set (i := 10) nd rfl (.inl rfl) (pe_revL (pv 3)))
      (pss_cons (ps_setLc (i := 11) (own := [("_law_pair", 12)]) (g := gName 12) (tt := tYes) (te := tTup (tCons (tOp (rIxT K) (tVar 12) (tC (.int 0))) (tCons (tCB (fun xs H Q => ∃ i j, xs = [V.int i, V.int j] ∧ Q (V.int (if j < i then j else i)) H) (tCons (tC (.int 9)) (tCons (tOp (rI CMul fun i j => .int (i * j)) (tOp (rIxT K) (tVar 12) (tC (.int 1))) (tC (.int 2))) tNil))) tNil))) rfl nd rfl rfl (sw_true rfl rfl rfl (by decide +kernel)) (pi_list (pv 1)) (blkOk_by (own := [("_law_pair", 12)]) (N := nRight) (sc := defScope sRight) (by decide +kernel)) (fun _ _ _ _ _ => (pg_name (i := 12) nd rfl (Or.inl rfl))) (fun _ _ _ _ _ => pts_nil) (fun _ _ _ _ _ => (pe_tup (pa_cons (bIxT (pv 12) pe_int) (pa_cons (pe_callB (call_min2 rfl) (by rfl) mMin (by decide +kernel) (pa_cons pe_int (pa_cons (pe_op op_mul (bIxT (pv 12) pe_int) pe_int) pa_nil))) pa_nil)))))
      (pss_cons (ps_set (i := 13) nd rfl (.inl rfl) (pe_and (pe_cmpR (op_eqOwn qF hr3 qb pass0 aq nq) (pe_cmeth (pe_glob (v := .ref C) (by rfl) gB rfl) rdB oB oBF hr6 passesF (pa_cons (pe_cmeth (pe_glob (v := .ref CW) (by rfl) gW rfl) rdW oW oWF hr6 passesF (pa_cons (pv 1) pa_nil)) (pa_cons (bTup (by rfl) T.tuple (pv 3)) pa_nil))) (pv 5) (nomark _)) (pe_one (pe_not (pe_cmpR (op_eqOwn qF hr3 qb pass0 aq nq) (pv 5) (pv 3) (nomark _))))))
      (pss_cons (ps_if (PW.pt (pw_and (pt_cmpR (op_neD hr.units) (pv 11) (pv 1) (nomark _)) (pw_and1 (pt_cmp (pc_isN (pe_call G2 hr2 (by rfl) m2 k2 b2 .nil pass0 (pa_cons (pv 11) (pa_cons (pv 2) pa_nil)))))))) (pss_one (ps_set (i := 13) nd rfl (.inl rfl) (pe_and (pv 13) (pe_one (pe_not (pe_cmpR (op_eqOwn qF hr3 qb pass0 aq nq) (pe_cmeth (pe_glob (v := .ref C) (by rfl) gB rfl) rdB oB oBF hr6 passesF (pa_cons (pe_cmeth (pe_glob (v := .ref CW) (by rfl) gW rfl) rdW oW oWF hr6 passesF (pa_cons (pv 11) pa_nil)) (pa_cons (pv 3) pa_nil))) (pv 5) (nomark _))))))) pss_nil)
      (pss_cons (ps_if (pt_cmpR op_ne (pe_cmpR (op_eqOwn qF hr3 qb pass0 aq nq) (pe_cmeth (pe_glob (v := .ref C) (by rfl) gB rfl) rdB oB oBF hr6 passesF (pa_cons (pe_cmeth (pe_glob (v := .ref CW) (by rfl) gW rfl) rdW oW oWF hr6 passesF (pa_cons (pe_revL (pv 1)) pa_nil)) (pa_cons (pv 3) pa_nil))) (pv 5) (nomark _)) (pe_cmpR op_eq (bLen (by rfl) T.len (pv 1)) pe_int (nomark _)) (nomark _)) (pss_one (ps_never)) pss_nil)
      (pss_cons (ps_set (i := 14) nd rfl (.inl rfl) (pe_cmpR (op_eqOwn qF hr3 qb pass0 aq nq) (pe_cmeth (pe_glob (v := .ref C) (by rfl) gB rfl) rdB oB oBF hr6 passesF (pa_cons (pe_cmeth (pe_glob (v := .ref CW) (by rfl) gW rfl) rdW oW oWF hr6 passesF (pa_cons (pv 1) pa_nil)) (pa_cons (pv 10) pa_nil))) (pv 5) (nomark _)))
      (pss_one (ps_ret (pe_and (pv 13) (pe_one (pe_cmpR op_eq (pv 14) (pe_cmpR (op_eqD hr.units) (pv 2) (pe_revL (pv 2)) (nomark _)) (nomark _))))))))))))))))))))))), ?_⟩
    have abcs := po.abc
    have okds : ∀ it ∈ ds.map Itm.rule, OkIt it := fun it h => by
      obtain ⟨d, hd, rfl⟩ := List.mem_map.mp h
      exact (good d hd).ok abcs
    have fb0 : firstBad es 0 [] (ds.map some) = none := firstBad_none ds es 0 [] (fun d hd => (good d hd).inCs) ndd fun _ _ h => nomatch h
    have fh0 : firstHeavy es 0 ds = none := firstHeavy_none ds es 0 fun d hd => (good d hd).2.2.2.2.2
    obtain ⟨ps, hL, pd, l1, l4, nde⟩ := po
    obtain ⟨xs, hF, at_⟩ := its
    have xl := at_.1
    rw [List.length_map] at xl
    -- made
    refine ⟨_, rfl, F, rfl, ⟨_, SqL.of hF⟩, fun Mm hM => ?_⟩
    have Mp := pen.ne1 hM
    refine lcGen walk_list (fun i H' acc => Same H H' ∧ RulesAt CR H' acc (ds.take i)) (by rw [sizeLine_eq]; omega) ⟨Same.new hM, RulesAt.nil CR _⟩ (fun i H' acc _ q => SqL.of (q.1 _ _ hF)) (fun _ _ _ _ y => y.1) ?_ ?_
    · rintro i x H' acc Q' hi hMl hla ⟨s1, ra⟩ ⟨_, hx⟩ q
      have hi' : i < ds.length := by omega
      obtain ⟨d, hd⟩ : ∃ d, ds[i]? = some d := ⟨_, List.getElem?_eq_getElem hi'⟩
      have hit : (ds.map Itm.rule)[i]? = some (.rule d) := by rw [List.getElem?_map, hd]; rfl
      obtain ⟨v, hv, av⟩ := (at_.mono fun _ _ q => q.same s1).2 i _ hit
      obtain rfl : x = v := Option.some.inj (hx.symm.trans hv)
      refine ⟨_, rfl, x, .rule d, rfl, av, okds _ (List.mem_of_getElem? hit), fun H4 u s4 m => ?_⟩
      obtain ⟨a, rfl, rd⟩ := m
      have hM4 := s4 _ _ hMl
      refine q _ H4 hM4 ⟨Same.putNew hM (Same.trans s1 s4), ?_⟩
      rw [List.take_add_one, hd]
      exact ((ra.same s4).put hM4).snoc (rd.put hM4)
    rintro H1 ms hM1 hml ⟨s1, rM⟩
    rw [List.take_of_length_le (by omega)] at rM
    -- the book
    refine ⟨rfl, rfl, _, rfl, ?_⟩
    dsimp only [tNil]
    refine of_good (.inl (s1 _ _ hL)) (pd.mono fun _ _ _ q => q.same s1) l1 l4 nde fun q H2 s2 w2 => ?_
    refine ⟨_, rfl, ?_⟩
    dsimp only [tNil]
    refine bof_good (.inl (s2 _ _ hM1)) (rM.same s2) w2 l4 d8 fb0 fh0 fun H3 b s3 bk => ?_
    have s123 := Same.trans s1 (Same.trans s2 s3)
    have rt : RtS C CW CR H H3 c p n L F Mm b es ds := ⟨(Ink.start pen).same s123, ⟨ps, s123 _ _ hL, pd.mono fun _ _ _ q => q.same s123, l1, l4, nde⟩, ⟨xs, s123 _ _ hF, at_.mono fun _ _ q => q.same s123⟩, ⟨ms, s3 _ _ (s2 _ _ hM1), (rM.same s2).same s3⟩, bk⟩
    clear s123 s1 s2 s3 w2 bk rM hM1 hml hM hL hF pd at_ xl
    obtain ⟨tkm, most⟩ := M.most
    -- len
    obtain ⟨ps, hL, pd, l1', l4', nde'⟩ := rt.po
    obtain ⟨xs, hF, at_⟩ := rt.its
    obtain ⟨ms, hM, rM⟩ := rt.md
    have bk := rt.bk
    obtain ⟨dx, q, r, ws, ys, hb, hw, hy, ra⟩ := rt.bk
    have xl := at_.1
    rw [List.length_map] at xl
    refine ⟨_, rfl, b, dx, _, rfl, hb, b, es, ds, rfl, bk, _, rfl, by omega, by omega, _, rfl, _, xs.length, rfl, .inl ⟨_, SqL.of hF, rfl⟩, rfl, _, rfl, ?_⟩
    rw [ne_int (by rw [xl])]
    refine iteF ⟨_, rfl, b, C, dx, _, _, rfl, hb, M.cl, M.n2, bf_rules _ _, _, ys.length, rfl, .inr ⟨_, SqT.of hy, rfl⟩, _, rfl, _, xs.length, rfl, .inl ⟨_, SqL.of hF, rfl⟩, rfl, _, rfl, ?_⟩
    rw [ne_int (by rw [ra.1, xl])]
    refine iteF ?_
    -- each rule
    refine ⟨_, rfl, _, xs.length, rfl, .inl ⟨_, SqL.of hF, rfl⟩, xs.length, rfl, by omega, by omega, fun D hD => ?_⟩
    refine lcSel walk_range (fun i H' acc => Same H3 H' ∧ acc = []) (by rw [sizeLine_eq]; omega) ⟨Same.new hD, rfl⟩ (fun _ _ _ _ _ => trivial) (fun _ _ _ _ y => y.1) ?_ ?_
    · rintro i x H' acc Q' Qf hi hDl hla ⟨s1, rfl⟩ ⟨_, ex⟩ hq hf
      obtain rfl : x = V.int (i : Int) := ex.trans (by show V.int (0 + (i : Int)) = _; rw [Int.zero_add])
      have hi' : i < ds.length := by have : i < xs.length := hi; omega
      obtain ⟨d, hd⟩ : ∃ d, ds[i]? = some d := ⟨_, List.getElem?_eq_getElem hi'⟩
      obtain ⟨a1, e1, r1⟩ := ra.2 i d hd
      obtain ⟨a2, e2, r2⟩ := rM.2 i d hd
      refine ⟨_, rfl, b, C, dx, _, _, rfl, s1 _ _ hb, M.cl, M.n2, bf_rules _ _, _, rfl, r, ys, (i : Int), .ref a1, rfl, rfl, SqT.of (s1 _ _ hy), at_int e1, _, rfl, _, rfl, Mm, ms, (i : Int), .ref a2, rfl, rfl, SqL.of (s1 _ _ hM), at_int e2, eq_rules IR (r1.same s1) (r2.same s1) ⟨_, rfl, ?_⟩⟩
      rw [decide_eq_true rfl]
      exact iteF (hf _ hDl ⟨s1, rfl⟩)
    rintro G acc hD3 hla ⟨s4, rfl⟩
    clear hL pd hF at_ hM rM bk hb hw hy ra xl
    refine ⟨Nat.zero_le _, fun Z hZ => ?_⟩
    have sZ : Same G (upd G Z (.lst [])) := Same.new hZ
    have eZ : upd G Z (.lst []) Z = some (.lst []) := upd_same
    generalize upd G Z (.lst []) = GZ at sZ eZ ⊢
    refine ⟨.list [], .list [], .lst (SqL.of (sZ _ _ hD3)) .nil, .lst (SqL.of eZ) .nil, rfl, rfl, _, rfl, iteF ?_⟩
    replace rt := (rt.same s4).same sZ
    clear sZ eZ hZ s4 hD3 hla hD
    -- rules, weights, MOST
    obtain ⟨ps, hL, pd, l1', l4', nde'⟩ := rt.po
    obtain ⟨xs, hF, at_⟩ := rt.its
    obtain ⟨ms, hM, rM⟩ := rt.md
    have bk := rt.bk
    obtain ⟨dx, q, r, ws, ys, hb, hw, hy, ra⟩ := rt.bk
    have xl := at_.1
    rw [List.length_map] at xl
    refine ⟨_, rfl, b, C, dx, _, _, rfl, hb, M.cl, M.n2, bf_rules _ _, .ref r, .ty "tuple", _, _, true, rfl, .ty "tuple", .base (.tup hy), kit_ty (by decide +kernel), true, rfl, iteF ?_⟩
    refine ⟨_, rfl, b, C, dx, _, _, rfl, hb, M.cl, M.n1, bf_weights _ _, rfl, _, rfl, ?_⟩
    dsimp only [tNil]
    refine of_good (.inl hL) pd l1 l4 nde fun q2 G2 s2 w2 => eq_weights IW (hw.same s2) w2 ⟨_, rfl, ?_⟩
    rw [decide_eq_true rfl]
    refine iteF ⟨C, .type "type", _, _, rfl, M.rd, most, rfl, _, rfl, iteF ?_⟩
    replace rt := rt.same s2
    clear w2 s2
    clear hL pd hF at_ hM rM bk hb hw hy ra xl
    -- longest
    obtain ⟨ps, hL, pd, l1', l4', nde'⟩ := rt.po
    obtain ⟨xs, hF, at_⟩ := rt.its
    obtain ⟨ms, hM, rM⟩ := rt.md
    have bk := rt.bk
    obtain ⟨dx, q, r, ws, ys, hb, hw, hy, ra⟩ := rt.bk
    have xl := at_.1
    rw [List.length_map] at xl
    refine ⟨_, rfl, F, rfl, ⟨_, SqL.of hF⟩, ?_⟩
    refine for_it walk_list (fun i σ' H' => H' = G2 ∧ ∃ y4, σ' = [some (.ref p), some (.ref L), some (.ref F), some (.ref Mm), y4, some (.ref b), none, some (.int (longR (ds.take i))), none, none, none, none, none, none, none]) ⟨rfl, _, rfl⟩ (fun i σ' H' _ y => by rw [y.1]; exact SqL.of hF) ?_ ?_
    · rintro i x σ' H' H'' hi ⟨rfl, y4, rfl⟩ ⟨rfl, hx⟩
      have hi' : i < ds.length := by omega
      obtain ⟨d, hd⟩ : ∃ d, ds[i]? = some d := ⟨_, List.getElem?_eq_getElem hi'⟩
      obtain ⟨v, hv, t0, rfl, ht0⟩ := at_.2 i (.rule d) (by rw [List.getElem?_map, hd]; rfl)
      obtain rfl : x = .ref t0 := Option.some.inj (hx.symm.trans hv)
      obtain ⟨_, _, _, d4, _⟩ := good d (List.mem_of_getElem? hd)
      refine ⟨_, rfl, _, rfl, t0, _, 0, _, rfl, rfl, SqT.of ht0, rfl, .str d.1, d.1.length, rfl, ⟨len_small (by omega), rfl⟩, _, _, rfl, ?_⟩
      refine ⟨rfl, some (.ref t0), ?_⟩
      rw [List.take_add_one, hd]
      show _ = [_, _, _, _, _, _, _, some (V.int (longR (ds.take i ++ [d]))), _, _, _, _, _, _, _]
      rw [longR_snoc]
      rfl
    rintro σ' G4 ⟨rfl, y4, rfl⟩
    rw [List.take_of_length_le (by omega)]
    refine ⟨_, rfl, b, dx, _, rfl, hb, b, es, ds, rfl, bk, by omega, fun G5 s5 => ⟨_, rfl, rfl, _, rfl, ?_⟩⟩
    rw [ne_int rfl]
    refine iteF ?_
    replace rt := rt.same s5
    clear s5
    clear hL pd hF at_ hM rM bk hb hw hy ra xl
    -- others
    refine ⟨4, rfl, by decide, by decide, fun O hO => ?_⟩
    have Op := rt.ink.2.ne1 hO
    refine lcGen walk_range (fun i H' acc => Ink c p (n + 30 * i) G5 H' ∧ ∃ os : List RD, ItsAt H' acc (os.map .rule) ∧ (∀ d ∈ os, GoodR es d) ∧ os.length = i) (by rw [sizeLine_eq]; decide) ⟨(Ink.start rt.ink.2).new hO, [], ItsAt.nil _, (fun _ h => nomatch h), rfl⟩ (fun _ _ _ _ _ => trivial) (fun _ _ _ _ y => y.1) ?_ ?_
    · rintro i x H' acc Q' hi hOl hla ⟨ink, os, its, gos, ol⟩ y q
      have hi4 : i < 4 := hi
      refine ⟨_, rfl, _, rfl, c, p, L, n + 30 * i, es, rfl, by omega, ink.2, Lp, rt.po.ext rt.ink.2 Lp ink.1, pos, fun d G6 t gd rt6 i6 => ?_⟩
      have hO6 := i6.1 _ _ Op hOl
      refine q _ G6 hO6 ⟨(Ink.putNew (Ink.trans ink i6) rt.ink.2 hO).mono (by omega), os ++ [d], ?_, fun e he => ?_, by rw [List.length_append, ol]; rfl⟩
      · rw [List.map_append]
        exact ((its.mono fun _ _ q => q.ext ink.2 i6.1).mono fun _ _ q => q.put hO6).snoc (ItAt.put (it := .rule d) ⟨t, rfl, rt6⟩ hO6)
      · rcases List.mem_append.mp he with he | he
        · exact gos e he
        · rw [List.mem_singleton.mp he]; exact gd
    rintro G6 oxs hO6 hol ⟨ink6, os, oat, gos, ol⟩
    replace rt := rt.step Lp Fp Mp ink6
    clear ink6 hO hol
    have ol4 : os.length = 4 := ol
    have oxl : oxs.length = 4 := by rw [oat.1, List.length_map]; exact ol4
    -- in
    obtain ⟨ps, hL, pd, l1', l4', nde'⟩ := rt.po
    obtain ⟨xs, hF, at_⟩ := rt.its
    obtain ⟨ms, hM, rM⟩ := rt.md
    have bk := rt.bk
    obtain ⟨dx, q, r, ws, ys, hb, hw, hy, ra⟩ := rt.bk
    have xl := at_.1
    rw [List.length_map] at xl
    refine ⟨_, rfl, _, rfl, F, O, xs, oxs, rfl, rfl, hF, hO6, by rw [sizeLine_eq]; omega, fun Z hZ => ⟨Z, rfl, ⟨_, SqL.of upd_same⟩, ?_⟩⟩
    have sZ : Same G6 (upd G6 Z (.lst (xs ++ oxs))) := Same.new hZ
    have eZ : upd G6 Z (.lst (xs ++ oxs)) Z = some (.lst (xs ++ oxs)) := upd_same
    generalize upd G6 Z (.lst (xs ++ oxs)) = GZ at sZ eZ ⊢
    refine for_it (walk_list (xs := xs ++ oxs)) (fun i σ' H' => Same GZ H' ∧ ∃ y4, σ' = [some (.ref p), some (.ref L), some (.ref F), some (.ref Mm), y4, some (.ref b), none, some (.int (longR ds)), some (.ref O), none, none, none, none, none, none]) ⟨Same.refl GZ, _, rfl⟩ (fun i σ' H' _ y => SqL.of (y.1 _ _ eZ)) ?_ ?_
    · rintro i x σ' H' H'' hi ⟨s1, y4, rfl⟩ ⟨rfl, hx⟩
      have sG := Same.trans sZ s1
      have all := (at_.append oat).mono fun _ _ q => q.same sG
      have hi' : i < (ds ++ os).length := by rw [List.length_append] at hi ⊢; omega
      obtain ⟨d, hd⟩ : ∃ d, (ds ++ os)[i]? = some d := ⟨_, List.getElem?_eq_getElem hi'⟩
      obtain ⟨v, hv, av⟩ := all.2 i (.rule d) (by rw [← List.map_append, List.getElem?_map, hd]; rfl)
      obtain rfl : x = v := Option.some.inj (hx.symm.trans hv)
      have okd : OkR d := by
        rcases List.mem_append.mp (List.mem_of_getElem? hd) with h | h
        · exact (good d h).ok abcs
        · exact (gos d h).ok abcs
      refine ⟨_, rfl, x, .rule d, rfl, av, okd, fun H4 u s4 ⟨a, eu, rd⟩ => ?_⟩
      subst eu
      have sG4 := Same.trans sG s4
      refine ⟨_, rfl, b, dx, _, rfl, sG4 _ _ hb, b, es, ds, .ref a, rfl, bk.same sG4, .inl ⟨a, d, rfl, rd, _, rfl, ?_⟩⟩
      refine ⟨_, rfl, _, rfl, itD (.rule d), (ds.map Itm.rule).map itD, (av.same s4).dp, .lst (SqL.of (sG4 _ _ hF)) (dp_its (at_.mono fun _ _ q => q.same sG4)), shaped_it (it := .rule d) okd, shaped_its okds, rfl, _, rfl, ?_⟩
      rw [any_it, mem_rules]
      generalize decide (d ∈ ds) = bb
      cases bb with
      | false => exact iteF ⟨Same.trans s1 s4, _, rfl⟩
      | true => exact iteF ⟨Same.trans s1 s4, _, rfl⟩
    rintro σ' G7 ⟨s7, y4, rfl⟩
    have s67 := Same.trans sZ s7
    replace rt := rt.same s67
    replace oat := oat.mono fun _ _ q => q.same s67
    replace hO6 := s67 _ _ hO6
    clear s67 s7 sZ eZ hZ
    clear hL pd hF at_ hM rM bk hb hw hy ra xl
    -- [ ]
    obtain ⟨ps, hL, pd, l1', l4', nde'⟩ := rt.po
    obtain ⟨xs, hF, at_⟩ := rt.its
    obtain ⟨ms, hM, rM⟩ := rt.md
    have bk := rt.bk
    obtain ⟨dx, q, r, ws, ys, hb, hw, hy, ra⟩ := rt.bk
    have xl := at_.1
    rw [List.length_map] at xl
    refine ⟨_, rfl, _, xs.length, rfl, .inl ⟨_, SqL.of hF, rfl⟩, xs.length, rfl, by omega, by omega, ?_⟩
    refine for_it walk_range (fun i σ' H' => H' = G7 ∧ ∃ y6, σ' = [some (.ref p), some (.ref L), some (.ref F), some (.ref Mm), y4, some (.ref b), y6, some (.int (longR ds)), some (.ref O), none, none, none, none, none, none]) ⟨rfl, _, rfl⟩ (fun _ _ _ _ _ => trivial) ?_ ?_
    · rintro i x σ' H' H'' hi ⟨rfl, y6, rfl⟩ ⟨rfl, ex⟩
      obtain rfl : x = V.int (i : Int) := ex.trans (by show V.int (0 + (i : Int)) = _; rw [Int.zero_add])
      have hi' : i < ds.length := by have : i < xs.length := hi; omega
      obtain ⟨d, hd⟩ : ∃ d, ds[i]? = some d := ⟨_, List.getElem?_eq_getElem hi'⟩
      obtain ⟨a2, e2, r2⟩ := rM.2 i d hd
      refine ⟨_, rfl, _, rfl, b, dx, _, rfl, hb, b, es, ds, i, d, rfl, bk, hd, fun a rd => ?_⟩
      refine ⟨_, rfl, _, rfl, Mm, ms, (i : Int), .ref a2, rfl, rfl, SqL.of hM, at_int e2, eq_rules IR rd r2 ⟨_, rfl, ?_⟩⟩
      rw [decide_eq_true rfl]
      exact iteF ⟨rfl, _, rfl⟩
    rintro σ' G8 ⟨rfl, y6, rfl⟩
    -- odd ones
    obtain ⟨o0, ho0⟩ : ∃ d, os[0]? = some d := ⟨_, List.getElem?_eq_getElem (by omega)⟩
    obtain ⟨v0, hv0, t0, rfl, ht0⟩ := oat.2 0 (.rule o0) (by rw [List.getElem?_map, ho0]; rfl)
    have ok0 : OkR o0 := (gos o0 (List.mem_of_getElem? ho0)).ok abcs
    have ix0 : atI oxs 0 = some (.ref t0) := at_int (i := 0) hv0
    refine ⟨_, rfl, O, oxs, 0, .ref t0, rfl, rfl, SqL.of hO6, ix0, ?_⟩
    dsimp only [tNil]
    refine rRepr_of ht0.rp (tameR ok0) (by decide) (by decide) ?_
    refine ⟨_, rfl, O, oxs, 0, .ref t0, rfl, rfl, SqL.of hO6, ix0, fun t1 h1 => ?_⟩
    have s1 : Same G8 (upd G8 t1 (.dK [])) := Same.new h1
    have e1 : upd G8 t1 (.dK []) t1 = some (.dK []) := upd_same
    generalize upd G8 t1 (.dK []) = Ga at s1 e1 ⊢
    refine ⟨Nat.zero_le _, fun t2 h2 => ?_⟩
    have s2 : Same Ga (upd Ga t2 (.lst [])) := Same.new h2
    have e2 : upd Ga t2 (.lst []) t2 = some (.lst []) := upd_same
    generalize upd Ga t2 (.lst []) = Gb at s2 e2 ⊢
    generalize hsh : PyData.shown (itD (.rule o0)) = sh
    refine ⟨by show 7 ≤ sizeLine; decide, fun Z hZ => ⟨Z, rfl, ⟨_, SqL.of upd_same⟩, fun D hD => ?_⟩⟩
    have s3 : Same Gb (upd Gb Z (.lst [.non, .str "", .int 0, .str sh, .ref t0, .ref t1, .ref t2])) := Same.new hZ
    have e3 : upd Gb Z (.lst [.non, .str "", .int 0, .str sh, .ref t0, .ref t1, .ref t2]) Z = some (.lst [.non, .str "", .int 0, .str sh, .ref t0, .ref t1, .ref t2]) := upd_same
    generalize upd Gb Z (.lst [.non, .str "", .int 0, .str sh, .ref t0, .ref t1, .ref t2]) = Gc at s3 e3 hD ⊢
    have s123 := Same.trans s1 (Same.trans s2 s3)
    have odd : ∀ v ∈ ([.non, .str "", .int 0, .str sh, .ref t0, .ref t1, .ref t2] : List V), OddB K CR Gc v := by
      intro v hv G' sG'
      simp only [List.mem_cons, List.not_mem_nil, or_false] at hv
      rcases hv with rfl | rfl | rfl | rfl | rfl | rfl | rfl
      · exact ⟨⟨_, .base .non, rNon⟩, fun a dx fs z => nomatch z⟩
      · exact ⟨⟨_, .base (.str _), rStr⟩, fun a dx fs z => nomatch z⟩
      · exact ⟨⟨_, .base (.int _), rInt⟩, fun a dx fs z => nomatch z⟩
      · exact ⟨⟨_, .base (.str _), rStr⟩, fun a dx fs z => nomatch z⟩
      · have h := sG' _ _ (s123 _ _ ht0)
        exact ⟨⟨_, .base (.tup h), rTup_⟩, fun a dx fs z q => by cases z; rw [h] at q; cases q⟩
      · have h := sG' _ _ (s3 _ _ (s2 _ _ e1))
        exact ⟨⟨_, .base (.dK h), rDct⟩, fun a dx fs z q => by cases z; rw [h] at q; cases q⟩
      · have h := sG' _ _ (s3 _ _ e2)
        exact ⟨⟨_, .base (.lst h), rLst⟩, fun a dx fs z q => by cases z; rw [h] at q; cases q⟩
    refine lcSel (walk_list (xs := [.non, .str "", .int 0, .str sh, .ref t0, .ref t1, .ref t2])) (fun i H' acc => Same Gc H' ∧ acc = []) (by show 7 < sizeLine; rw [sizeLine_eq]; decide) ⟨Same.new hD, rfl⟩ (fun i H' acc _ q => SqL.of (q.1 _ _ e3)) (fun _ _ _ _ y => y.1) ?_ ?_
    · rintro i x H' acc Q' Qf hi hDl hla ⟨s5, rfl⟩ ⟨_, hx⟩ hq hf
      obtain ⟨ty, ne⟩ := odd x (List.mem_of_getElem? hx) H' s5
      have sH := Same.trans s123 s5
      exact ⟨_, rfl, _, rfl, b, dx, _, rfl, sH _ _ hb, b, es, ds, x, rfl, bk.same sH, .inr ⟨ty, ne, false, rfl, _, rfl, iteF (hf _ hDl ⟨s5, rfl⟩)⟩⟩
    rintro G acc hD3 hla ⟨s4, rfl⟩
    replace rt := rt.same s123
    clear odd s123 s1 s2 s3 e1 e2 e3 hZ h1 h2 hsh
    clear hL pd hF at_ hM rM bk hb hw hy ra xl
    refine ⟨Nat.zero_le _, fun Z hZ => ?_⟩
    have sZ : Same G (upd G Z (.lst [])) := Same.new hZ
    have eZ : upd G Z (.lst []) Z = some (.lst []) := upd_same
    generalize upd G Z (.lst []) = GY at sZ eZ ⊢
    refine ⟨.list [], .list [], .lst (SqL.of (sZ _ _ hD3)) .nil, .lst (SqL.of eZ) .nil, rfl, rfl, _, rfl, iteF ?_⟩
    replace rt := (rt.same s4).same sZ
    clear sZ eZ hZ s4 hD3 hla hD
    clear ht0 ix0 oat hO6
    -- turned, heavier
    obtain ⟨ps, hL, pd, l1', l4', nde'⟩ := rt.po
    obtain ⟨xs, hF, at_⟩ := rt.its
    obtain ⟨ms, hM, rM⟩ := rt.md
    have bk := rt.bk
    obtain ⟨dx, q, r, ws, ys, hb, hw, hy, ra⟩ := rt.bk
    have xl := at_.1
    rw [List.length_map] at xl
    refine ⟨_, rfl, Mm, ms, rfl, SqL.of hM, fun R hR => ?_⟩
    have sR : Same GY (upd GY R (.lst ms.reverse)) := Same.new hR
    have eR : upd GY R (.lst ms.reverse) R = some (.lst ms.reverse) := upd_same
    generalize upd GY R (.lst ms.reverse) = G10 at sR eR ⊢
    have rR := (rM.same sR).rev
    replace rt := rt.same sR
    clear sR hR
    clear hL pd hF at_ hM rM bk hb hw hy ra xl
    obtain ⟨ps, hL, pd, l1', l4', nde'⟩ := rt.po
    obtain ⟨xs, hF, at_⟩ := rt.its
    obtain ⟨ms, hM, rM⟩ := rt.md
    have bk := rt.bk
    obtain ⟨dx, q, r, ws, ys, hb, hw, hy, ra⟩ := rt.bk
    have xl := at_.1
    rw [List.length_map] at xl
    have pl := pd.1
    refine ⟨_, rfl, L, rfl, ⟨_, SqL.of hL⟩, fun Hv hHv => ?_⟩
    refine lcGen walk_list (fun i H' acc => Same G10 H' ∧ PairsD H' acc ((es.take i).map hvy)) (by rw [sizeLine_eq]; omega) ⟨Same.new hHv, rfl, fun i e h => nomatch h⟩ (fun i H' acc _ q => SqL.of (q.1 _ _ hL)) (fun _ _ _ _ y => y.1) ?_ ?_
    · rintro i x H' acc Q' hi hDl hla ⟨s1, pa⟩ ⟨_, hx⟩ qq
      have hi' : i < es.length := by omega
      obtain ⟨t, et, pt⟩ := pd.2 i _ (List.getElem?_eq_getElem hi')
      obtain rfl : x = .ref t := Option.some.inj (hx.symm.trans et)
      have tt := SqT.of (K := K) (pt.same s1).1
      have n0 := pt.2.2.1
      have n9 := pt.2.2.2
      refine ⟨_, rfl, t, _, 0, _, rfl, rfl, tt, rfl, _, rfl, t, _, 1, _, rfl, rfl, tt, rfl, _, _, rfl, rfl, .inl ⟨by omega, by omega⟩, _, _, rfl, by show 2 ≤ sizeLine; decide, fun t2 h2 => ?_⟩
      have s2 : Same H' (upd H' t2 (.tup [.str ⟨#[es[i].1]⟩, .int (if es[i].2 * 2 < 9 then es[i].2 * 2 else 9)])) := Same.new h2
      have p2 : PairAt (upd H' t2 (.tup [.str ⟨#[es[i].1]⟩, .int (if es[i].2 * 2 < 9 then es[i].2 * 2 else 9)])) t2 (hvy es[i]).1 (hvy es[i]).2 := ⟨upd_same, pt.2.1, by unfold hvy; dsimp only; split <;> omega, by unfold hvy; dsimp only; split <;> omega⟩
      generalize upd H' t2 (.tup [.str ⟨#[es[i].1]⟩, .int (if es[i].2 * 2 < 9 then es[i].2 * 2 else 9)]) = H4 at s2 p2 ⊢
      have hD4 := s2 _ _ hDl
      refine qq _ H4 hD4 ⟨Same.putNew hHv (Same.trans s1 s2), ?_⟩
      rw [List.take_add_one, List.getElem?_eq_getElem hi', List.map_append]
      exact ((pa.mono fun _ _ _ q => q.same s2).push p2).keep (KeepT.put hD4)
    rintro G11 hxs hHv2 hhl ⟨s11, pH⟩
    rw [List.take_of_length_le (by omega)] at pH
    have hl4 : (es.map hvy).length ≤ 4 := by rw [List.length_map]; exact l4
    have hl1 : 1 ≤ (es.map hvy).length := by rw [List.length_map]; exact l1
    have hnd : ((es.map hvy).map (·.1)).Nodup := by rw [hvy_letters]; exact nde
    replace rt := rt.same s11
    replace eR := s11 _ _ eR
    replace rR := rR.same s11
    clear s11 hHv hhl pl
    clear hL pd hF at_ hM rM bk hb hw hy ra xl
    obtain ⟨ps, hL, pd, l1', l4', nde'⟩ := rt.po
    obtain ⟨xs, hF, at_⟩ := rt.its
    obtain ⟨ms, hM, rM⟩ := rt.md
    have bk := rt.bk
    obtain ⟨dx, q, r, ws, ys, hb, hw, hy, ra⟩ := rt.bk
    have xl := at_.1
    rw [List.length_map] at xl
    -- the same book
    refine ⟨rfl, rfl, _, rfl, ?_⟩
    dsimp only [tNil]
    refine of_good (.inl hL) pd l1 l4 nde fun q2 Ga sa w2 => ?_
    refine ⟨_, rfl, Mm, ms, rfl, .inl ⟨SqL.of (sa _ _ hM), fun u hu => ?_⟩⟩
    dsimp only [tNil]
    have su : Same Ga (upd Ga u (.tup ms)) := Same.new hu
    have eu : upd Ga u (.tup ms) u = some (.tup ms) := upd_same
    generalize upd Ga u (.tup ms) = Gb at su eu ⊢
    refine bof_good (.inr eu) ((rM.same sa).same su) (w2.same su) l4 d8 fb0 fh0 fun G12 b2 sb bk2 => ?_
    have sab := Same.trans sa (Same.trans su sb)
    refine ⟨_, rfl, eq_books I bk2 (bk.same sab) ⟨_, rfl, ?_⟩⟩
    rw [decide_eq_true (show es = es from rfl), decide_eq_true (show ds = ds from rfl)]
    refine iteT ⟨_, rfl, _, rfl, b, dx, _, .type "list", rfl, sab _ _ hb, .base (.lst (sab _ _ hM)), nBL, b, es, ds, .ref Mm, rfl, bk.same sab, .inr ⟨⟨_, .base (.lst (sab _ _ hM)), kBL⟩, false, rfl, false, rfl, ?_⟩⟩
    replace rt := rt.same sab
    replace eR := sab _ _ eR
    replace rR := rR.same sab
    replace pH := pH.mono fun _ _ _ h => h.same sab
    replace hHv2 := sab _ _ hHv2
    clear sab sa su sb eu hu w2 bk2
    clear hL pd hF at_ hM rM bk hb hw hy ra xl
    obtain ⟨ps, hL, pd, l1', l4', nde'⟩ := rt.po
    obtain ⟨xs, hF, at_⟩ := rt.its
    obtain ⟨ms, hM, rM⟩ := rt.md
    have bk := rt.bk
    obtain ⟨dx, q, r, ws, ys, hb, hw, hy, ra⟩ := rt.bk
    have xl := at_.1
    rw [List.length_map] at xl
    -- a heavier one
    refine ⟨_, rfl, _, rfl, .list ((es.map hvy).map dPair), .list (es.map dPair), .lst (SqL.of hHv2) (dpAllPairs pH), .lst (SqL.of hL) (dpAllPairs pd), shapedL pH.abc, shapedL pd.abc, _, rfl, ?_⟩
    rw [eqvL]
    by_cases same : es.map hvy = es
    · rw [decide_eq_true same]
      refine iteF (iteF ?_)
      -- the other way round
      refine ⟨rfl, rfl, _, rfl, L, ps, rfl, SqL.of hL, fun R2 hR2 => ?_⟩
      dsimp only [tNil]
      have su2 : Same G12 (upd G12 R2 (.lst ps.reverse)) := Same.new hR2
      have eR2 : upd G12 R2 (.lst ps.reverse) R2 = some (.lst ps.reverse) := upd_same
      generalize upd G12 R2 (.lst ps.reverse) = Gr0 at su2 eR2 ⊢
      have ndr : (es.reverse.map (·.1)).Nodup := by rw [List.map_reverse]; exact List.pairwise_reverse.mpr (nde.imp fun h => h.symm)
      refine of_good (.inl eR2) (pd.rev.mono fun _ _ _ h => h.same su2) (by rw [List.length_reverse]; exact l1) (by rw [List.length_reverse]; exact l4) ndr fun q3 Gr1 s31 w3 => ?_
      refine ⟨_, rfl, ?_⟩
      dsimp only [tNil]
      have s30 := Same.trans su2 s31
      refine bof_good (.inl (s30 _ _ hM)) (rM.same s30) w3 (by rw [List.length_reverse]; exact l4) d8 (firstBad_none ds es.reverse 0 [] (fun d hd => (good d hd).rev.inCs) ndd fun _ _ h => nomatch h) (firstHeavy_none ds es.reverse 0 fun d hd => (good d hd).rev.2.2.2.2.2) fun Gr2 b3 s32 bk3 => ?_
      have s33 := Same.trans s30 s32
      refine ⟨_, rfl, eq_books I bk3 (bk.same s33) ⟨_, rfl, _, ps.length, rfl, .inl ⟨_, SqL.of (s33 _ _ hL), rfl⟩, rfl, rfl, _, rfl, ?_⟩⟩
      have pl := pd.1
      have eqB3 : (decide (es.reverse = es) && decide (ds = ds)) = decide (V.int ((ps.length : Nat) : Int) = V.int 1) := by
        rw [decide_eq_true (show ds = ds from rfl), Bool.and_true, rev_iff l1 nde, Bool.eq_iff_iff, decide_eq_true_iff, decide_eq_true_iff, V.int.injEq]
        omega
      rw [ne_bl eqB3]
      refine iteF ?_
      -- turned
      refine ⟨rfl, rfl, _, rfl, ?_⟩
      dsimp only [tNil]
      refine of_good (.inl (s33 _ _ hL)) (pd.mono fun _ _ _ h => h.same s33) l1 l4 nde fun q4 Gr3 s34 w4 => ?_
      refine ⟨_, rfl, ?_⟩
      dsimp only [tNil]
      have s35 := Same.trans s33 s34
      refine bof_good (.inl (s35 _ _ eR)) (rR.same s35) w4 l4 (by rw [List.length_reverse]; exact d8) (firstBad_none ds.reverse es 0 [] (fun d hd => (good d (List.mem_reverse.mp hd)).inCs) (List.pairwise_reverse.mpr (ndd.imp fun h => h.symm)) fun _ _ h => nomatch h) (firstHeavy_none ds.reverse es 0 fun d hd => (good d (List.mem_reverse.mp hd)).2.2.2.2.2) fun Gr4 b4 s36 bk4 => ?_
      have s37 := Same.trans s35 s36
      refine ⟨_, rfl, eq_books I bk4 (bk.same s37) ?_⟩
      refine ⟨_, rfl, true, rfl, iteT ⟨_, rfl, _, rfl, _, rfl, F, xs, rfl, SqL.of (s37 _ _ hF), fun R3 hR3 => ?_⟩⟩
      have su3 : Same Gr4 (upd Gr4 R3 (.lst xs.reverse)) := Same.new hR3
      have eR3 : upd Gr4 R3 (.lst xs.reverse) R3 = some (.lst xs.reverse) := upd_same
      generalize upd Gr4 R3 (.lst xs.reverse) = Gr5 at su3 eR3 ⊢
      have s38 := Same.trans s37 su3
      have atE := at_.mono fun _ _ q => q.same s38
      refine ⟨.list ((ds.map Itm.rule).map itD), .list ((ds.map Itm.rule).reverse.map itD), .lst (SqL.of (s38 _ _ hF)) (dp_its atE), .lst (SqL.of eR3) (dp_its atE.rev), shaped_its okds, shaped_its (fun it h => okds it (List.mem_reverse.mp h)), ?_⟩
      rw [eqv_its, ← rule_rev, decide_eq_true (show es = es from rfl), Bool.true_and]
      refine ⟨rfl, ?_⟩
      rw [eqSame]
      exact k _ ((rt.ink.same s38).mono (by omega))
    rw [decide_eq_false same]
    refine iteT ⟨_, rfl, _, rfl, Hv, F, es.map hvy, ds.map Itm.rule, rfl, ⟨hxs, hHv2, pH, hl1, hl4, hnd⟩, ⟨xs, hF, at_⟩, okds, by rw [List.length_map]; omega, fun G13 s13 => ?_⟩
    replace rt := rt.same s13
    replace eR := s13 _ _ eR
    replace rR := rR.same s13
    replace pH := pH.mono fun _ _ _ h => h.same s13
    replace hHv2 := s13 _ _ hHv2
    clear s13
    clear hL pd hF at_ hM rM bk hb hw hy ra xl
    obtain ⟨ps, hL, pd, l1', l4', nde'⟩ := rt.po
    obtain ⟨xs, hF, at_⟩ := rt.its
    obtain ⟨ms, hM, rM⟩ := rt.md
    have bk := rt.bk
    obtain ⟨dx, q, r, ws, ys, hb, hw, hy, ra⟩ := rt.bk
    have xl := at_.1
    rw [List.length_map] at xl
    cases hdue : dueOf (es.map hvy) (ds.map Itm.rule) with
    | some w =>
      refine fun t ht => ⟨false, rfl, iteF ?_⟩
      -- the other way round
      refine ⟨rfl, rfl, _, rfl, L, ps, rfl, SqL.of hL, fun R2 hR2 => ?_⟩
      dsimp only [tNil]
      have su2 : Same G13 (upd G13 R2 (.lst ps.reverse)) := Same.new hR2
      have eR2 : upd G13 R2 (.lst ps.reverse) R2 = some (.lst ps.reverse) := upd_same
      generalize upd G13 R2 (.lst ps.reverse) = Gr0 at su2 eR2 ⊢
      have ndr : (es.reverse.map (·.1)).Nodup := by rw [List.map_reverse]; exact List.pairwise_reverse.mpr (nde.imp fun h => h.symm)
      refine of_good (.inl eR2) (pd.rev.mono fun _ _ _ h => h.same su2) (by rw [List.length_reverse]; exact l1) (by rw [List.length_reverse]; exact l4) ndr fun q3 Gr1 s31 w3 => ?_
      refine ⟨_, rfl, ?_⟩
      dsimp only [tNil]
      have s30 := Same.trans su2 s31
      refine bof_good (.inl (s30 _ _ hM)) (rM.same s30) w3 (by rw [List.length_reverse]; exact l4) d8 (firstBad_none ds es.reverse 0 [] (fun d hd => (good d hd).rev.inCs) ndd fun _ _ h => nomatch h) (firstHeavy_none ds es.reverse 0 fun d hd => (good d hd).rev.2.2.2.2.2) fun Gr2 b3 s32 bk3 => ?_
      have s33 := Same.trans s30 s32
      refine ⟨_, rfl, eq_books I bk3 (bk.same s33) ⟨_, rfl, _, ps.length, rfl, .inl ⟨_, SqL.of (s33 _ _ hL), rfl⟩, rfl, rfl, _, rfl, ?_⟩⟩
      have pl := pd.1
      have eqB3 : (decide (es.reverse = es) && decide (ds = ds)) = decide (V.int ((ps.length : Nat) : Int) = V.int 1) := by
        rw [decide_eq_true (show ds = ds from rfl), Bool.and_true, rev_iff l1 nde, Bool.eq_iff_iff, decide_eq_true_iff, decide_eq_true_iff, V.int.injEq]
        omega
      rw [ne_bl eqB3]
      refine iteF ?_
      -- turned
      refine ⟨rfl, rfl, _, rfl, ?_⟩
      dsimp only [tNil]
      refine of_good (.inl (s33 _ _ hL)) (pd.mono fun _ _ _ h => h.same s33) l1 l4 nde fun q4 Gr3 s34 w4 => ?_
      refine ⟨_, rfl, ?_⟩
      dsimp only [tNil]
      have s35 := Same.trans s33 s34
      refine bof_good (.inl (s35 _ _ eR)) (rR.same s35) w4 l4 (by rw [List.length_reverse]; exact d8) (firstBad_none ds.reverse es 0 [] (fun d hd => (good d (List.mem_reverse.mp hd)).inCs) (List.pairwise_reverse.mpr (ndd.imp fun h => h.symm)) fun _ _ h => nomatch h) (firstHeavy_none ds.reverse es 0 fun d hd => (good d (List.mem_reverse.mp hd)).2.2.2.2.2) fun Gr4 b4 s36 bk4 => ?_
      have s37 := Same.trans s35 s36
      refine ⟨_, rfl, eq_books I bk4 (bk.same s37) ?_⟩
      refine ⟨_, rfl, true, rfl, iteT ⟨_, rfl, _, rfl, _, rfl, F, xs, rfl, SqL.of (s37 _ _ hF), fun R3 hR3 => ?_⟩⟩
      have su3 : Same Gr4 (upd Gr4 R3 (.lst xs.reverse)) := Same.new hR3
      have eR3 : upd Gr4 R3 (.lst xs.reverse) R3 = some (.lst xs.reverse) := upd_same
      generalize upd Gr4 R3 (.lst xs.reverse) = Gr5 at su3 eR3 ⊢
      have s38 := Same.trans s37 su3
      have atE := at_.mono fun _ _ q => q.same s38
      refine ⟨.list ((ds.map Itm.rule).map itD), .list ((ds.map Itm.rule).reverse.map itD), .lst (SqL.of (s38 _ _ hF)) (dp_its atE), .lst (SqL.of eR3) (dp_its atE.rev), shaped_its okds, shaped_its (fun it h => okds it (List.mem_reverse.mp h)), ?_⟩
      rw [eqv_its, ← rule_rev, decide_eq_true (show es = es from rfl), Bool.true_and]
      refine ⟨rfl, ?_⟩
      rw [eqSame]
      exact k _ ((rt.ink.same s38).mono (by omega))
    | none =>
      refine ⟨true, rfl, iteT ?_⟩
      have fbH : firstBad (es.map hvy) 0 [] (ds.map some) = none := firstBad_none ds (es.map hvy) 0 [] (fun d hd => by
        have := (good d hd).inCs
        unfold inCs at this ⊢
        rw [hvy_letters]
        exact this) ndd fun _ _ h => nomatch h
      have fhH : firstHeavy (es.map hvy) 0 ds = none := by
        unfold dueOf at hdue
        rw [if_neg (by rw [List.length_map]; omega), show (ds.map Itm.rule).map optR = ds.map some from by rw [List.map_map]; rfl, fbH] at hdue
        dsimp only at hdue
        rw [filterMap_rules] at hdue
        cases z : firstHeavy (es.map hvy) 0 ds with
        | none => rfl
        | some i => rw [z] at hdue; cases hdue
      refine ⟨_, rfl, true, rfl, iteT ?_⟩
      refine ⟨rfl, rfl, _, rfl, ?_⟩
      dsimp only [tNil]
      refine of_good (.inl hHv2) pH hl1 hl4 hnd fun q5 Ga sa w5 => ?_
      refine ⟨_, rfl, ?_⟩
      dsimp only [tNil]
      refine bof_good (.inl (sa _ _ hM)) (rM.same sa) w5 hl4 d8 fbH fhH fun G14 b5 sb bk5 => ?_
      have sab := Same.trans sa sb
      refine ⟨_, rfl, eq_books I bk5 (bk.same sab) ⟨_, rfl, ?_⟩⟩
      rw [decide_eq_false same]
      replace rt := rt.same sab
      replace eR := sab _ _ eR
      replace rR := rR.same sab
      clear sab sa sb w5 bk5
      clear hL pd hF at_ hM rM bk hb hw hy ra xl
      obtain ⟨ps, hL, pd, l1', l4', nde'⟩ := rt.po
      obtain ⟨xs, hF, at_⟩ := rt.its
      obtain ⟨ms, hM, rM⟩ := rt.md
      have bk := rt.bk
      obtain ⟨dx, q, r, ws, ys, hb, hw, hy, ra⟩ := rt.bk
      have xl := at_.1
      rw [List.length_map] at xl
      -- the other way round
      refine ⟨rfl, rfl, _, rfl, L, ps, rfl, SqL.of hL, fun R2 hR2 => ?_⟩
      dsimp only [tNil]
      have su2 : Same G14 (upd G14 R2 (.lst ps.reverse)) := Same.new hR2
      have eR2 : upd G14 R2 (.lst ps.reverse) R2 = some (.lst ps.reverse) := upd_same
      generalize upd G14 R2 (.lst ps.reverse) = Gr0 at su2 eR2 ⊢
      have ndr : (es.reverse.map (·.1)).Nodup := by rw [List.map_reverse]; exact List.pairwise_reverse.mpr (nde.imp fun h => h.symm)
      refine of_good (.inl eR2) (pd.rev.mono fun _ _ _ h => h.same su2) (by rw [List.length_reverse]; exact l1) (by rw [List.length_reverse]; exact l4) ndr fun q3 Gr1 s31 w3 => ?_
      refine ⟨_, rfl, ?_⟩
      dsimp only [tNil]
      have s30 := Same.trans su2 s31
      refine bof_good (.inl (s30 _ _ hM)) (rM.same s30) w3 (by rw [List.length_reverse]; exact l4) d8 (firstBad_none ds es.reverse 0 [] (fun d hd => (good d hd).rev.inCs) ndd fun _ _ h => nomatch h) (firstHeavy_none ds es.reverse 0 fun d hd => (good d hd).rev.2.2.2.2.2) fun Gr2 b3 s32 bk3 => ?_
      have s33 := Same.trans s30 s32
      refine ⟨_, rfl, eq_books I bk3 (bk.same s33) ⟨_, rfl, _, ps.length, rfl, .inl ⟨_, SqL.of (s33 _ _ hL), rfl⟩, rfl, rfl, _, rfl, ?_⟩⟩
      have pl := pd.1
      have eqB3 : (decide (es.reverse = es) && decide (ds = ds)) = decide (V.int ((ps.length : Nat) : Int) = V.int 1) := by
        rw [decide_eq_true (show ds = ds from rfl), Bool.and_true, rev_iff l1 nde, Bool.eq_iff_iff, decide_eq_true_iff, decide_eq_true_iff, V.int.injEq]
        omega
      rw [ne_bl eqB3]
      refine iteF ?_
      -- turned
      refine ⟨rfl, rfl, _, rfl, ?_⟩
      dsimp only [tNil]
      refine of_good (.inl (s33 _ _ hL)) (pd.mono fun _ _ _ h => h.same s33) l1 l4 nde fun q4 Gr3 s34 w4 => ?_
      refine ⟨_, rfl, ?_⟩
      dsimp only [tNil]
      have s35 := Same.trans s33 s34
      refine bof_good (.inl (s35 _ _ eR)) (rR.same s35) w4 l4 (by rw [List.length_reverse]; exact d8) (firstBad_none ds.reverse es 0 [] (fun d hd => (good d (List.mem_reverse.mp hd)).inCs) (List.pairwise_reverse.mpr (ndd.imp fun h => h.symm)) fun _ _ h => nomatch h) (firstHeavy_none ds.reverse es 0 fun d hd => (good d (List.mem_reverse.mp hd)).2.2.2.2.2) fun Gr4 b4 s36 bk4 => ?_
      have s37 := Same.trans s35 s36
      refine ⟨_, rfl, eq_books I bk4 (bk.same s37) ?_⟩
      refine ⟨_, rfl, true, rfl, iteT ⟨_, rfl, _, rfl, _, rfl, F, xs, rfl, SqL.of (s37 _ _ hF), fun R3 hR3 => ?_⟩⟩
      have su3 : Same Gr4 (upd Gr4 R3 (.lst xs.reverse)) := Same.new hR3
      have eR3 : upd Gr4 R3 (.lst xs.reverse) R3 = some (.lst xs.reverse) := upd_same
      generalize upd Gr4 R3 (.lst xs.reverse) = Gr5 at su3 eR3 ⊢
      have s38 := Same.trans s37 su3
      have atE := at_.mono fun _ _ q => q.same s38
      refine ⟨.list ((ds.map Itm.rule).map itD), .list ((ds.map Itm.rule).reverse.map itD), .lst (SqL.of (s38 _ _ hF)) (dp_its atE), .lst (SqL.of eR3) (dp_its atE.rev), shaped_its okds, shaped_its (fun it h => okds it (List.mem_reverse.mp h)), ?_⟩
      rw [eqv_its, ← rule_rev, decide_eq_true (show es = es from rfl), Bool.true_and]
      refine ⟨rfl, ?_⟩
      rw [eqSame]
      exact k _ ((rt.ink.same s38).mono (by omega))

end
end Kx
set_option Elab.async false
set_option maxRecDepth 100000
set_option autoImplicit false
set_option pp.maxSteps 400
set_option pp.deepTerms false
/-! what the law asks of what is heard -/
namespace Kx
open PySem L2 PySem.Spec PyProof.Rows Rg Er Ru Tn LamX ClX
/-- what stands in a list that was made of items -/
def MdAt (CR : Addr) (H : Hp) (u : V) : Itm → Prop
  | .rule d => ∃ a, u = .ref a ∧ RlD CR H a d
  | .non => ItAt H u .non
  | .text => ItAt H u .text
  | .empty => ItAt H u .empty
  | .seven => ItAt H u .seven
def MdsAt (CR : Addr) (H : Hp) (xs : List V) (is : List Itm) : Prop := xs.length = is.length ∧ ∀ (i : Nat) (it : Itm), is[i]? = some it → ∃ v, xs[i]? = some v ∧ MdAt CR H v it
/-- what holds of tuples and instances is kept -/
structure Kp (H H' : Hp) : Prop where
  t : ∀ b ys, H b = some (.tup ys) → H' b = some (.tup ys)
  i : ∀ b c dx fs, H b = some (.ins c dx fs) → H' b = some (.ins c dx fs)
theorem Kp.same {H H' : Hp} (s : Same H H') : Kp H H' := ⟨fun _ _ h => s _ _ h, fun _ _ _ _ h => s _ _ h⟩
theorem Kp.put {H : Hp} {l : Addr} {xs ys : List V} (hl : H l = some (.lst xs)) : Kp H (upd H l (.lst ys)) := by
  refine ⟨fun b zs h => ?_, fun b c dx fs h => ?_⟩
  · rw [upd_ne]
    · exact h
    · rintro rfl; rw [h] at hl; cases hl
  · rw [upd_ne]
    · exact h
    · rintro rfl; rw [h] at hl; cases hl
theorem Kp.gr {T : List (Addr × Str)} {c p : Addr} {n m : Nat} {H H' : Hp} (pen : PenAt c n H p) (g : Gr T c p m H H') : Kp H H' := ⟨fun _ _ h => g.at_ h (pen.neO h fun _ z => nomatch z), fun _ _ _ _ h => g.at_ h (pen.neO h fun _ z => nomatch z)⟩
theorem ItAt.kp {H H' : Hp} {v : V} {it : Itm} (h : ItAt H v it) (e : Kp H H') : ItAt H' v it := by
  cases it with
  | non => exact h
  | text => exact h
  | seven => exact h
  | empty => obtain ⟨t, rfl, h⟩ := h; exact ⟨t, rfl, e.t _ _ h⟩
  | rule d => obtain ⟨t, rfl, h⟩ := h; exact ⟨t, rfl, e.t _ _ h⟩
theorem RlD.kp {C a : Addr} {H H' : Hp} {d : RD} (h : RlD C H a d) (e : Kp H H') : RlD C H' a d := by
  obtain ⟨⟨dx, h1⟩, h2⟩ := h
  exact ⟨⟨dx, e.i _ _ _ _ h1⟩, h2⟩
theorem MdAt.kp {C : Addr} {H H' : Hp} {v : V} {it : Itm} (h : MdAt C H v it) (e : Kp H H') : MdAt C H' v it := by
  cases it with
  | non => exact ItAt.kp (it := .non) h e
  | text => exact ItAt.kp (it := .text) h e
  | seven => exact ItAt.kp (it := .seven) h e
  | empty => exact ItAt.kp (it := .empty) h e
  | rule d => obtain ⟨t, rfl, h⟩ := h; exact ⟨t, rfl, h.kp e⟩
theorem MdsAt.kp {C : Addr} {H H' : Hp} {xs : List V} {is : List Itm} (h : MdsAt C H xs is) (e : Kp H H') : MdsAt C H' xs is := ⟨h.1, fun i it q => let ⟨v, a, b⟩ := h.2 i it q; ⟨v, a, b.kp e⟩⟩
theorem MdsAt.snoc {C : Addr} {H : Hp} {xs : List V} {is : List Itm} {v : V} {it : Itm} (h : MdsAt C H xs is) (q : MdAt C H v it) : MdsAt C H (xs ++ [v]) (is ++ [it]) := by
  refine ⟨by simp [h.1], fun i e he => ?_⟩
  have hl := h.1
  by_cases lt : i < is.length
  · rw [List.getElem?_append_left lt] at he
    rw [List.getElem?_append_left (by omega)]
    exact h.2 i e he
  · rw [List.getElem?_append_right (by omega)] at he
    obtain ⟨i0, ei⟩ := List.getElem?_eq_some_iff.mp he
    have i0' : i - is.length = 0 := by simp at i0; omega
    rw [List.getElem?_append_right (by omega), show i - xs.length = 0 by omega]
    rw [i0'] at he
    cases he
    exact ⟨v, rfl, q⟩
theorem ItsOf.gr {T : List (Addr × Str)} {c p F : Addr} {n m : Nat} {H H' : Hp} {is : List Itm} (h : ItsOf H F is) (pen : PenAt c n H p) (Fp : F ≠ p) (g : Gr T c p m H H') : ItsOf H' F is := by
  obtain ⟨xs, h1, h2⟩ := h
  exact ⟨xs, g.at_ h1 Fp, h2.mono fun _ _ q => q.kp (Kp.gr pen g)⟩
theorem PairsOf.gr {T : List (Addr × Str)} {c p L : Addr} {n m : Nat} {H H' : Hp} {es : List (Nat × Int)} (h : PairsOf H L es) (pen : PenAt c n H p) (Lp : L ≠ p) (g : Gr T c p m H H') : PairsOf H' L es := by
  obtain ⟨xs, h1, h2, h3⟩ := h
  exact ⟨xs, g.at_ h1 Lp, h2.gr g pen, h3⟩
/-- what isinstance asks of the kinds of odd items -/
structure OddK (K : PySem.W.Frag) (CR : Addr) : Prop where
  n : PySem.W.kitOne K (.type "NoneType") (.ref CR) = some false
  s : PySem.W.kitOne K (.type "str") (.ref CR) = some false
  i : PySem.W.kitOne K (.type "int") (.ref CR) = some false
  t : PySem.W.kitOne K (.type "tuple") (.ref CR) = some false
theorem MdsAt.ents {K : PySem.W.Frag} {C : Addr} {H : Hp} {xs : List V} {is : List Itm} (O : OddK K C) (h : MdsAt C H xs is) : EntsR K C H xs (is.map optR) := by
  refine ⟨by rw [h.1, List.length_map], fun i o q => ?_⟩
  rw [List.getElem?_map] at q
  obtain ⟨it, hit, rfl⟩ := Option.map_eq_some_iff.mp q
  obtain ⟨v, hv, m⟩ := h.2 i it hit
  refine ⟨v, hv, ?_⟩
  cases it with
  | rule d => obtain ⟨a, rfl, r⟩ := m; exact .inl ⟨a, d, rfl, r, rfl⟩
  | non => exact .inr ⟨rfl, fun H' s => by cases m; exact ⟨_, .base .non, O.n⟩⟩
  | text => exact .inr ⟨rfl, fun H' s => by cases m; exact ⟨_, .base (.str _), O.s⟩⟩
  | seven => exact .inr ⟨rfl, fun H' s => by cases m; exact ⟨_, .base (.int _), O.i⟩⟩
  | empty => exact .inr ⟨rfl, fun H' s => by obtain ⟨t, rfl, ht⟩ := m; exact ⟨_, .base (.tup (s _ _ ht)), O.t⟩⟩
theorem told_of {CB CH : Addr} {v : V} {Q : VK} {G : Hp} (k : ∀ q H', Same G H' → H' q = some (.lst [.str "book", v]) → Q (.ref q) H') : raised CB "at" v (hears CB CH Q) G := fun d hd =>
  ⟨d, v, "book", rfl, upd_same, .inl ⟨rfl, rfl⟩, fun q H'' same hq => k q H'' (fun b o e => same b o (by rw [upd_ne (ne_of_none e hd)]; exact e)) hq⟩
theorem told_heavier {CB CH : Addr} {v : V} {Q : VK} {G : Hp} (k : ∀ q H', Same G H' → H' q = some (.lst [.str "heavier", v]) → Q (.ref q) H') : raisedF CH "at" v (hears CB CH Q) G := fun d H' hd hd' s =>
  ⟨d, v, "heavier", rfl, hd', .inr ⟨rfl, rfl⟩, fun q H'' same hq => k q H'' (Same.trans s same) hq⟩
/-- a book that is asked of a list: a book is heard, or what is due is told -/
theorem due_heard {K : PySem.W.Frag} {C CW CR CB CH q : Addr} {H : Hp} {ws xs : List V} {es : List (Nat × Int)} {is : List Itm} {Q Q' : VK} (hk : ∀ v H', Q v H' → Q' v H') (w : Wts CW H q es ws) (l4 : es.length ≤ 4) (ents : EntsR K CR H xs (is.map optR))
    (k : ∀ H' v, Same H H' → HeardAs K C CW CR H' v es (is.filterMap optR) (dueOf es is) → Q v H') : bookDue K C CW CR CB CH (.ref q) xs H Q' (hears CB CH Q) := by
  have xl : xs.length = is.length := by rw [ents.1, List.length_map]
  refine .inr ⟨q, ws, es, is.map optR, rfl, w, l4, ents, fun many H' s => ?_, fun few => ?_⟩
  · refine told_of fun t H'' s2 ht => k H'' _ (Same.trans s s2) ?_
    rw [dueOf, if_pos (by omega)]
    exact ⟨t, rfl, ht⟩
  · have nm : ¬ 8 < is.length := by omega
    cases e : firstBad es 0 [] (is.map optR) with
    | some i =>
      refine fun H' s => told_of fun t H'' s2 ht => k H'' _ (Same.trans s s2) ?_
      rw [dueOf, if_neg nm, e]
      exact ⟨t, rfl, ht⟩
    | none =>
      dsimp only
      intro rs er
      have ef : is.filterMap optR = rs := by
        have : (is.map optR).filterMap id = (rs.map some).filterMap id := by rw [er]
        rw [List.filterMap_map, List.filterMap_map] at this
        simpa using this
      cases e2 : firstHeavy es 0 rs with
      | some i =>
        refine fun H' s => told_heavier fun t H'' s2 ht => k H'' _ (Same.trans s s2) ?_
        rw [dueOf, if_neg nm, e]
        dsimp only
        rw [ef, e2]
        exact ⟨t, rfl, ht⟩
      | none =>
        refine fun H' b s bk => hk _ _ (k H' _ s ?_)
        rw [dueOf, if_neg nm, e]
        dsimp only
        rw [ef, e2]
        exact ⟨b, rfl, bk⟩
/-- a book that is asked of what are no weights -/
theorem bad_heard {K : PySem.W.Frag} {C CW CR CB CH : Addr} {H : Hp} {wv : V} {xs : List V} {Q Q' : VK} (bad : ∀ H', Same H H' → ∃ t, TyX K H' wv t ∧ PySem.W.kitOne K t (.ref CW) = some false)
    (k : ∀ q H', Same H H' → H' q = some (.lst [.str "book", .non]) → Q (.ref q) H') : bookDue K C CW CR CB CH wv xs H Q' (hears CB CH Q) :=
  .inl fun H' s => ⟨bad H' s, told_of fun q H'' s2 hq => k q H'' (Same.trans s s2) hq⟩
theorem firstBad_lt (es : List (Nat × Int)) : ∀ (os : List (Option RD)) (i : Nat) (seen : List RD) (j : Nat), firstBad es i seen os = some j → j < i + os.length
  | [], _, _, _, h => by cases h
  | none :: r, i, _, j, h => by
    have : i = j := Option.some.inj h
    simp; omega
  | some d :: r, i, seen, j, h => by
    have h' : (if inCs es d = false ∨ d ∈ seen then some i else firstBad es (i + 1) (seen ++ [d]) r) = some j := h
    split at h'
    · have : i = j := Option.some.inj h'
      simp; omega
    · have := firstBad_lt es r (i + 1) (seen ++ [d]) j h'
      simp; omega
theorem firstHeavy_lt (es : List (Nat × Int)) : ∀ (rs : List RD) (i j : Nat), firstHeavy es i rs = some j → j < i + rs.length
  | [], _, _, h => by cases h
  | d :: r, i, j, h => by
    have h' : (if wtR es d.1 ≤ wtR es d.2.1 then some i else firstHeavy es (i + 1) r) = some j := h
    split at h'
    · have : i = j := Option.some.inj h'
      simp; omega
    · have := firstHeavy_lt es r (i + 1) j h'
      simp; omega
theorem dueOf_ok {es : List (Nat × Int)} {is : List Itm} {w : Str × Option Nat} (h : dueOf es is = some w) : (w.1 = "book" ∨ w.1 = "heavier") ∧ ∀ i, w.2 = some i → i < is.length := by
  unfold dueOf at h
  split at h
  · cases h; exact ⟨.inl rfl, fun i z => nomatch z⟩
  · split at h
    · rename_i i e
      cases h
      have := firstBad_lt es _ _ _ _ e
      rw [List.length_map] at this
      exact ⟨.inl rfl, fun j z => by cases z; omega⟩
    · split at h
      · rename_i i e
        cases h
        have := firstHeavy_lt es _ _ _ e
        have l := List.length_filterMap_le optR is
        exact ⟨.inr rfl, fun j z => by cases z; omega⟩
      · cases h
theorem tameW {z : Str} (h : z.length ≤ 7) (o : ∀ c ∈ z.cps.toList, c ∈ abc.cps.toList) : Tame (.str z) 0 7 := by
  refine ⟨by simp only [PyData.showable], by simp only [PyData.hasDict], by simp only [PyData.depth]; exact Nat.zero_le _, ?_, by simp only [PyData.weight]; exact h⟩
  simp only [PyData.leavesShort, List.all_eq_true, decide_eq_true_eq]
  intro c hc
  have := abc_lt (o c hc)
  omega
def plD : Option Nat → PyData
  | none => .none
  | some i => .int (i : Int)
def wdD (w : Str × Option Nat) : PyData := .list [.str w.1, plD w.2]
theorem Tame.none {h w : Nat} : Tame .none h w := ⟨by simp only [PyData.showable], by simp only [PyData.hasDict], by simp only [PyData.depth]; exact Nat.zero_le _, by simp only [PyData.leavesShort], by simp only [PyData.weight]; exact Nat.zero_le _⟩
theorem tame_due {es : List (Nat × Int)} {is : List Itm} {w : Str × Option Nat} (h : dueOf es is = some w) (il : is.length ≤ 100) : Tame (wdD w) 1 100 := by
  obtain ⟨h1, h2⟩ := dueOf_ok h
  have a : Tame (.str w.1) 0 7 := by
    rcases h1 with e | e
    · rw [e]; exact tameW (by decide) (by decide +kernel)
    · rw [e]; exact tameW (by decide) (by decide +kernel)
  have b : Tame (plD w.2) 0 50 := by
    cases e : w.2 with
    | none => exact Tame.none
    | some i => exact Tame.int (by omega) (by have := h2 i e; omega) (by decide)
  exact .list (.cons a (.cons (w2 := 0) b .nil (Nat.le_refl 51)) (by decide))
theorem told_rp {K : PySem.W.Frag} {H : Hp} {t : Addr} {w : Str × Option Nat} (h : ToldAs H t w) : Rp K H (.ref t) (wdD w) := by
  refine .lst (SqL.of h) (.cons (.str _) (.cons ?_ .nil))
  cases w.2 with
  | none => exact .non
  | some i => exact .int _
end Kx
set_option Elab.async false
set_option maxRecDepth 100000
set_option autoImplicit false
/-! C.m(k = v, ..), m a classmethod, no value by place -/
namespace Ck
open PySem L2 PySem.Spec PyProof.Rows ClX
section
variable {X : Cx} {CX : CXT} {k : Nat} {C p g : Addr} {mc : Value} {sp : Sp} {E : XK} {fd : FuncData} {ps : List Str} {pins : List (Addr × Obj)} {σ : L2.St} {H : Hp} {s : Shared}
/-- C.m(k = v, ..) -/
def tCMethK (C : Addr) (n : Nat) (sp : Sp) (gV : List V → List V → List V) (E : XK) (ta : TE) (tk : TA) : TE := fun σ H Q => ta σ H fun x H1 => x = .ref C ∧ tk σ H1 fun zs H2 => zs.length = n ∧ sp (gV [.ref C] zs) H2 Q E
theorem run_cmK {q : Addr} {Q : VK} {ks : List Str} {gg : List Value → List Value → List Value} {gV : List V → List V → List V} {ws : List Value} {zs : List V} (F : FnOk X.prog X.w X.K X.mg X.base CX k g fd ps sp) (hr : Room k X.A) (kb : KBn X.K fd ps 1 ks gg gV) (hx : Passes CX X E)
    (I : Inv X ((q, PySem.W.methodObj (.ref g) (.ref C)) :: pins) σ H s) (r : Vals zs ws) (lz : zs.length = ks.length) (h : sp (gV [.ref C] zs) H Q E) : wpAny (model X.prog X.w) X.A (call (.ref q) [] (ks.zip ws)) (EP X pins σ Q) X.xe s := by
  have lw : ws.length = ks.length := r.length.symm.trans lz
  have rr : Vals (gV [V.ref C] zs) (gg [Value.ref C] ws) := kb.rel (.cons rfl .nil) r
  have z : wpAny (model X.prog X.w) X.A (call (.ref q) [] (ks.zip ws)) (EP X ((q, PySem.W.methodObj (.ref g) (.ref C)) :: pins) σ Q) X.xe s := by
    refine wpAny_call (PySem.W.method_call (pin_at I) (codeAny_mono (F.run X.A X.stack s H ⟨[.ref C], ks.zip ws⟩ (gg [.ref C] ws) (gV [.ref C] zs) Q E hr I.env0 (kb.to s [.ref C] ws I.kIn rfl lw) rr h) fun res s' got => ?_))
    rcases res with er | fl
    · exact hx _ σ H s er s' I got
    · cases fl <;> first | exact I.after got | exact False.elim got
  exact thn z fun _ _ y => unpinE y
theorem pe_cmethK {pl : Sem Bool} {o : Expr} {m : Str} {kws : List Keyword} {ks : List Str} {ta : TE} {tk : TA} {pos apos : Pos} {gg : List Value → List Value → List Value} {gV : List V → List V → List V}
    (he : PE X o ta) (r : CRead X.K C mc) (c : CMet X.K C mc m p g) (F : FnOk X.prog X.w X.K X.mg X.base CX k g fd ps sp) (hr : Room k X.A) (kb : KBn X.K fd ps 1 ks gg gV) (hx : Passes CX X E) (hk : PK X kws tk)
    (hall : (backToKw pos (keywordEach kws X.env)).all (·.1.isSome) = true := by rfl) (hks : (backToKw pos (keywordEach kws X.env)).filterMap (·.1) = ks := by rfl)
    (hpl : ((backTo pos (starEach [] X.env)).any (·.1) || (backToKw pos (keywordEach kws X.env)).any (·.1.isNone)) = false := by rfl)
    (ht : eval (.Call (.Attribute o m apos) [] kws pos) X.env = (do
      let ov ← eval o X.env
      standAt apos.atName
      let (f, first) ← holding [ov] (getMethod ov m pl)
      callWith pos f first (backTo pos (starEach [] X.env)) (backToKw pos (keywordEach kws X.env))) := by rfl) :
    PE X (.Call (.Attribute o m apos) [] kws pos) (tCMethK C ks.length sp gV E ta tk) := by
  refine ⟨fun pins s σ H Q I h => ?_⟩
  refine PySem.W.methodCall_KW (pl := pl) (thn (he.run pins s σ H _ I h) fun u s1 ⟨x, H1, I1, rx, ex, q⟩ => ?_) ht
  subst ex
  obtain rfl : u = Value.ref C := rx
  refine getmethcm_ok I1 r c fun s2 I2 => ?_
  have hq := pin_at I2
  refine PySem.W.callWith_of hpl (PySem.W.keeps_M (K := X.K) (self := .ref C) c.fi) (evalArgs_kw2_nil hall (thn (hk.run pos _ s2 σ H1 _ I2 q) fun ws s3 ⟨zs, H2, I3, rz, lz, want⟩ => ⟨⟨pin_at I3, I3.kIn⟩, ?_⟩))
  rw [hks]
  exact run_cmK F hr kb hx I3 rz lz want
end
end Ck
set_option Elab.async false
set_option maxRecDepth 100000
set_option autoImplicit false
set_option pp.maxSteps 400
set_option pp.deepTerms false
/-! the law -/
namespace Kx
open PySem L2 PySem.Spec PyProof.Rows Rg Er Ru Tn LamX ClX
abbrev sLaw : Stmt := top 48
abbrev nLaw : List Str := ["_law_script", "_law_pen_here", "_law_turn", "_law_pairs_here", "_law_listed", "_law_some", "_law_made_here", "_law_rule_here", "_law_held", "_law_due_here", "_law_heard_here", "_law_k"]
theorem scLaw : FnScope nLaw ["_law_script"] (defScope sLaw) := ⟨rfl, rfl, rfl, by decide +kernel, rfl, by decide +kernel, by decide +kernel⟩
def spLaw (K : PySem.W.Frag) (T : List (Addr × Str)) : Sp := fun vs H Q _ => ∃ (a : Addr) (ns : List Int), vs = [.ref a] ∧ SqL K H a (ns.map V.int) ∧ ns.length ≤ 63 ∧ Tabs T H ∧ ∀ H', Q (.bl true) H'
theorem bRepr1 {X : Cx} {e : Expr} {te : TE} {q pos : Pos} (hg : X.A.guards = some []) (hr : Room 0 X.A) (gl : Gl X "repr") (m : X.mg "repr" = none) (he : PE X e te) (na : starEach [e] X.env = (false, eval e X.env) :: starEach [] X.env := by rfl) :
    PE X (.Call (.Name "repr" q) [e] [] pos) (tCB (rRepr X.K) (tCons te tNil)) := pe_callB (cr_repr hg hr) gl m (by decide +kernel) (pa_cons he pa_nil na) (he := na)
theorem op_or {X : Cx} {f : Value → Value → Sem Value} {r1 r2 : R2} (h1 : OpR X f r1) (h2 : OpR X f r2) : OpR X f (fun x y H Q => r1 x y H Q ∨ r2 x y H Q) := fun pins s σ H x y v u Q I rx ry h => h.elim (fun q => h1 pins s σ H x y v u Q I rx ry q) fun q => h2 pins s σ H x y v u Q I rx ry q
def DueV (G : Hp) (dv : V) : Option (Str × Option Nat) → Prop
  | none => dv = .non
  | some w => ∃ t, dv = .ref t ∧ ToldAs G t w
def spDueV : Sp := fun vs H Q _ => ∃ (L F : Addr) (es : List (Nat × Int)) (is : List Itm), vs = [.ref L, .ref F] ∧ PairsOf H L es ∧ ItsOf H F is ∧ (∀ it ∈ is, OkIt it) ∧ is.length ≤ 100 ∧ ∀ H' dv, Same H H' → DueV H' dv (dueOf es is) → Q dv H'
theorem due_V (vs : List V) (H : Hp) (Q : VK) (E : XK) (h : spDueV vs H Q E) : spDue vs H Q E := by
  obtain ⟨L, F, es, is, rfl, h1, h2, h3, h4, k⟩ := h
  refine ⟨L, F, es, is, rfl, h1, h2, h3, h4, fun H' s => ?_⟩
  have := k H'
  cases e : dueOf es is with
  | none => rw [e] at this; exact this _ s rfl
  | some w => rw [e] at this; exact fun t ht => this _ s ⟨t, rfl, ht⟩
theorem md_of {C : Addr} {H H' : Hp} {v u : V} {it : Itm} (h : ItAt H v it) (s : Same H H') (m : MadeOf C H' v u it) : MdAt C H' u it := by
  cases it with
  | rule d => exact m
  | non => cases m; exact ItAt.same (it := .non) h s
  | text => cases m; exact ItAt.same (it := .text) h s
  | empty => cases m; exact ItAt.same (it := .empty) h s
  | seven => cases m; exact ItAt.same (it := .seven) h s
/-- the condition of what is heard -/
theorem t_cond {K : PySem.W.Frag} {C CW CR : Addr} {σ : L2.St} {G : Hp} {hv dv : V} {es : List (Nat × Int)} {is : List Itm} {Q : Bool → Hp → Prop} (I : InsT K C) (kB : PySem.W.kitOne K (.ref C) (.ref C) = some true) (kBL : PySem.W.kitOne K (.type "list") (.ref C) = some false) (h10 : σ[10]? = some (some hv)) (h9 : σ[9]? = some (some dv)) (il : is.length ≤ 100)
    (hd : DueV G dv (dueOf es is)) (hh : HeardAs K C CW CR G hv es (is.filterMap optR) (dueOf es is)) (q : Q false G) :
    tOr (tTest (tOp rNe (tCB (rIsi K) (tCons (tVar 10) (tCons (tC (.ref C)) tNil))) (tIsN (tVar 9)))) (tAnd (tB (tNotN (tVar 9))) (tTest (tOp rNe (tCB (rRepr K) (tCons (tVar 10) tNil)) (tCB (rRepr K) (tCons (tVar 9) tNil))))) σ G Q := by
  cases e : dueOf es is with
  | none =>
    rw [e] at hd hh
    obtain rfl : dv = .non := hd
    obtain ⟨b, rfl, dx, q_, r, xs, ys, hb, _⟩ := hh
    refine ⟨_, h10, ?_⟩
    dsimp only [tCons, tC, tNil]
    refine ⟨_, _, _, _, true, rfl, .own C, I.ty hb, kB, _, h9, rfl, _, rfl, iteF ?_⟩
    exact ⟨_, h9, _, rfl, iteF q⟩
  | some w =>
    rw [e] at hd hh
    obtain ⟨t, rfl, ht⟩ := hd
    obtain ⟨u, rfl, hu⟩ := hh
    have tm := tame_due e il
    refine ⟨_, h10, ?_⟩
    dsimp only [tCons, tC, tNil]
    refine ⟨_, _, _, _, false, rfl, .own C, .base (.lst hu), kBL, _, h9, rfl, _, rfl, iteF ?_⟩
    refine ⟨_, h9, _, rfl, iteT ⟨_, h10, ?_⟩⟩
    dsimp only [tCons, tC, tNil]
    refine rRepr_of (told_rp hu) tm (by decide) (by decide) ⟨_, h9, ?_⟩
    dsimp only [tCons, tC, tNil]
    refine rRepr_of (told_rp ht) tm (by decide) (by decide) ⟨rfl, _, rfl, ?_⟩
    rw [neSame]
    exact q
theorem eqv_told : PyData.eqv (.list [.str "book", .none]) (.list [.str "book", .none]) = true := by decide +kernel
theorem shaped_told : SeqAt.shaped (.list [.str "book", .none]) = true := by decide +kernel
theorem eqd_self {K : PySem.W.Frag} {H : Hp} {v : V} {it : Itm} {Q : VK} (ok : OkIt it) (h : ItAt H v it) (q : Q (.bl true) H) : rEqD K v v H Q := by
  refine ⟨itD it, itD it, h.dp, h.dp, shaped_it ok, shaped_it ok, ?_⟩
  rw [eqv_it, decide_eq_true rfl]
  exact q
/-- what the law needs of Book besides -/
structure BL (P : Program) (w : World) (K : PySem.W.Frag) (mg : Str → Option Value) (base : Heap) (C CW CR CB CH : Addr) : Prop where
  O : OddK K CR
  kWL : PySem.W.kitOne K (.type "list") (.ref CW) = some false
  kWN : PySem.W.kitOne K (.type "NoneType") (.ref CW) = some false
  hear : Hear2 K mg CB CH
  ofK : ∃ p g fd, CMet K C (.type "type") "of" p g ∧ FnOk P w K mg base (L2.CX P w) 6 g fd ["cls", "weights", "rules"] (spBOf K C CW CR CB CH) ∧ KBn K fd ["cls", "weights", "rules"] 1 ["weights", "rules"] (fun us ws => us ++ ws) (fun us ws => us ++ ws)
  init : ∃ g, Mk K C g ∧ FnR P w K mg base (L2.CX P w) 4 g (spStar 2 (spBInit K C CW CR CB CH))
section
variable {P : Program} {w : World} {K : PySem.W.Frag} {mg : Str → Option Value} {base : Heap}
set_option maxHeartbeats 0 in
theorem ok_law {C CW CR CB CH CS CQ f cd tab g fA fP fR fS fT : Addr} {T3 : List (Addr × Str)} {cdg oc dV kV doc pm ct oc' kV' doc' pm' ct' : Value} {an od an' od' : Option Addr} {osl osl' : Array (Option Value)} {dA dP dR dS dT : FuncData} (T : Txt mg) (B : BF P w K mg base C CW CR CB CH CS CQ) (Z : BL P w K mg base C CW CR CB CH) (Hh : Hd K mg g cdg oc dV kV doc pm ct an od osl)
    (lkL : K.lookup f = some ⟨oc', od', .func (PySem.W.fnOf "law" "law" (defArgs sLaw) (defBody sLaw) (defScope sLaw) .none kV' doc' pm' an' (.ref cd) ct'), osl'⟩) (hcL : PySem.W.codeIn K (.ref cd) "law" = true) (TB : TabB base mg cd tab)
    (hT : (tab, lamQ "law") ∈ T3) (hu : ∀ p ∈ T3, p.1 = tab → p.2 = lamQ "law")
    (GA : FnOk P w K mg base CX0 1 fA dA ["_law_script"] (spPen K)) (mA : mg "_law_pen" = some (.ref fA)) (kA : PySem.W.keepIn K (.ref fA) = true) (bA : L2.Binds K dA ["_law_script"] [])
    (GP : FnOk P w K mg base CX0 3 fP dP ["_law_pen_here"] spPairs) (mP : mg "_law_pairs" = some (.ref fP)) (kP : PySem.W.keepIn K (.ref fP) = true) (bP : L2.Binds K dP ["_law_pen_here"] [])
    (GR : FnOk P w K mg base CX0 5 fR dR ["_law_pen_here", "_law_pairs_here", "_law_cap"] spRules) (mR : mg "_law_rules" = some (.ref fR)) (kR : PySem.W.keepIn K (.ref fR) = true) (bR : L2.Binds K dR ["_law_pen_here", "_law_pairs_here", "_law_cap"] [])
    (GS : FnOk P w K mg base CX0 4 fS dS ["_law_pen_here", "_law_pairs_here", "_law_listed"] spSpoilt) (mS : mg "_law_spoilt" = some (.ref fS)) (kS : PySem.W.keepIn K (.ref fS) = true) (bS : L2.Binds K dS ["_law_pen_here", "_law_pairs_here", "_law_listed"] [])
    (GT : FnG P w K mg base CX0 8 fT dT ["_law_pen_here", "_law_pairs_here", "_law_listed"] spRight) (mT : mg "_law_right" = some (.ref fT)) (kT : PySem.W.keepIn K (.ref fT) = true) (bT : L2.Binds K dT ["_law_pen_here", "_law_pairs_here", "_law_listed"] []) :
    FnG P w K mg base CX0 11 f (PySem.W.fnOf "law" "law" (defArgs sLaw) (defBody sLaw) (defScope sLaw) .none kV' doc' pm' an' (.ref cd) ct') ["_law_script"] (spLaw K T3) := by
  obtain ⟨M, gB, I, kB, kBL, nBL, MW, gW, IW, MR, IR, rNon, rStr, rInt, rTup_, rDct, rLst, rdB, ⟨pB, gBo, oB, oBF⟩, rdW, ⟨pW, gWo, oW, oWF⟩, _, _, _, _, _, _, ⟨fr, fdr, ar, nr, rF, rb⟩, ⟨fM, dM, mM, kM, GM, bM⟩, ⟨fU, dU, mU, kU, GU, bU⟩, _⟩ := B
  obtain ⟨O, kWL, kWN, hear, ⟨pK, gK, fdK, oK, oKF, kb⟩, ⟨ig, iM, iF⟩⟩ := Z
  replace GU := GU.imp due_V
  refine fnG_of lkL hcL scLaw (fun vs H Q E h => ?_) (fun A outer s H vs Q E hg hr h => ?_)
  · obtain ⟨a, ns, rfl, _⟩ := h
    rfl
  · obtain ⟨a, ns, rfl, hs, hl, tabs, k⟩ := h
    have nd := scLaw.nd
    have hg' : (A.deeper (envOfC "law" (defScope sLaw) s.heap.objs.size f (.ref cd))).guards = some [] := hg
    have hr0 := hr.mono (show 0 ≤ 10 by decide)
    have hr1 := hr.mono (show 1 ≤ 10 by decide)
    have hr2 := hr.mono (show 2 ≤ 10 by decide)
    have hr3 := hr.mono (show 3 ≤ 10 by decide)
    have hr4 := hr.mono (show 4 ≤ 10 by decide)
    have hr5 := hr.mono (show 5 ≤ 10 by decide)
    have hr8 := hr.mono (show 8 ≤ 10 by decide)
    refine ⟨_, pss_cons (ps_set (i := 1) nd rfl (.inl rfl) (pe_call GA hr1 (by rfl) mA kA bA .nil pass0 (pa_cons (pv 0) pa_nil)))
      (pss_cons (ps_for PassesOwn.never rfl (pi_range1 (by rfl) T.range (pa_cons pe_int pa_nil)) (pg_name (i := 2) nd rfl (Or.inl rfl)) (pss_cons (ps_set (i := 3) nd rfl (.inr rfl) (pe_call GP hr3 (by rfl) mP kP bP .nil pass0 (pa_cons (pv 1) pa_nil)))
      (pss_cons (ps_set (i := 4) nd rfl (.inl rfl) (pe_call GR hr5 (by rfl) mR kR bR .nil pass0 (pa_cons (pv 1) (pa_cons (pv 3) (pa_cons pe_int pa_nil)))))
      (pss_cons (ps_if (pt_not (pt_val (pe_callG hg' GT hr8 (by rfl) mT kT bT pass0 (pa_cons (pv 1) (pa_cons (pv 3) (pa_cons (pv 4) pa_nil)))))) (pss_one (ps_never)) pss_nil)
      (pss_cons (ps_for PassesOwn.never rfl (pi_list (pe_lst (pa_cons (pv 4) (pa_cons (pe_call GS hr4 (by rfl) mS kS bS .nil pass0 (pa_cons (pv 1) (pa_cons (pv 3) (pa_cons (pv 4) pa_nil)))) (pa_cons (pe_call GS hr4 (by rfl) mS kS bS .nil pass0 (pa_cons (pv 1) (pa_cons (pv 3) (pa_cons (pe_slice sl_list (pv 4) po_none (po_some pe_int)) pa_nil)))) pa_nil))))) (pg_name (i := 5) nd rfl (Or.inl rfl)) (pss_cons (ps_set (i := 6) nd rfl (.inr rfl) (pe_lc (own := [("_law_rule_here", 7)]) (g := gName 7) (tt := tYes) rfl nd (pi_list (pv 5)) (blkOk_by (own := [("_law_rule_here", 7)]) (N := nLaw) (sc := defScope sLaw) (by decide +kernel)) (fun _ _ _ _ _ => (pg_name (i := 7) nd rfl (Or.inl rfl))) (fun _ _ _ _ _ => pts_nil) (fun _ _ _ _ _ => (pe_call GM hr5 (by rfl) mM kM bM .nil pass0 (pa_cons (pv 7) pa_nil)))))
      (pss_cons (ps_set (i := 8) nd rfl (.inr rfl) (bList (by rfl) T.list (pv 6)))
      (pss_cons (ps_set (i := 9) nd rfl (.inl rfl) (pe_call GU hr2 (by rfl) mU kU bU .nil pass0 (pa_cons (pv 3) (pa_cons (pv 5) pa_nil))))
      (pss_cons (ps_set (i := 10) nd rfl (.inl rfl) (pe_hear (T := T3) (t := fun E => Ck.tCMethK C 2 (spBOf K C CW CR CB CH) (fun us ws => us ++ ws) E (tC (.ref C)) (tCons (tCMeth CW (spWOfA K CW CS) (fun _ _ _ => False) (tC (.ref CW)) (tCons (tVar 3) tNil)) (tCons (tVar 6) tNil))) hr hear Hh.hm Hh.hk Hh.lk Hh.hcg Hh.hb TB hT hu (by rfl) (lamS_by (by decide +kernel)) rfl (fun _ _ _ _ _ => rfl) (fun A' outer' s' H' E f' c' hr' => Ck.pe_cmethK (ks := [("weights" : Str), "rules"]) (pe_glob (v := .ref C) (by rfl) gB rfl) rdB oK oKF (hr'.mono (show 6 ≤ 8 by decide)) kb (passes_call (takes_of (E := E) rfl rfl rfl rfl) fun _ _ _ _ h => h) (pk_cons (pe_cmeth (pe_glob (v := .ref CW) (by rfl) gW rfl) rdW oW oWF (hr'.mono (show 6 ≤ 8 by decide)) passesF (pa_cons (pv 3) pa_nil)) (pk_cons (pv 6) pk_nil)))))
      (pss_cons (ps_if (PW.pt (pw_or (pt_cmpR op_ne (bIsi (by rfl) T.isi (pv 10) (pe_glob (v := .ref C) (by rfl) gB rfl)) (pe_cmp (pc_isN (pv 9))) (nomark _)) (pw_or1 (PW.pt (pw_and (pt_cmp (pc_notN (pv 9))) (pw_and1 (pt_cmpR op_ne (bRepr1 hg' hr0 (by rfl) T.repr (pv 10)) (bRepr1 hg' hr0 (by rfl) T.repr (pv 9)) (nomark _)))))))) (pss_one (ps_never)) pss_nil)
      (pss_cons (ps_if (pt_cmpR op_ne (bLen (by rfl) T.len (pv 8)) (bLen (by rfl) T.len (pv 6)) (nomark _)) (pss_one (ps_never)) pss_nil)
      (pss_cons (ps_if (pt_cmpR (op_neD hr.units) (pe_lc (own := [("_law_k", 11)]) (g := gName 11) (tt := tNot (tTest (tOp (fun x y H Q => rEqD K x y H Q ∨ rEqOwn K CR (spREq K CR) E0 x y H Q) (tOp (rIxL K) (tVar 8) (tVar 11)) (tOp (rIxL K) (tVar 6) (tVar 11))))) (te := tVar 11) rfl nd (pi_range1 (by rfl) T.range (pa_cons (bLen (by rfl) T.len (pv 8)) pa_nil)) (blkOk_by (own := [("_law_k", 11)]) (N := nLaw) (sc := defScope sLaw) (by decide +kernel)) (fun _ _ _ _ _ => (pg_name (i := 11) nd rfl (Or.inl rfl))) (fun _ _ _ _ _ => pts_one (pt_not (pt_cmpR (op_or (op_eqD hr.units) (op_eqOwn rF hr1 rb pass0 ar nr)) (bIx (pv 8) (pv 11)) (bIx (pv 6) (pv 11)) (nomark _)))) (fun _ _ _ _ _ => (pv 11))) (pe_lst pa_nil) (nomark _)) (pss_one (ps_never)) pss_nil)
      (pss_one (ps_if (pt_cmpR (op_neD hr.units) (pe_hear (T := T3) (t := fun E => tCMeth C (spBOf K C CW CR CB CH) E (tC (.ref C)) (tCons (tVar 3) (tCons (tVar 6) tNil))) hr hear Hh.hm Hh.hk Hh.lk Hh.hcg Hh.hb TB hT hu (by rfl) (lamS_by (by decide +kernel)) rfl (fun _ _ _ _ _ => rfl) (fun A' outer' s' H' E f' c' hr' => pe_cmeth (pe_glob (v := .ref C) (by rfl) gB rfl) rdB oB oBF (hr'.mono (show 6 ≤ 8 by decide)) (passes_call (takes_of (E := E) rfl rfl rfl rfl) fun _ _ _ _ h => h) (pa_cons (pv 3) (pa_cons (pv 6) pa_nil)))) (pe_lst (pa_cons pe_str (pa_cons pe_non pa_nil))) (nomark _)) (pss_one (ps_never)) pss_nil))))))))))
      (pss_cons (ps_if (pt_not (pt_val (bIsi (by rfl) T.isi (pe_hear (T := T3) (t := fun E => tMakeV C (spStar 2 (spBInit K C CW CR CB CH)) E (tC (.ref C)) (tCons (tCMeth CW (spWOfA K CW CS) (fun _ _ _ => False) (tC (.ref CW)) (tCons (tVar 3) tNil)) tNil)) hr hear Hh.hm Hh.hk Hh.lk Hh.hcg Hh.hb TB hT hu (by rfl) (lamS_by (by decide +kernel)) rfl (fun _ _ _ _ _ => rfl) (fun A' outer' s' H' E f' c' hr' => pe_makeV iM iF (hr'.mono (show 4 + 1 ≤ 8 by decide)) (passes_call (takes_of (E := E) rfl rfl rfl rfl) fun _ _ _ _ h => h) (pe_glob (v := .ref C) (by rfl) gB rfl) (pa_cons (pe_cmeth (pe_glob (v := .ref CW) (by rfl) gW rfl) rdW oW oWF (hr'.mono (show 6 ≤ 8 by decide)) passesF (pa_cons (pv 3) pa_nil)) pa_nil))) (pe_glob (v := .ref C) (by rfl) gB rfl)))) (pss_one (ps_never)) pss_nil)
      (pss_one (ps_if (pt_cmpR (op_neD hr.units) (pe_hear (T := T3) (t := fun E => tMakeV C (spStar 2 (spBInit K C CW CR CB CH)) E (tC (.ref C)) (tCons (tC .non) tNil)) hr hear Hh.hm Hh.hk Hh.lk Hh.hcg Hh.hb TB hT hu (by rfl) (lamS_by (by decide +kernel)) rfl (fun _ _ _ _ _ => rfl) (fun A' outer' s' H' E f' c' hr' => pe_makeV iM iF (hr'.mono (show 4 + 1 ≤ 8 by decide)) (passes_call (takes_of (E := E) rfl rfl rfl rfl) fun _ _ _ _ h => h) (pe_glob (v := .ref C) (by rfl) gB rfl) (pa_cons pe_non pa_nil))) (pe_lst (pa_cons pe_str (pa_cons pe_non pa_nil))) (nomark _)) (pss_one (ps_never)) pss_nil))))))))
      (pss_one (ps_ret pe_bl))), ?_⟩
    refine ⟨_, rfl, a, ns, rfl, hs, hl, fun c p H1 s1 pen => ?_⟩
    have tabs1 := tabs.ext s1
    clear hs hl tabs s1
    refine ⟨4, rfl, by decide, by decide, ?_⟩
    refine for_it walk_range (fun i σ' G => ∃ y2 y3 y4 y5 y6 y7 y8 y9 y10 y11, σ' = [some (.ref a), some (.ref p), y2, y3, y4, y5, y6, y7, y8, y9, y10, y11] ∧ PenAt c (1000 * i) G p ∧ Tabs T3 G) ⟨_, _, _, _, _, _, _, _, _, _, rfl, pen, tabs1⟩ (fun _ _ _ _ _ => trivial) ?_ ?_
    rotate_left
    · rintro σ' G ⟨y2, y3, y4, y5, y6, y7, y8, y9, y10, y11, rfl, _, _⟩
      exact k G
    rintro i x σ' G' G hi ⟨y2, y3, y4, y5, y6, y7, y8, y9, y10, y11, rfl, penG, tabs⟩ ⟨rfl, ex⟩
    have hi' : i < 4 := hi
    clear pen tabs1
    have pen : PenAt c (1000 * i) G p := penG
    refine ⟨_, rfl, c, p, 1000 * i, rfl, by omega, pen, fun L G1 ps es Lp hL pd l1 l4 nde pos ink => ?_⟩
    have g1 := (Gr.start pen tabs).ink ink
    have po1 : PairsOf G1 L es := ⟨ps, hL, pd, l1, l4, nde⟩
    clear hL pd ink
    refine ⟨_, rfl, _, rfl, c, p, L, 1000 * i + 20, 8, es, rfl, by decide, by omega, g1.pen, Lp, po1, pos, fun F0 G2 ds F0p its0 good ndd d8 ink2 => ?_⟩
    have g12 := (Gr.start g1.pen g1.tabs).ink ink2
    have po2 := po1.gr g1.pen Lp g12
    clear po1 ink2
    refine ⟨_, rfl, _, rfl, _, rfl, c, p, L, F0, 1000 * i + 20 + 300, es, ds, rfl, by omega, g12.pen, Lp, F0p, po2, pos, its0, good, ndd, d8, fun G3 ink3 => ⟨true, rfl, iteF ?_⟩⟩
    have g23 := (Gr.start g12.pen g12.tabs).ink ink3
    have po3 := po2.gr g12.pen Lp g23
    have its3 := its0.gr g12.pen F0p g23
    clear po2 its0 ink3
    have abcs := po3.abc
    have okds : ∀ it ∈ ds.map Itm.rule, OkIt it := fun it h => by
      obtain ⟨d, hd, rfl⟩ := List.mem_map.mp h
      exact (good d hd).ok abcs
    have l4' : es.length ≤ 4 := l4
    -- the three lists
    refine ⟨_, rfl, _, rfl, _, rfl, _, rfl, c, p, L, F0, 1000 * i + 20 + 300 + 200, es, ds.map Itm.rule, rfl, by omega, g23.pen, Lp, F0p, po3, its3, okds, by rw [List.length_map]; exact d8, fun F1 G4 is1 F1p its1 ok1 len1 ink4 => ?_⟩
    have g34 := (Gr.start g23.pen g23.tabs).ink ink4
    have po4 := po3.gr g23.pen Lp g34
    have its4 := its3.gr g23.pen F0p g34
    clear po3 its3 ink4
    obtain ⟨xs0, hF0, at0⟩ := its4
    refine ⟨_, rfl, _, rfl, _, rfl, (2 : Int), rfl, F0, xs0, rfl, SqL.of hF0, fun S hS => ?_⟩
    rw [show (2 : Int) = ((2 : Nat) : Int) from rfl, cut_few]
    have Sp := g34.pen.ne1 hS
    have sS : Same G4 (upd G4 S (.lst (xs0.take 2))) := Same.new hS
    have eS : upd G4 S (.lst (xs0.take 2)) S = some (.lst (xs0.take 2)) := upd_same
    generalize upd G4 S (.lst (xs0.take 2)) = G5 at sS eS ⊢
    have g45 := (Gr.start g34.pen g34.tabs).same sS
    have po5 := po4.gr g34.pen Lp g45
    have itsS : ItsOf G5 S ((ds.map Itm.rule).take 2) := ⟨_, eS, (at0.mono fun _ _ q => q.same sS).take 2⟩
    have its5 : ItsOf G5 F0 (ds.map Itm.rule) := ⟨xs0, sS _ _ hF0, at0.mono fun _ _ q => q.same sS⟩
    have its15 := its1.gr g34.pen F1p g45
    clear po4 hF0 at0 sS eS hS its1
    refine ⟨c, p, L, S, 1000 * i + 20 + 300 + 200 + 60, es, (ds.map Itm.rule).take 2, rfl, by omega, g45.pen, Lp, Sp, po5, itsS, fun it h => okds it (List.mem_of_mem_take h), by rw [List.length_take]; omega, fun F2 G6 is2 F2p its2 ok2 len2 ink6 => ?_⟩
    have g56 := (Gr.start g45.pen g45.tabs).ink ink6
    have po6 := po5.gr g45.pen Lp g56
    have its06 := its5.gr g45.pen F0p g56
    have its16 := its15.gr g45.pen F1p g56
    clear po5 its5 its15 ink6 itsS
    refine ⟨by show 3 ≤ sizeLine; decide, fun l3 h3 => ⟨l3, rfl, ⟨_, SqL.of upd_same⟩, ?_⟩⟩
    have s3 : Same G6 (upd G6 l3 (.lst [.ref F0, .ref F1, .ref F2])) := Same.new h3
    have e3 : upd G6 l3 (.lst [.ref F0, .ref F1, .ref F2]) l3 = some (.lst [.ref F0, .ref F1, .ref F2]) := upd_same
    have l3p := g56.pen.ne1 h3
    generalize upd G6 l3 (.lst [.ref F0, .ref F1, .ref F2]) = Gs at s3 e3 ⊢
    have gs := (Gr.start g56.pen g56.tabs).same s3
    have pos_ := po6.gr g56.pen Lp gs
    have some3 : ∀ v ∈ ([.ref F0, .ref F1, .ref F2] : List V), ∃ (F : Addr) (is : List Itm), v = .ref F ∧ F ≠ p ∧ ItsOf Gs F is ∧ (∀ it ∈ is, OkIt it) ∧ is.length ≤ 10 := by
      intro v hv
      simp only [List.mem_cons, List.not_mem_nil, or_false] at hv
      rcases hv with rfl | rfl | rfl
      · exact ⟨F0, _, rfl, F0p, its06.same s3, okds, by rw [List.length_map]; omega⟩
      · exact ⟨F1, _, rfl, F1p, its16.same s3, ok1, len1⟩
      · exact ⟨F2, _, rfl, F2p, its2.same s3, ok2, len2⟩
    have psn := gs.pen
    have tbs := gs.tabs
    generalize hN : 1000 * i + 20 + 300 + 200 + 60 + 60 = N at psn gs
    clear g1 g12 g23 g34 g45 g56 gs its06 its16 its2 po6 s3 h3 tabs pen penG
    refine for_it (walk_list (xs := [.ref F0, .ref F1, .ref F2])) (fun j σ' G => ∃ y2 y5 y6 y7 y8 y9 y10 y11, σ' = [some (.ref a), some (.ref p), y2, some (.ref L), some (.ref F0), y5, y6, y7, y8, y9, y10, y11] ∧ Gr T3 c p N Gs G) ⟨_, _, _, _, _, _, _, _, rfl, Gr.start psn tbs⟩ (fun j σ' G _ y => by obtain ⟨_, _, _, _, _, _, _, _, _, g⟩ := y; exact SqL.of (g.at_ e3 l3p)) ?_ ?_
    · rintro j x σ' G' Gi hj ⟨y2, y5, y6, y7, y8, y9, y10, y11, rfl, gi⟩ ⟨rfl, hx⟩
      obtain ⟨F, is, rfl, Fp, itsF, okF, lenF⟩ := some3 x (List.mem_of_getElem? hx)
      have po := pos_.gr psn Lp gi
      have its := itsF.gr psn Fp gi
      obtain ⟨xs, hF, at_⟩ := its
      have xl := at_.1
      have peni := gi.pen
      -- made
      refine ⟨_, rfl, F, rfl, ⟨_, SqL.of hF⟩, fun Mm hM => ?_⟩
      have Mp := peni.ne1 hM
      refine lcGen walk_list (fun i H' acc => Same Gi H' ∧ MdsAt CR H' acc (is.take i)) (by rw [sizeLine_eq]; omega) ⟨Same.new hM, rfl, fun i it h => nomatch h⟩ (fun i H' acc _ q => SqL.of (q.1 _ _ hF)) (fun _ _ _ _ y => y.1) ?_ ?_
      · rintro i2 x H' acc Q' hi2 hMl hla ⟨s1, ma⟩ ⟨_, hx2⟩ q
        have hi3 : i2 < is.length := by omega
        obtain ⟨it, hit⟩ : ∃ it, is[i2]? = some it := ⟨_, List.getElem?_eq_getElem hi3⟩
        obtain ⟨v, hv, av⟩ := (at_.mono fun _ _ q => q.same s1).2 i2 _ hit
        obtain rfl : x = v := Option.some.inj (hx2.symm.trans hv)
        refine ⟨_, rfl, x, it, rfl, av, okF _ (List.mem_of_getElem? hit), fun H4 u s4 m => ?_⟩
        have hM4 := s4 _ _ hMl
        refine q _ H4 hM4 ⟨Same.putNew hM (Same.trans s1 s4), ?_⟩
        rw [List.take_add_one, hit]
        exact ((ma.kp (Kp.same s4)).kp (Kp.put hM4)).snoc ((md_of av s4 m).kp (Kp.put hM4))
      rintro H5 ms hM5 hml ⟨s5, mds⟩
      rw [List.take_of_length_le (by omega)] at mds
      have msl := mds.1
      -- held
      refine ⟨_, rfl, Mm, ms, rfl, .inl (SqL.of hM5), fun Hd hHd => ?_⟩
      have sH : Same H5 (upd H5 Hd (.lst ms)) := Same.new hHd
      have eH : upd H5 Hd (.lst ms) Hd = some (.lst ms) := upd_same
      generalize upd H5 Hd (.lst ms) = H6 at sH eH ⊢
      have s56 := Same.trans s5 sH
      have gi6 := gi.same s56
      have g6 := (Gr.start gi.pen gi.tabs).same s56
      have Hdp : Hd ≠ p := by
        have := (peni.ext s5).ne1 hHd
        exact this
      have hM6 := sH _ _ hM5
      have mds6 := mds.kp (Kp.same sH)
      have po6 := po.gr gi.pen Lp g6
      have its6 : ItsOf H6 F is := ⟨xs, s56 _ _ hF, at_.mono fun _ _ q => q.same s56⟩
      clear hM5 mds hM s5 sH s56 hHd hF at_ po
      -- due
      refine ⟨_, rfl, _, rfl, L, F, es, is, rfl, po6, its6, okF, by omega, fun H7 dv s7 hdv => ?_⟩
      have gi7 := gi6.same s7
      have g7 := (Gr.start gi6.pen gi6.tabs).same s7
      have po7 := po6.gr gi6.pen Lp g7
      have hM7 := s7 _ _ hM6
      have eH7 := s7 _ _ eH
      have mds7 := mds6.kp (Kp.same s7)
      clear po6 its6 hM6 eH mds6 s7
      -- heard
      refine ⟨gi7.tabs, fun H8 eN T8 H9 Q' s9 hk => ?_⟩
      have g79 := ((Gr.start gi7.pen gi7.tabs).extN eN T8).same s9
      have gi9 := gi7.trans g79
      have po9 := po7.gr gi7.pen Lp g79
      have hM9 := g79.at_ hM7 Mp
      have eH9 := g79.at_ eH7 Hdp
      have mds9 := mds7.kp (Kp.gr gi7.pen g79)
      have dv9 : DueV H9 dv (dueOf es is) := by
        cases e : dueOf es is with
        | none => rw [e] at hdv; exact hdv
        | some w =>
          rw [e] at hdv
          obtain ⟨t, rfl, ht⟩ := hdv
          exact ⟨t, rfl, s9 _ _ (eN _ _ ht fun _ z => nomatch z)⟩
      obtain ⟨ps9, hL9, pd9, _, _, _⟩ := po9
      refine ⟨rfl, rfl, _, rfl, ?_⟩
      dsimp only [tNil]
      refine of_good (.inl hL9) pd9 l1 l4 nde fun q H10 s10 w10 => ?_
      refine ⟨_, rfl, rfl, ?_⟩
      have ents := (mds9.kp (Kp.same s10)).ents (K := K) O
      refine ⟨Mm, .ref q, ms, rfl, .inl (s10 _ _ hM9), by omega, due_heard hk w10 l4 ents ?_⟩
      intro H11 hv s11 heard
      have s12 := Same.trans s10 s11
      have gi11 := gi9.same s12
      have hM11 := s12 _ _ hM9
      have eH11 := s12 _ _ eH9
      have mds11 := mds9.kp (Kp.same s12)
      have po11 : PairsOf H11 L es := ⟨ps9, s12 _ _ hL9, pd9.mono fun _ _ _ q => q.same s12, l1, l4, nde⟩
      replace dv9 : DueV H11 dv (dueOf es is) := by
        cases e : dueOf es is with
        | none => rw [e] at dv9; exact dv9
        | some w =>
          rw [e] at dv9
          obtain ⟨t, rfl, ht⟩ := dv9
          exact ⟨t, rfl, s12 _ _ ht⟩
      clear w10 ents s10 s11 s12 hM9 eH9 mds9 hL9 pd9 eN T8 s9 hk g79 hM7 eH7 mds7 po7 hdv
      refine t_cond I kB kBL rfl rfl (by omega) dv9 heard (iteF ?_)
      -- held as made
      refine ⟨_, rfl, _, ms.length, rfl, .inl ⟨_, SqL.of eH11, rfl⟩, _, rfl, _, ms.length, rfl, .inl ⟨_, SqL.of hM11, rfl⟩, rfl, _, rfl, ?_⟩
      rw [ne_int rfl]
      refine iteF ⟨_, rfl, _, ms.length, rfl, .inl ⟨_, SqL.of eH11, rfl⟩, ms.length, rfl, by omega, by omega, fun D hD => ?_⟩
      refine lcSel walk_range (fun i H' acc => Same H11 H' ∧ acc = []) (by rw [sizeLine_eq]; omega) ⟨Same.new hD, rfl⟩ (fun _ _ _ _ _ => trivial) (fun _ _ _ _ y => y.1) ?_ ?_
      · rintro i2 x H' acc Q2 Qf hi2 hDl hla ⟨s1, rfl⟩ ⟨_, ex2⟩ hq hf
        obtain rfl : x = V.int (i2 : Int) := ex2.trans (by show V.int (0 + (i2 : Int)) = _; rw [Int.zero_add])
        have hi3 : i2 < is.length := by have : i2 < ms.length := hi2; omega
        obtain ⟨it, hit⟩ : ∃ it, is[i2]? = some it := ⟨_, List.getElem?_eq_getElem hi3⟩
        obtain ⟨v, hv2, md⟩ := (mds11.kp (Kp.same s1)).2 i2 _ hit
        have okit := okF it (List.mem_of_getElem? hit)
        refine ⟨_, rfl, _, rfl, Hd, ms, (i2 : Int), v, rfl, rfl, SqL.of (s1 _ _ eH11), at_int hv2, _, rfl, _, rfl, Mm, ms, (i2 : Int), v, rfl, rfl, SqL.of (s1 _ _ hM11), at_int hv2, ?_⟩
        cases it with
        | rule d =>
          obtain ⟨a1, rfl, r1⟩ := md
          refine .inr (eq_rules IR r1 r1 ⟨_, rfl, ?_⟩)
          rw [decide_eq_true rfl]
          exact iteF (hf _ hDl ⟨s1, rfl⟩)
        | non => exact .inl (eqd_self (it := .non) okit md ⟨_, rfl, iteF (hf _ hDl ⟨s1, rfl⟩)⟩)
        | text => exact .inl (eqd_self (it := .text) okit md ⟨_, rfl, iteF (hf _ hDl ⟨s1, rfl⟩)⟩)
        | empty => exact .inl (eqd_self (it := .empty) okit md ⟨_, rfl, iteF (hf _ hDl ⟨s1, rfl⟩)⟩)
        | seven => exact .inl (eqd_self (it := .seven) okit md ⟨_, rfl, iteF (hf _ hDl ⟨s1, rfl⟩)⟩)
      rintro G12 acc hD3 hla ⟨s4, rfl⟩
      refine ⟨Nat.zero_le _, fun Z hZ => ?_⟩
      have sZ : Same G12 (upd G12 Z (.lst [])) := Same.new hZ
      have eZ : upd G12 Z (.lst []) Z = some (.lst []) := upd_same
      generalize upd G12 Z (.lst []) = H12 at sZ eZ ⊢
      refine ⟨.list [], .list [], .lst (SqL.of (sZ _ _ hD3)) .nil, .lst (SqL.of eZ) .nil, rfl, rfl, _, rfl, iteF ?_⟩
      have s13 := Same.trans s4 sZ
      have gi12 := gi11.same s13
      have hM12 := s13 _ _ hM11
      obtain ⟨ps12, hL12, _⟩ := po11
      have hL13 := s13 _ _ hL12
      clear eZ sZ hZ s4 hD3 hla hD eH11 mds11 hM11 heard dv9
      -- no weights
      refine ⟨gi12.tabs, fun H14 eN T14 H15 Q' s15 hk => ?_⟩
      have g15 := ((Gr.start gi12.pen gi12.tabs).extN eN T14).same s15
      have gi15 := gi12.trans g15
      have hM15 := g15.at_ hM12 Mp
      have hL15 := g15.at_ hL13 Lp
      refine ⟨rfl, _, rfl, _, rfl, ?_⟩
      refine ⟨Mm, .ref L, ms, rfl, .inl hM15, by omega, bad_heard (fun H' s' => ⟨_, .base (.lst (s' _ _ hL15)), kWL⟩) fun u H16 s16 hu => ?_⟩
      refine ⟨by show 2 ≤ sizeLine; decide, fun w hw => ?_⟩
      have sw : Same H16 (upd H16 w (.lst [.str "book", .non])) := Same.new hw
      refine ⟨.list [.str "book", .none], .list [.str "book", .none], .lst (SqL.of (sw _ _ hu)) (.cons (.str _) (.cons .non .nil)), .lst (SqL.of upd_same) (.cons (.str _) (.cons .non .nil)), shaped_told, shaped_told, _, rfl, ?_⟩
      rw [eqv_told]
      exact iteF ⟨_, _, _, _, _, _, _, _, rfl, (gi15.same s16).same sw⟩
    · rintro σ' G7 ⟨y2', y5, y6, y7, y8, y9, y10, y11, rfl, g7⟩
      have po7 := pos_.gr psn Lp g7
      -- a book without rules
      refine ⟨g7.tabs, fun H8 eN T8 H9 Q' s9 hk => ?_⟩
      have g79 := ((Gr.start g7.pen g7.tabs).extN eN T8).same s9
      have g9 := g7.trans g79
      obtain ⟨ps9, hL9, pd9, _, _, _⟩ := po7.gr g7.pen Lp g79
      refine ⟨rfl, rfl, _, rfl, ?_⟩
      dsimp only [tNil]
      refine of_good (.inl hL9) pd9 l1 l4 nde fun q H10 s10 w10 => ?_
      refine fun x dx hx hdx ne => ⟨[.ref x, .ref q], [], rfl, rfl, Nat.zero_le _, fun pp hp => book_made hx hdx hp (by decide) (due_heard (is := []) hk w10 l4 ⟨rfl, fun i o h => nomatch h⟩ fun H11 v s11 heard => ?_)⟩
      obtain ⟨b, rfl, dx2, q2, r2, xs2, ys2, hb, _⟩ := heard
      dsimp only [tNil, tCons, tC]
      refine ⟨_, _, _, _, true, rfl, .own C, I.ty hb, kB, true, rfl, iteF ?_⟩
      have g11 := g9.same (Same.trans s10 s11)
      clear hb hL9 pd9 w10 hx hdx hp ne s10 s11 s9 eN T8 hk g79
      refine ⟨g11.tabs, fun H12 eN T12 H13 Q' s13 hk => ?_⟩
      have g13 := g11.trans (((Gr.start g11.pen g11.tabs).extN eN T12).same s13)
      refine ⟨rfl, ?_⟩
      refine fun x dx hx hdx ne => ⟨[.ref x, .non], [], rfl, rfl, Nat.zero_le _, fun pp hp => book_made hx hdx hp (by decide) (bad_heard (fun H' s' => ⟨_, .base .non, kWN⟩) fun u H16 s16 hu => ?_)⟩
      refine ⟨by show 2 ≤ sizeLine; decide, fun w hw => ?_⟩
      have sw : Same H16 (upd H16 w (.lst [.str "book", .non])) := Same.new hw
      refine ⟨.list [.str "book", .none], .list [.str "book", .none], .lst (SqL.of (sw _ _ hu)) (.cons (.str _) (.cons .non .nil)), .lst (SqL.of upd_same) (.cons (.str _) (.cons .non .nil)), shaped_told, shaped_told, _, rfl, ?_⟩
      rw [eqv_told]
      have gf := (g13.same s16).same sw
      exact iteF ⟨_, _, _, _, _, _, _, _, _, _, rfl, gf.pen.mono (by omega), gf.tabs⟩
end
end Kx
set_option Elab.async false
set_option maxRecDepth 100000
set_option autoImplicit false
namespace Kx
open PySem L2 PySem.Spec PyProof.Rows Rg Er Ru LamX Tn ClX
/-- in this heap nothing is tracked but the script at a and the tables ts -/
structure Bare1 (K : PySem.W.Frag) (a : Addr) (ts : List Addr) (H : Hp) : Prop where
  few : ∀ b, H b ≠ none → (b = a ∧ K.lookup a = none) ∨ b ∈ ts
  kind : ∀ b u, H b = some u → (∃ ob xs, u = .frz ob (.lst xs)) ∨ b ∈ ts
  tabs : ∀ b ∈ ts, H b = some (.tbl #[])
section
variable {P : Program} {w : World} {K : PySem.W.Frag} {mg mb : Str → Option Value} {a : Addr} {s₁ : Shared} {vs : List Value} {cs : List (Addr × Addr)} {H : Hp}
/-- what is no script and no table is not tracked -/
theorem Bare1.off {ts : List Addr} {b : Addr} (B : Bare1 K a ts H) (h1 : b = a → K.lookup a = none → False) (h2 : b ∉ ts) : H b = none := Decidable.by_contra fun q => by
  rcases B.few b q with ⟨e, n⟩ | e
  · exact h1 e n
  · exact h2 e
/-- the heap at the start -/
def start1 (K : PySem.W.Frag) (a : Addr) (ts : List Addr) (vs : List Value) (ns : List Int) : Hp := fun b =>
  if b ∈ ts then some (.tbl #[]) else if b = a ∧ K.lookup a = none then some (.frz { cls := .type "list", data := .seq vs.toArray } (.lst (ns.map V.int))) else none
theorem start1_bare {ts : List Addr} {ns : List Int} : Bare1 K a ts (start1 K a ts vs ns) := by
  refine ⟨fun b q => ?_, fun b u q => ?_, fun b hb => if_pos hb⟩
  · by_cases hb : b ∈ ts
    · exact .inr hb
    · by_cases h2 : b = a ∧ K.lookup a = none
      · exact .inl h2
      · exact absurd (by unfold start1; rw [if_neg hb, if_neg h2]) q
  · by_cases hb : b ∈ ts
    · exact .inr hb
    · unfold start1 at q
      rw [if_neg hb] at q
      split at q
      · cases q; exact .inl ⟨_, _, rfl⟩
      · cases q
theorem lawGT {k : Nat} {fa : Addr} {fd : FuncData} {x : Str} {sp : Sp} {ns : List Int}
    (KX : K.In s₁.heap) (hns : s₁.heap.Ns mainGlobals mg) (hb : s₁.heap.Ns builtinsNs mb) (hbb : ∀ x : Str, x ≠ "__name__" → mb x = bootBuiltins x) (hlim : s₁.heap.NoLimit) (hg : s₁.gens = #[])
    (tab : ∀ p ∈ cs, s₁.heap.get? p.2 = some (PySem.W.tabObj #[]) ∧ K.lookup p.2 = none ∧ PySem.W.CodeHd s₁.heap p.1 p.2)
    (bmn : ∃ (bm : Addr) (ob : Obj), mg "__builtins__" = some (.ref bm) ∧ bm ≠ builtinsNs ∧ s₁.heap.get? bm = some ob ∧ ob.cls = .type "module" ∧ ob.dict = some builtinsNs ∧ ob.data = .plain)
    (ha : s₁.heap.get? a = some { cls := .type "list", data := .seq vs.toArray }) (hi : IntsAre vs ns) (hl : ns.length ≤ sizeLine) (hr : Room k callerA)
    (F : ∀ base : Heap, K.In base → base.Ns mainGlobals mg → (∀ p ∈ cs, TabB base mg p.1 p.2) → FnG P w K mg base CX0 k fa fd [x] sp) (bind : ∀ (s : Shared) (u : Value), BindsTo s fd ⟨[u], []⟩ [(x, u)])
    (want : ∀ H : Hp, (∀ p ∈ cs, H p.2 = some (.tbl #[])) → SqL K H a (ns.map V.int) → sp [.ref a] H (fun v _ => v = .bl true) fun _ _ _ => False) :
    codeAny (model P w) callerA (.call (.ref fa) ⟨[.ref a], []⟩) (fun r s' => r = .ok (.ret (.bool true)) ∧ OldK s₁.heap s'.heap ∧ s'.os = s₁.os ∧ AllBare s'.gens) s₁ := by
  have inT : ∀ {b : Addr}, b ∈ cs.map (·.2) → ∃ p ∈ cs, p.2 = b := fun {b} hb => List.mem_map.mp hb
  have emp : ∀ {b : Addr} {o : Obj}, b ∈ cs.map (·.2) → s₁.heap.get? b = some o → o = PySem.W.tabObj #[] := fun {b o} hb e => by
    obtain ⟨p, hp, rfl⟩ := inT hb
    exact Option.some.inj (e.symm.trans (tab p hp).1)
  have isA : ∀ {o : Obj}, s₁.heap.get? a = some o → o = { cls := .type "list", data := .seq vs.toArray } := fun {o} e => Option.some.inj (e.symm.trans ha)
  have aT : a ∉ cs.map (·.2) := fun z => by cases (emp z ha)
  have B := start1_bare (K := K) (a := a) (ts := cs.map (·.2)) (vs := vs) (ns := ns)
  have hok : HOk P w (start1 K a (cs.map (·.2)) vs ns) s₁.heap := fun b u z => by
    unfold start1 at z
    split at z
    · rename_i hb
      cases z
      obtain ⟨p, hp, rfl⟩ := inT hb
      exact (tab p hp).1
    · split at z
      · rename_i hb
        obtain ⟨rfl, _⟩ := hb
        cases z
        exact ⟨ha, by rw [List.length_map]; exact hl, vs, _, vals_ints hi, ha⟩
      · cases z
  have seq : SqL K (start1 K a (cs.map (·.2)) vs ns) a (ns.map V.int) := by
    cases q : K.lookup a with
    | none => exact .inl (.inr ⟨{ cls := .type "list", data := .seq vs.toArray }, by unfold start1; rw [if_neg aT, if_pos ⟨rfl, q⟩]⟩)
    | some o =>
      cases isA (KX a o q)
      exact .inr ⟨_, vs.toArray, _, q, rfl, rfl, rfl, by rw [List.size_toArray, hi.length]; exact hl, by simpa using vals_ints hi⟩
  generalize start1 K a (cs.map (·.2)) vs ns = H at B hok seq
  have stay : ∀ {b : Addr} {o : Obj}, s₁.heap.get? b = some o → (o.cls = .type "list" → False) → (o.cls = .none → False) → (hidT s₁.heap H).get? b = some o := fun {b o} e h1 h2 => hidT_get e (B.off (fun q _ => by
    subst q
    exact h1 (by rw [isA e])) fun z => h2 (by rw [emp z e]))
  have dicts : ∀ {b : Addr} {m : Str → Option Value}, s₁.heap.Ns b m → (hidT s₁.heap H).Ns b m := by
    rintro b m ⟨o, es, ep, e, d, r⟩
    refine ⟨o, es, ep, hidT_get e (B.off (fun q _ => ?_) fun z => ?_), d, r⟩
    · subst q
      rw [isA e] at d
      cases d
    · rw [emp z e] at d
      cases d
  have KB : K.In (hidT s₁.heap H) := fun b o e => hidT_get (KX b o e) (B.off (fun q n => by
    subst q
    cases n.symm.trans e) fun z => by
    obtain ⟨p, hp, rfl⟩ := inT z
    cases (tab p hp).2.1.symm.trans e)
  have noG : ∀ {o : Obj} {b : Addr}, s₁.heap.get? b = some o → (∀ es ep, o.data ≠ .dict es ep) → mainGlobals ≠ b := fun {o b} e q z => by
    subst z
    obtain ⟨o', es, ep, e', d, _⟩ := hns
    cases e.symm.trans e'
    exact q _ _ d
  have TB : ∀ p ∈ cs, TabB (hidT s₁.heap H) mg p.1 p.2 := fun p hp => by
    obtain ⟨t1, _, t3⟩ := tab p hp
    obtain ⟨o, us, file, tf, flags, tg, inF, text, tt, e1, e2, rest⟩ := t3
    obtain ⟨bm, ob, b1, b2, b3, b4, b5, b6⟩ := bmn
    refine ⟨⟨o, us, file, tf, flags, tg, inF, text, tt, stay e1 (by rw [e2]; exact fun z => nomatch z) (by rw [e2]; exact fun z => nomatch z), e2, rest⟩, ⟨bm, ob, b1, b2, ?_, ?_, stay b3 (by rw [b4]; intro z; injection z with z; exact absurd z (by decide)) (by rw [b4]; exact fun z => nomatch z), b4, b5, b6⟩, noG t1 fun _ _ z => nomatch z⟩
    · exact fun z => noG b3 (by rw [b6]; exact fun _ _ z => nomatch z) z.symm
    · rintro rfl
      cases b3.symm.trans t1
      cases b4
  have none0 : ∀ b, b ∉ frs ([] : List Env) := fun b => by unfold frs; simp
  have M : Mod K mg (hidT s₁.heap H) := ⟨KB, dicts hns, ⟨mb, dicts hb, hbb⟩, let ⟨mc, h1, h2⟩ := hlim; ⟨mc, dicts h1, h2⟩⟩
  have e0 : Env0 P w K mg (hidT s₁.heap H) callerA [] s₁ H := ⟨rfl, M, fun b o e => of_hidT e, Nat.le_of_eq (hidT_size _ _), trivial, fun b q => absurd q (none0 b), hok, .of_eq hg⟩
  have tabs0 : ∀ p ∈ cs, H p.2 = some (.tbl #[]) := fun p hp => B.tabs _ (List.mem_map.mpr ⟨p, hp, rfl⟩)
  refine codeAny_mono ((F _ KB (dicts hns) TB).run callerA [] s₁ H ⟨[.ref a], []⟩ [.ref a] [.ref a] _ _ rfl hr e0 (bind s₁ (.ref a)) (.cons rfl .nil) (want H tabs0 seq)) fun r s' got => ?_
  rcases r with er | fl
  · exact False.elim got
  cases fl <;> first | exact False.elim got | skip
  obtain ⟨v, H', os, bare, un, hok', r', q⟩ := got
  subst q
  cases r'
  have kept : ∀ b o, b ∉ cs.map (·.2) → s₁.heap.get? b = some o → s'.heap.get? b = some o := fun b o nb e => by
    cases z : H b with
    | none => exact un.keep b o e z (none0 b) (by simp)
    | some u =>
      rcases B.kind b u z with ⟨ob, xs, rfl⟩ | m
      · obtain ⟨e1, _⟩ := hok b _ z
        obtain ⟨e2, _⟩ := hok' b _ (un.frzs b ob _ z)
        cases e1.symm.trans e
        exact e2
      · exact absurd m nb
  have more : ∀ b, b ∈ cs.map (·.2) → ∃ ps, s'.heap.get? b = some (PySem.W.tabObj ps) := fun b m => by
    obtain ⟨ps, z⟩ := un.tbls b #[] (B.tabs b m)
    exact ⟨_, hok' b _ z⟩
  refine ⟨rfl, ⟨fun b o e => ?_, fun b o e => ?_⟩, os, bare⟩
  · by_cases m : b ∈ cs.map (·.2)
    · obtain ⟨p, hp, rfl⟩ := inT m
      obtain ⟨ps, z⟩ := more _ m
      cases emp m e
      exact .inr (.inl ⟨((tab p hp).2.2.tab (tab p hp).1).isCodeTable, rfl, #[], ps, rfl, by rw [Array.empty_append]; exact z⟩)
    · exact .inl (kept b o m e)
  · by_cases m : b ∈ cs.map (·.2)
    · obtain ⟨ps, z⟩ := more _ m
      exact ⟨_, z⟩
    · exact ⟨o, kept b o m e⟩
end
/-- the tables of the codes of the defs named, as the head finds them -/
theorem walkGTs {l : PySem.W.OpenLaw} {n k : Nat} {q : Program} {loose : List Str} {XP : (Str → Option Value) → Heap → Prop} {YP : World → Heap → Prop} {d : DefRec} {K : Params → PySem.W.Frag} {sp : List (Addr × Addr) → World → Sp} {x : Str} (names : List Str)
    (hn : l.most = some n) (hn2 : n ≤ sizeLine) (hdf : d.params.defaults = []) (hr : Room k callerA) (hrec : ∀ y ∈ names, ((recsOf q).any fun e => e.name == y) = true) (hY : ∀ (w : World) (h : Heap), YP w h → (K w.params).In h)
    (F : ∀ (w : World) (mg : Str → Option Value) (fa : Addr) (h : Heap), (K w.params).In h → h.Ns mainGlobals mg → mg d.name = some (.ref fa) → (∀ y ∈ names, ∀ fy, mg y = some (.ref fy) → OwnTab (K w.params) fy h) →
      ∃ (fd : FuncData) (cs : List (Addr × Addr)), (∀ p ∈ cs, h.get? p.2 = some (PySem.W.tabObj #[]) ∧ (K w.params).lookup p.2 = none ∧ PySem.W.CodeHd h p.1 p.2) ∧ (∀ (s : Shared) (u : Value), BindsTo s fd ⟨[u], []⟩ [(x, u)]) ∧
        ∀ base : Heap, (K w.params).In base → base.Ns mainGlobals mg → (∀ p ∈ cs, TabB base mg p.1 p.2) → FnG l.prog w (K w.params) mg base CX0 k fa fd [x] (sp cs w))
    (want : ∀ (cs : List (Addr × Addr)) (w : World) (H : Hp) (a : Addr) (ns : List Int), ns.length ≤ n → (∀ z ∈ ns, Builtin.Int.intBits z ≤ 1048576) → (∀ p ∈ cs, H p.2 = some (.tbl #[])) → SqL (K w.params) H a (ns.map V.int) → sp cs w [.ref a] H (fun v _ => v = .bl true) fun _ _ _ => False) :
    PySem.W.WalkO q loose XP YP l.row.toRowW d [] (fun f vs => PySem.call f vs) := by
  refine Att.attach_callB hn hdf fun w s₀ s₁ mg mb fa o pm cd doc a vs ns G Y ho hd hcd hmg hobj hints hlen hbits hg => ?_
  have KX := hY w _ Y
  have own : ∀ y ∈ names, ∀ fy, mg y = some (.ref fy) → OwnTab (K w.params) fy s₁.heap := fun y hy fy my c T o1 f1 e dd us sl k1 k2 k3 k4 k5 => by
    obtain ⟨dL, hm, same⟩ := List.any_eq_true.mp (hrec y hy)
    obtain ⟨_, o2, f2, _, _, g1, g2, g3, g4, _, ⟨⟨_, _, g5, _, g6, g7⟩, at_⟩⟩ := G.T.tab dL hm
    rw [beq_iff_eq.mp same, my] at g1
    cases g1
    cases (KX _ _ k1).symm.trans g2
    cases k2.symm.trans g3
    cases k3.symm.trans g4
    cases (KX _ _ k4).symm.trans g5
    cases g6
    cases k5.symm.trans g7
    exact at_
  obtain ⟨fd, cs, ht, hb, hF⟩ := F w mg fa _ KX G.T.g hmg own
  exact lawGT KX G.T.g G.T.b G.T.builtins G.T.nolimit hg ht G.T.bmain hobj hints (Nat.le_trans hlen hn2) hr hF hb fun H tabs seq => want cs w H a ns hlen hbits tabs seq
/-- the tables by the names of the defs whose codes they hold -/
def tabsOf (names : List Str) (cs : List (Addr × Addr)) : List (Addr × Str) := (cs.map (·.2)).zip (names.map lamQ)
theorem tabs_of {names : List Str} {cs : List (Addr × Addr)} {H : Hp} (h : ∀ p ∈ cs, H p.2 = some (.tbl #[])) : Tabs (tabsOf names cs) H := fun t ht => by
  obtain ⟨t1, t2⟩ := t
  obtain ⟨p, hp, e⟩ := List.mem_map.mp (List.of_mem_zip ht).1
  have := h p hp
  rw [e] at this
  exact TabS.nil this
end Kx
set_option Elab.async false
set_option maxRecDepth 100000
set_option autoImplicit false
namespace Kx
open PySem L2 PySem.Spec PyProof.Rows Rg Er Ru LamX Tn ClX
theorem free_of {ns : List (Str × NameKind)} (h : ns.all (fun y => decide (y.2 ≠ .free) || y.1 == "__class__") = true) : ∀ x, ns.lookup x = some .free → x = "__class__" := by
  intro x e
  have m : (x, NameKind.free) ∈ ns := by
    induction ns with
    | nil => cases e
    | cons y r ih =>
      obtain ⟨y1, y2⟩ := y
      by_cases q : (x == y1) = true
      · simp only [List.lookup, q] at e
        rw [beq_iff_eq.mp q]
        cases e
        exact List.mem_cons_self
      · have q' : (x == y1) = false := by simpa using q
        simp only [List.lookup, q'] at e
        exact List.mem_cons_of_mem _ (ih (by
          rw [List.all_cons, Bool.and_eq_true] at h
          exact h.2) e)
  have := List.all_eq_true.mp h _ m
  simpa using this
abbrev sInit_S : Stmt := inClass (top 4) 0
abbrev sInit_Q : Stmt := inClass (top 6) 0
abbrev sInit_B : Stmt := inClass (top 7) 0
abbrev sInit_H : Stmt := inClass (top 8) 0
abbrev sInit_U : Stmt := inClass (top 9) 0
theorem esS : ErrS ["self", "part"] (defScope sInit_S) := ⟨rfl, by decide +kernel, by decide +kernel, by decide +kernel, rfl, rfl, free_of (by decide +kernel), rfl, rfl, rfl⟩
theorem esQ : ErrS ["self", "part"] (defScope sInit_Q) := ⟨rfl, by decide +kernel, by decide +kernel, by decide +kernel, rfl, rfl, free_of (by decide +kernel), rfl, rfl, rfl⟩
theorem esB : ErrS ["self", "at"] (defScope sInit_B) := ⟨rfl, by decide +kernel, by decide +kernel, by decide +kernel, rfl, rfl, free_of (by decide +kernel), rfl, rfl, rfl⟩
theorem esH : ErrS ["self", "at"] (defScope sInit_H) := ⟨rfl, by decide +kernel, by decide +kernel, by decide +kernel, rfl, rfl, free_of (by decide +kernel), rfl, rfl, rfl⟩
theorem esU : ErrS ["self", "old", "new"] (defScope sInit_U) := ⟨rfl, by decide +kernel, by decide +kernel, by decide +kernel, rfl, rfl, free_of (by decide +kernel), rfl, rfl, rfl⟩
section
variable {P : Program} {w : World} {K : PySem.W.Frag} {mg : Str → Option Value} {base : Heap}
theorem ok_initS {C f cda cc : Addr} {oc dV kV doc pm ct : Value} {od an : Option Addr} {osl : Array (Option Value)} (T : ErrC P K C f cc cda) (O : OexC K C) (no0 : PySem.W.findIn K (.ref C) "part" = some none)
    (lk : K.lookup f = some ⟨oc, od, .func (PySem.W.ksFn "__init__" "BadSigns.__init__" (defArgs sInit_S) (defBody sInit_S) (defScope sInit_S) dV kV doc pm an (.ref cda) ct cc), osl⟩) (hcd : PySem.W.codeIn K (.ref cda) "BadSigns.__init__" = true) (gs : mg "super" = none) :
    FnOk P w K mg base CX0 1 f (PySem.W.ksFn "__init__" "BadSigns.__init__" (defArgs sInit_S) (defBody sInit_S) (defScope sInit_S) dV kV doc pm an (.ref cda) ct cc) ["self", "part"] (spErr1 C "part") := by
  refine ok_err T esS lk hcd gs rfl rfl rfl (fun vs H Q E h => ?_) (fun vs H Q E h => ?_) (fun A outer s H vs Q E h => rest1 esS O no0 rfl rfl A outer s H vs Q E h) (fun _ => rfl) (fun _ => rfl) (fun _ => rfl)
  · obtain ⟨a, v, rfl, _⟩ := h
    rfl
  · obtain ⟨a, v, rfl, ea, _⟩ := h
    exact ⟨a, _, rfl, ea⟩
theorem ok_initQ {C f cda cc : Addr} {oc dV kV doc pm ct : Value} {od an : Option Addr} {osl : Array (Option Value)} (T : ErrC P K C f cc cda) (O : OexC K C) (no0 : PySem.W.findIn K (.ref C) "part" = some none)
    (lk : K.lookup f = some ⟨oc, od, .func (PySem.W.ksFn "__init__" "BadRule.__init__" (defArgs sInit_Q) (defBody sInit_Q) (defScope sInit_Q) dV kV doc pm an (.ref cda) ct cc), osl⟩) (hcd : PySem.W.codeIn K (.ref cda) "BadRule.__init__" = true) (gs : mg "super" = none) :
    FnOk P w K mg base CX0 1 f (PySem.W.ksFn "__init__" "BadRule.__init__" (defArgs sInit_Q) (defBody sInit_Q) (defScope sInit_Q) dV kV doc pm an (.ref cda) ct cc) ["self", "part"] (spErr1 C "part") := by
  refine ok_err T esQ lk hcd gs rfl rfl rfl (fun vs H Q E h => ?_) (fun vs H Q E h => ?_) (fun A outer s H vs Q E h => rest1 esQ O no0 rfl rfl A outer s H vs Q E h) (fun _ => rfl) (fun _ => rfl) (fun _ => rfl)
  · obtain ⟨a, v, rfl, _⟩ := h
    rfl
  · obtain ⟨a, v, rfl, ea, _⟩ := h
    exact ⟨a, _, rfl, ea⟩
theorem ok_initB {C f cda cc : Addr} {oc dV kV doc pm ct : Value} {od an : Option Addr} {osl : Array (Option Value)} (T : ErrC P K C f cc cda) (O : OexC K C) (no0 : PySem.W.findIn K (.ref C) "at" = some none)
    (lk : K.lookup f = some ⟨oc, od, .func (PySem.W.ksFn "__init__" "BadBook.__init__" (defArgs sInit_B) (defBody sInit_B) (defScope sInit_B) dV kV doc pm an (.ref cda) ct cc), osl⟩) (hcd : PySem.W.codeIn K (.ref cda) "BadBook.__init__" = true) (gs : mg "super" = none) :
    FnOk P w K mg base CX0 1 f (PySem.W.ksFn "__init__" "BadBook.__init__" (defArgs sInit_B) (defBody sInit_B) (defScope sInit_B) dV kV doc pm an (.ref cda) ct cc) ["self", "at"] (spErr1 C "at") := by
  refine ok_err T esB lk hcd gs rfl rfl rfl (fun vs H Q E h => ?_) (fun vs H Q E h => ?_) (fun A outer s H vs Q E h => rest1 esB O no0 rfl rfl A outer s H vs Q E h) (fun _ => rfl) (fun _ => rfl) (fun _ => rfl)
  · obtain ⟨a, v, rfl, _⟩ := h
    rfl
  · obtain ⟨a, v, rfl, ea, _⟩ := h
    exact ⟨a, _, rfl, ea⟩
theorem ok_initH {C f cda cc : Addr} {oc dV kV doc pm ct : Value} {od an : Option Addr} {osl : Array (Option Value)} (T : ErrC P K C f cc cda) (O : OexC K C) (no0 : PySem.W.findIn K (.ref C) "at" = some none)
    (lk : K.lookup f = some ⟨oc, od, .func (PySem.W.ksFn "__init__" "Heavier.__init__" (defArgs sInit_H) (defBody sInit_H) (defScope sInit_H) dV kV doc pm an (.ref cda) ct cc), osl⟩) (hcd : PySem.W.codeIn K (.ref cda) "Heavier.__init__" = true) (gs : mg "super" = none) :
    FnOk P w K mg base CX0 1 f (PySem.W.ksFn "__init__" "Heavier.__init__" (defArgs sInit_H) (defBody sInit_H) (defScope sInit_H) dV kV doc pm an (.ref cda) ct cc) ["self", "at"] (spErr1 C "at") := by
  refine ok_err T esH lk hcd gs rfl rfl rfl (fun vs H Q E h => ?_) (fun vs H Q E h => ?_) (fun A outer s H vs Q E h => rest1 esH O no0 rfl rfl A outer s H vs Q E h) (fun _ => rfl) (fun _ => rfl) (fun _ => rfl)
  · obtain ⟨a, v, rfl, _⟩ := h
    rfl
  · obtain ⟨a, v, rfl, ea, _⟩ := h
    exact ⟨a, _, rfl, ea⟩
theorem ok_initU {C f cda cc : Addr} {oc dV kV doc pm ct : Value} {od an : Option Addr} {osl : Array (Option Value)} (T : ErrC P K C f cc cda) (O : OexC K C) (no0 : PySem.W.findIn K (.ref C) "old" = some none) (no1 : PySem.W.findIn K (.ref C) "new" = some none)
    (lk : K.lookup f = some ⟨oc, od, .func (PySem.W.ksFn "__init__" "Unlessened.__init__" (defArgs sInit_U) (defBody sInit_U) (defScope sInit_U) dV kV doc pm an (.ref cda) ct cc), osl⟩) (hcd : PySem.W.codeIn K (.ref cda) "Unlessened.__init__" = true) (gs : mg "super" = none) :
    FnOk P w K mg base CX0 1 f (PySem.W.ksFn "__init__" "Unlessened.__init__" (defArgs sInit_U) (defBody sInit_U) (defScope sInit_U) dV kV doc pm an (.ref cda) ct cc) ["self", "old", "new"] (spErr2 C "old" "new") := by
  refine ok_err T esU lk hcd gs rfl rfl rfl (fun vs H Q E h => ?_) (fun vs H Q E h => ?_) (fun A outer s H vs Q E h => rest2 esU O no0 no1 rfl rfl rfl rfl A outer s H vs Q E h) (fun _ => rfl) (fun _ => rfl) (fun _ => rfl)
  · obtain ⟨a, v, u, rfl, _⟩ := h
    rfl
  · obtain ⟨a, v, u, rfl, ea, _⟩ := h
    exact ⟨a, _, rfl, ea⟩
end
abbrev N3 : List Str := ["law"]
set_option maxHeartbeats 0 in
theorem all_mk {l : PySem.W.OpenLaw} {w : World} {K : PySem.W.Frag} {h : Heap} {mg : Str → Option Value} {fa C CW CR : Addr} {tk : Tok} (X : K.In h) (G : h.Ns mainGlobals mg) (hfa : mg "law" = some (.ref fa)) (own : ∀ y ∈ N3, ∀ fy, mg y = some (.ref fy) → OwnTab K fy h)
    {ES : Addr} {nm_S q_S : Str} {N_S : Addr} {bs_S bm_S : List Value} {sn_S : List Str} {sub_S : List Value} {ab_S : Bool} {col_S : Option Bool} {dd_S : Option Addr} {w0_S w1_S w2_S w3_S w5_S : Option Value} {fe_S cc_S cda_S : Addr} {oce_S kVe_S doce_S pme_S cte_S : Value} {ode_S ane_S : Option Addr} {osle_S : Array (Option Value)} {cl_S ccl_S : Value} {cld_S cdd_S : Option Addr} {csl_S ccs_S : Array (Option Value)} {vs_S : Array Value} {file_S : Str} {tf_S : Tok}
    {EQ : Addr} {nm_Q q_Q : Str} {N_Q : Addr} {bs_Q bm_Q : List Value} {sn_Q : List Str} {sub_Q : List Value} {ab_Q : Bool} {col_Q : Option Bool} {dd_Q : Option Addr} {w0_Q w1_Q w2_Q w3_Q w5_Q : Option Value} {fe_Q cc_Q cda_Q : Addr} {oce_Q kVe_Q doce_Q pme_Q cte_Q : Value} {ode_Q ane_Q : Option Addr} {osle_Q : Array (Option Value)} {cl_Q ccl_Q : Value} {cld_Q cdd_Q : Option Addr} {csl_Q ccs_Q : Array (Option Value)} {vs_Q : Array Value} {file_Q : Str} {tf_Q : Tok}
    {EB : Addr} {nm_B q_B : Str} {N_B : Addr} {bs_B bm_B : List Value} {sn_B : List Str} {sub_B : List Value} {ab_B : Bool} {col_B : Option Bool} {dd_B : Option Addr} {w0_B w1_B w2_B w3_B w5_B : Option Value} {fe_B cc_B cda_B : Addr} {oce_B kVe_B doce_B pme_B cte_B : Value} {ode_B ane_B : Option Addr} {osle_B : Array (Option Value)} {cl_B ccl_B : Value} {cld_B cdd_B : Option Addr} {csl_B ccs_B : Array (Option Value)} {vs_B : Array Value} {file_B : Str} {tf_B : Tok}
    {EH : Addr} {nm_H q_H : Str} {N_H : Addr} {bs_H bm_H : List Value} {sn_H : List Str} {sub_H : List Value} {ab_H : Bool} {col_H : Option Bool} {dd_H : Option Addr} {w0_H w1_H w2_H w3_H w5_H : Option Value} {fe_H cc_H cda_H : Addr} {oce_H kVe_H doce_H pme_H cte_H : Value} {ode_H ane_H : Option Addr} {osle_H : Array (Option Value)} {cl_H ccl_H : Value} {cld_H cdd_H : Option Addr} {csl_H ccs_H : Array (Option Value)} {vs_H : Array Value} {file_H : Str} {tf_H : Tok}
    {EU : Addr} {nm_U q_U : Str} {N_U : Addr} {bs_U bm_U : List Value} {sn_U : List Str} {sub_U : List Value} {ab_U : Bool} {col_U : Option Bool} {dd_U : Option Addr} {w0_U w1_U w2_U w3_U w5_U : Option Value} {fe_U cc_U cda_U : Addr} {oce_U kVe_U doce_U pme_U cte_U : Value} {ode_U ane_U : Option Addr} {osle_U : Array (Option Value)} {cl_U ccl_U : Value} {cld_U cdd_U : Option Addr} {csl_U ccs_U : Array (Option Value)} {vs_U : Array Value} {file_U : Str} {tf_U : Tok}
    {f_fromto : Addr} {od_fromto an_fromto : Option Addr} {sl_fromto : Array (Option Value)} {oc_fromto kV_fromto dc_fromto pm_fromto cd_fromto ct_fromto : Value}
    {f_isletr : Addr} {od_isletr an_isletr : Option Addr} {sl_isletr : Array (Option Value)} {oc_isletr kV_isletr dc_isletr pm_isletr cd_isletr ct_isletr : Value}
    {f_letrs : Addr} {od_letrs an_letrs : Option Addr} {sl_letrs : Array (Option Value)} {oc_letrs kV_letrs dc_letrs pm_letrs cd_letrs ct_letrs : Value}
    {f_wrong : Addr} {od_wrong an_wrong : Option Addr} {sl_wrong : Array (Option Value)} {oc_wrong kV_wrong dc_wrong pm_wrong cd_wrong ct_wrong : Value}
    {f_weigh : Addr} {od_weigh an_weigh : Option Addr} {sl_weigh : Array (Option Value)} {oc_weigh kV_weigh dc_weigh pm_weigh cd_weigh ct_weigh : Value}
    {f_ispair : Addr} {od_ispair an_ispair : Option Addr} {sl_ispair : Array (Option Value)} {oc_ispair kV_ispair dc_ispair pm_ispair cd_ispair ct_ispair : Value}
    {f_isrul : Addr} {od_isrul an_isrul : Option Addr} {sl_isrul : Array (Option Value)} {oc_isrul kV_isrul dc_isrul pm_isrul cd_isrul ct_isrul : Value}
    {f_pen : Addr} {od_pen an_pen : Option Addr} {sl_pen : Array (Option Value)} {oc_pen kV_pen dc_pen pm_pen cd_pen ct_pen : Value}
    {f_draw : Addr} {od_draw an_draw : Option Addr} {sl_draw : Array (Option Value)} {oc_draw kV_draw dc_draw pm_draw cd_draw ct_draw : Value}
    {f_pick : Addr} {od_pick an_pick : Option Addr} {sl_pick : Array (Option Value)} {oc_pick kV_pick dc_pick pm_pick cd_pick ct_pick : Value}
    {f_text : Addr} {od_text an_text : Option Addr} {sl_text : Array (Option Value)} {oc_text kV_text dc_text pm_text cd_text ct_text : Value}
    {f_prs : Addr} {od_prs an_prs : Option Addr} {sl_prs : Array (Option Value)} {oc_prs kV_prs dc_prs pm_prs cd_prs ct_prs : Value}
    {f_wgt : Addr} {od_wgt an_wgt : Option Addr} {sl_wgt : Array (Option Value)} {oc_wgt kV_wgt dc_wgt pm_wgt cd_wgt ct_wgt : Value}
    {f_rul : Addr} {od_rul an_rul : Option Addr} {sl_rul : Array (Option Value)} {oc_rul kV_rul dc_rul pm_rul cd_rul ct_rul : Value}
    {f_ruls : Addr} {od_ruls an_ruls : Option Addr} {sl_ruls : Array (Option Value)} {oc_ruls kV_ruls dc_ruls pm_ruls cd_ruls ct_ruls : Value}
    {f_made : Addr} {od_made an_made : Option Addr} {sl_made : Array (Option Value)} {oc_made kV_made dc_made pm_made cd_made ct_made : Value}
    {f_spoilt : Addr} {od_spoilt an_spoilt : Option Addr} {sl_spoilt : Array (Option Value)} {oc_spoilt kV_spoilt dc_spoilt pm_spoilt cd_spoilt ct_spoilt : Value}
    {f_due : Addr} {od_due an_due : Option Addr} {sl_due : Array (Option Value)} {oc_due kV_due dc_due pm_due cd_due ct_due : Value}
    {f_hrd : Addr} {od_hrd an_hrd : Option Addr} {sl_hrd : Array (Option Value)} {oc_hrd kV_hrd dc_hrd pm_hrd cd_hrd ct_hrd : Value}
    {f_right : Addr} {od_right an_right : Option Addr} {sl_right : Array (Option Value)} {oc_right kV_right dc_right pm_right cd_right ct_right : Value}
    {f_law cd_law tab_law : Addr} {od_law an_law odt_law : Option Addr} {sl_law slt_law : Array (Option Value)} {oc_law kV_law dc_law pm_law ct_law oct_law : Value} {vst_law : Array Value}
    {f_rinit : Addr} {od_rinit an_rinit : Option Addr} {sl_rinit : Array (Option Value)} {oc_rinit dc_rinit pm_rinit cd_rinit ct_rinit : Value}
    {kd_rinit : Addr}
    {f_winit : Addr} {od_winit an_winit : Option Addr} {sl_winit : Array (Option Value)} {oc_winit kV_winit dc_winit pm_winit cd_winit ct_winit : Value}
    {f_wof : Addr} {od_wof an_wof : Option Addr} {sl_wof : Array (Option Value)} {oc_wof kV_wof dc_wof pm_wof cd_wof ct_wof : Value}
    {p_wof : Addr} {r_wof : List Value}
    {f_wsig : Addr} {od_wsig an_wsig : Option Addr} {sl_wsig : Array (Option Value)} {oc_wsig kV_wsig dc_wsig pm_wsig cd_wsig ct_wsig : Value}
    {p_wsig : Addr} {r_wsig : List Value}
    {f_weq : Addr} {od_weq an_weq : Option Addr} {sl_weq : Array (Option Value)} {oc_weq kV_weq dc_weq pm_weq cd_weq ct_weq : Value}
    {f_req : Addr} {od_req an_req : Option Addr} {sl_req : Array (Option Value)} {oc_req kV_req dc_req pm_req cd_req ct_req : Value}
    {f_binit : Addr} {od_binit an_binit : Option Addr} {sl_binit : Array (Option Value)} {oc_binit kV_binit dc_binit pm_binit cd_binit ct_binit : Value}
    {f_bof : Addr} {od_bof an_bof : Option Addr} {sl_bof : Array (Option Value)} {oc_bof kV_bof dc_bof pm_bof cd_bof ct_bof : Value}
    {p_bof : Addr} {r_bof : List Value}
    {f_blong : Addr} {od_blong an_blong : Option Addr} {sl_blong : Array (Option Value)} {oc_blong kV_blong dc_blong pm_blong cd_blong ct_blong : Value}
    {p_blong : Addr} {r_blong : List Value}
    {f_blen : Addr} {od_blen an_blen : Option Addr} {sl_blen : Array (Option Value)} {oc_blen kV_blen dc_blen pm_blen cd_blen ct_blen : Value}
    {f_bitem : Addr} {od_bitem an_bitem : Option Addr} {sl_bitem : Array (Option Value)} {oc_bitem kV_bitem dc_bitem pm_bitem cd_bitem ct_bitem : Value}
    {f_bhas : Addr} {od_bhas an_bhas : Option Addr} {sl_bhas : Array (Option Value)} {oc_bhas kV_bhas dc_bhas pm_bhas cd_bhas ct_bhas : Value}
    {f_beq : Addr} {od_beq an_beq : Option Addr} {sl_beq : Array (Option Value)} {oc_beq kV_beq dc_beq pm_beq cd_beq ct_beq : Value}
    {tM tN : Tok}
    (a_CW : PySem.W.nsIn K mainGlobals "Weights" = some (some (.ref CW)))
    (a_CR : PySem.W.nsIn K mainGlobals "Rule" = some (some (.ref CR)))
    (a_C : PySem.W.nsIn K mainGlobals "Book" = some (some (.ref C)))
    (aES : PySem.W.nsIn K mainGlobals "BadSigns" = some (some (.ref ES)))
    (xL_S : K.lookup ES = some (excClassObj nm_S q_S ES N_S bs_S bm_S true sn_S sub_S ab_S col_S dd_S w0_S w1_S w2_S w3_S w5_S "ValueError.__new__"))
    (rv_S : PySem.HandSPX.refsVE bm_S = true)
    (sa_S : PySem.W.findIn K (.ref ES) "__setattr__" = some (some (.builtin "object.__setattr__")))
    (ex_S : PySem.W.subIn K (.ref ES) (.type "BaseException") = some true)
    (ty_S : PySem.W.typeIn K (.ref ES) = some (.type "type"))
    (kC_S : PySem.W.keepIn K (.ref ES) = true)
    (ini_S : PySem.W.findIn K (.ref ES) "__init__" = some (some (.ref fe_S)))
    (ti_S : PySem.W.typeIn K (.ref fe_S) = some (.type "function"))
    (le_S : K.lookup fe_S = some ⟨oce_S, ode_S, .func (PySem.W.ksFn "__init__" "BadSigns.__init__" (defArgs sInit_S) (defBody sInit_S) (defScope sInit_S) .none kVe_S doce_S pme_S ane_S (.ref cda_S) cte_S cc_S), osle_S⟩)
    (ce_S : PySem.W.codeIn K (.ref cda_S) "BadSigns.__init__" = true)
    (no_part_S : PySem.W.findIn K (.ref ES) "part" = some none)
    (su_S : PySem.W.ks_superIn K ES ES "__init__" = some (some (.builtin veInit)))
    (ve_S : PySem.W.subIn K (.ref ES) (.type "ValueError") = some true)
    (se_S : PySem.W.mroIn K ES (.ref ES) = some true)
    (cel_S : K.lookup cc_S = some ⟨cl_S, cld_S, .cell (some (.ref ES)), csl_S⟩)
    (cod_S : K.lookup cda_S = some ⟨ccl_S, cdd_S, .fields vs_S, ccs_S⟩)
    (v2_S : vs_S[2]? = some (.str file_S tf_S))
    (fl_S : ((l.prog.main.file : Str) == file_S) = true)
    (aEQ : PySem.W.nsIn K mainGlobals "BadRule" = some (some (.ref EQ)))
    (xL_Q : K.lookup EQ = some (excClassObj nm_Q q_Q EQ N_Q bs_Q bm_Q true sn_Q sub_Q ab_Q col_Q dd_Q w0_Q w1_Q w2_Q w3_Q w5_Q "ValueError.__new__"))
    (rv_Q : PySem.HandSPX.refsVE bm_Q = true)
    (sa_Q : PySem.W.findIn K (.ref EQ) "__setattr__" = some (some (.builtin "object.__setattr__")))
    (ex_Q : PySem.W.subIn K (.ref EQ) (.type "BaseException") = some true)
    (ty_Q : PySem.W.typeIn K (.ref EQ) = some (.type "type"))
    (kC_Q : PySem.W.keepIn K (.ref EQ) = true)
    (ini_Q : PySem.W.findIn K (.ref EQ) "__init__" = some (some (.ref fe_Q)))
    (ti_Q : PySem.W.typeIn K (.ref fe_Q) = some (.type "function"))
    (le_Q : K.lookup fe_Q = some ⟨oce_Q, ode_Q, .func (PySem.W.ksFn "__init__" "BadRule.__init__" (defArgs sInit_Q) (defBody sInit_Q) (defScope sInit_Q) .none kVe_Q doce_Q pme_Q ane_Q (.ref cda_Q) cte_Q cc_Q), osle_Q⟩)
    (ce_Q : PySem.W.codeIn K (.ref cda_Q) "BadRule.__init__" = true)
    (no_part_Q : PySem.W.findIn K (.ref EQ) "part" = some none)
    (su_Q : PySem.W.ks_superIn K EQ EQ "__init__" = some (some (.builtin veInit)))
    (ve_Q : PySem.W.subIn K (.ref EQ) (.type "ValueError") = some true)
    (se_Q : PySem.W.mroIn K EQ (.ref EQ) = some true)
    (cel_Q : K.lookup cc_Q = some ⟨cl_Q, cld_Q, .cell (some (.ref EQ)), csl_Q⟩)
    (cod_Q : K.lookup cda_Q = some ⟨ccl_Q, cdd_Q, .fields vs_Q, ccs_Q⟩)
    (v2_Q : vs_Q[2]? = some (.str file_Q tf_Q))
    (fl_Q : ((l.prog.main.file : Str) == file_Q) = true)
    (aEB : PySem.W.nsIn K mainGlobals "BadBook" = some (some (.ref EB)))
    (xL_B : K.lookup EB = some (excClassObj nm_B q_B EB N_B bs_B bm_B true sn_B sub_B ab_B col_B dd_B w0_B w1_B w2_B w3_B w5_B "ValueError.__new__"))
    (rv_B : PySem.HandSPX.refsVE bm_B = true)
    (sa_B : PySem.W.findIn K (.ref EB) "__setattr__" = some (some (.builtin "object.__setattr__")))
    (ex_B : PySem.W.subIn K (.ref EB) (.type "BaseException") = some true)
    (ty_B : PySem.W.typeIn K (.ref EB) = some (.type "type"))
    (kC_B : PySem.W.keepIn K (.ref EB) = true)
    (ga_B : PySem.W.findIn K (.ref EB) "__getattribute__" = some (some (.builtin "BaseException.__getattribute__")))
    (gg_B : PySem.W.findIn K (.ref EB) "__getattr__" = some none)
    (hdc_B : PySem.W.hasDictIn K EB = true)
    (ini_B : PySem.W.findIn K (.ref EB) "__init__" = some (some (.ref fe_B)))
    (ti_B : PySem.W.typeIn K (.ref fe_B) = some (.type "function"))
    (le_B : K.lookup fe_B = some ⟨oce_B, ode_B, .func (PySem.W.ksFn "__init__" "BadBook.__init__" (defArgs sInit_B) (defBody sInit_B) (defScope sInit_B) .none kVe_B doce_B pme_B ane_B (.ref cda_B) cte_B cc_B), osle_B⟩)
    (ce_B : PySem.W.codeIn K (.ref cda_B) "BadBook.__init__" = true)
    (no_at_B : PySem.W.findIn K (.ref EB) "at" = some none)
    (su_B : PySem.W.ks_superIn K EB EB "__init__" = some (some (.builtin veInit)))
    (ve_B : PySem.W.subIn K (.ref EB) (.type "ValueError") = some true)
    (se_B : PySem.W.mroIn K EB (.ref EB) = some true)
    (cel_B : K.lookup cc_B = some ⟨cl_B, cld_B, .cell (some (.ref EB)), csl_B⟩)
    (cod_B : K.lookup cda_B = some ⟨ccl_B, cdd_B, .fields vs_B, ccs_B⟩)
    (v2_B : vs_B[2]? = some (.str file_B tf_B))
    (fl_B : ((l.prog.main.file : Str) == file_B) = true)
    (em_B : PySem.W.exmOne K (.ref EB) (.ref EB) = some true)
    (aEH : PySem.W.nsIn K mainGlobals "Heavier" = some (some (.ref EH)))
    (xL_H : K.lookup EH = some (excClassObj nm_H q_H EH N_H bs_H bm_H true sn_H sub_H ab_H col_H dd_H w0_H w1_H w2_H w3_H w5_H "ValueError.__new__"))
    (rv_H : PySem.HandSPX.refsVE bm_H = true)
    (sa_H : PySem.W.findIn K (.ref EH) "__setattr__" = some (some (.builtin "object.__setattr__")))
    (ex_H : PySem.W.subIn K (.ref EH) (.type "BaseException") = some true)
    (ty_H : PySem.W.typeIn K (.ref EH) = some (.type "type"))
    (kC_H : PySem.W.keepIn K (.ref EH) = true)
    (ga_H : PySem.W.findIn K (.ref EH) "__getattribute__" = some (some (.builtin "BaseException.__getattribute__")))
    (gg_H : PySem.W.findIn K (.ref EH) "__getattr__" = some none)
    (hdc_H : PySem.W.hasDictIn K EH = true)
    (ini_H : PySem.W.findIn K (.ref EH) "__init__" = some (some (.ref fe_H)))
    (ti_H : PySem.W.typeIn K (.ref fe_H) = some (.type "function"))
    (le_H : K.lookup fe_H = some ⟨oce_H, ode_H, .func (PySem.W.ksFn "__init__" "Heavier.__init__" (defArgs sInit_H) (defBody sInit_H) (defScope sInit_H) .none kVe_H doce_H pme_H ane_H (.ref cda_H) cte_H cc_H), osle_H⟩)
    (ce_H : PySem.W.codeIn K (.ref cda_H) "Heavier.__init__" = true)
    (no_at_H : PySem.W.findIn K (.ref EH) "at" = some none)
    (su_H : PySem.W.ks_superIn K EH EH "__init__" = some (some (.builtin veInit)))
    (ve_H : PySem.W.subIn K (.ref EH) (.type "ValueError") = some true)
    (se_H : PySem.W.mroIn K EH (.ref EH) = some true)
    (cel_H : K.lookup cc_H = some ⟨cl_H, cld_H, .cell (some (.ref EH)), csl_H⟩)
    (cod_H : K.lookup cda_H = some ⟨ccl_H, cdd_H, .fields vs_H, ccs_H⟩)
    (v2_H : vs_H[2]? = some (.str file_H tf_H))
    (fl_H : ((l.prog.main.file : Str) == file_H) = true)
    (em_H : PySem.W.exmOne K (.ref EH) (.ref EH) = some true)
    (aEU : PySem.W.nsIn K mainGlobals "Unlessened" = some (some (.ref EU)))
    (xL_U : K.lookup EU = some (excClassObj nm_U q_U EU N_U bs_U bm_U true sn_U sub_U ab_U col_U dd_U w0_U w1_U w2_U w3_U w5_U "ValueError.__new__"))
    (rv_U : PySem.HandSPX.refsVE bm_U = true)
    (sa_U : PySem.W.findIn K (.ref EU) "__setattr__" = some (some (.builtin "object.__setattr__")))
    (ex_U : PySem.W.subIn K (.ref EU) (.type "BaseException") = some true)
    (ty_U : PySem.W.typeIn K (.ref EU) = some (.type "type"))
    (kC_U : PySem.W.keepIn K (.ref EU) = true)
    (ini_U : PySem.W.findIn K (.ref EU) "__init__" = some (some (.ref fe_U)))
    (ti_U : PySem.W.typeIn K (.ref fe_U) = some (.type "function"))
    (le_U : K.lookup fe_U = some ⟨oce_U, ode_U, .func (PySem.W.ksFn "__init__" "Unlessened.__init__" (defArgs sInit_U) (defBody sInit_U) (defScope sInit_U) .none kVe_U doce_U pme_U ane_U (.ref cda_U) cte_U cc_U), osle_U⟩)
    (ce_U : PySem.W.codeIn K (.ref cda_U) "Unlessened.__init__" = true)
    (no_old_U : PySem.W.findIn K (.ref EU) "old" = some none)
    (no_new_U : PySem.W.findIn K (.ref EU) "new" = some none)
    (su_U : PySem.W.ks_superIn K EU EU "__init__" = some (some (.builtin veInit)))
    (ve_U : PySem.W.subIn K (.ref EU) (.type "ValueError") = some true)
    (se_U : PySem.W.mroIn K EU (.ref EU) = some true)
    (cel_U : K.lookup cc_U = some ⟨cl_U, cld_U, .cell (some (.ref EU)), csl_U⟩)
    (cod_U : K.lookup cda_U = some ⟨ccl_U, cdd_U, .fields vs_U, ccs_U⟩)
    (v2_U : vs_U[2]? = some (.str file_U tf_U))
    (fl_U : ((l.prog.main.file : Str) == file_U) = true)
    (emHB : PySem.W.exmOne K (.ref EH) (.ref EB) = some false)
    (ay : PySem.W.nsIn K cStatics "thirdparty.any" = some none)
    (tp : (l.prog.main.scope.names.lookup ("super" : Str)).isSome = false)
    (cg : PySem.W.specialIn K (.builtin "object.__class__") "__get__" = some (some (.builtin "getset_descriptor.__get__")))
    (ct : PySem.W.takesIn K (.builtin "object.__class__") = some true)
    (a_fromto : PySem.W.nsIn K mainGlobals "is_from_to" = some (some (.ref f_fromto)))
    (l_fromto : K.lookup f_fromto = some ⟨oc_fromto, od_fromto, .func (PySem.W.fnOf "is_from_to" "is_from_to" (defArgs sFromTo) (defBody sFromTo) (defScope sFromTo) .none kV_fromto dc_fromto pm_fromto an_fromto cd_fromto ct_fromto), sl_fromto⟩)
    (c_fromto : PySem.W.codeIn K cd_fromto "is_from_to" = true)
    (k_fromto : PySem.W.keepIn K (.ref f_fromto) = true)
    (a_isletr : PySem.W.nsIn K mainGlobals "is_letter" = some (some (.ref f_isletr)))
    (l_isletr : K.lookup f_isletr = some ⟨oc_isletr, od_isletr, .func (PySem.W.fnOf "is_letter" "is_letter" (defArgs sIsLetter) (defBody sIsLetter) (defScope sIsLetter) .none kV_isletr dc_isletr pm_isletr an_isletr cd_isletr ct_isletr), sl_isletr⟩)
    (c_isletr : PySem.W.codeIn K cd_isletr "is_letter" = true)
    (k_isletr : PySem.W.keepIn K (.ref f_isletr) = true)
    (a_letrs : PySem.W.nsIn K mainGlobals "are_letters" = some (some (.ref f_letrs)))
    (l_letrs : K.lookup f_letrs = some ⟨oc_letrs, od_letrs, .func (PySem.W.fnOf "are_letters" "are_letters" (defArgs sAreLetters) (defBody sAreLetters) (defScope sAreLetters) .none kV_letrs dc_letrs pm_letrs an_letrs cd_letrs ct_letrs), sl_letrs⟩)
    (c_letrs : PySem.W.codeIn K cd_letrs "are_letters" = true)
    (k_letrs : PySem.W.keepIn K (.ref f_letrs) = true)
    (a_wrong : PySem.W.nsIn K mainGlobals "wrong_at" = some (some (.ref f_wrong)))
    (l_wrong : K.lookup f_wrong = some ⟨oc_wrong, od_wrong, .func (PySem.W.fnOf "wrong_at" "wrong_at" (defArgs sWrong) (defBody sWrong) (defScope sWrong) .none kV_wrong dc_wrong pm_wrong an_wrong cd_wrong ct_wrong), sl_wrong⟩)
    (c_wrong : PySem.W.codeIn K cd_wrong "wrong_at" = true)
    (k_wrong : PySem.W.keepIn K (.ref f_wrong) = true)
    (a_weigh : PySem.W.nsIn K mainGlobals "weigh" = some (some (.ref f_weigh)))
    (l_weigh : K.lookup f_weigh = some ⟨oc_weigh, od_weigh, .func (PySem.W.fnOf "weigh" "weigh" (defArgs sWeigh) (defBody sWeigh) (defScope sWeigh) .none kV_weigh dc_weigh pm_weigh an_weigh cd_weigh ct_weigh), sl_weigh⟩)
    (c_weigh : PySem.W.codeIn K cd_weigh "weigh" = true)
    (k_weigh : PySem.W.keepIn K (.ref f_weigh) = true)
    (a_ispair : PySem.W.nsIn K mainGlobals "is_pair" = some (some (.ref f_ispair)))
    (l_ispair : K.lookup f_ispair = some ⟨oc_ispair, od_ispair, .func (PySem.W.fnOf "is_pair" "is_pair" (defArgs sIsPair) (defBody sIsPair) (defScope sIsPair) .none kV_ispair dc_ispair pm_ispair an_ispair cd_ispair ct_ispair), sl_ispair⟩)
    (c_ispair : PySem.W.codeIn K cd_ispair "is_pair" = true)
    (k_ispair : PySem.W.keepIn K (.ref f_ispair) = true)
    (a_isrul : PySem.W.nsIn K mainGlobals "is_rule_of" = some (some (.ref f_isrul)))
    (l_isrul : K.lookup f_isrul = some ⟨oc_isrul, od_isrul, .func (PySem.W.fnOf "is_rule_of" "is_rule_of" (defArgs sIsRule) (defBody sIsRule) (defScope sIsRule) .none kV_isrul dc_isrul pm_isrul an_isrul cd_isrul ct_isrul), sl_isrul⟩)
    (c_isrul : PySem.W.codeIn K cd_isrul "is_rule_of" = true)
    (k_isrul : PySem.W.keepIn K (.ref f_isrul) = true)
    (a_pen : PySem.W.nsIn K mainGlobals "_law_pen" = some (some (.ref f_pen)))
    (l_pen : K.lookup f_pen = some ⟨oc_pen, od_pen, .func (PySem.W.fnOf "_law_pen" "_law_pen" (defArgs sPen) (defBody sPen) (defScope sPen) .none kV_pen dc_pen pm_pen an_pen cd_pen ct_pen), sl_pen⟩)
    (c_pen : PySem.W.codeIn K cd_pen "_law_pen" = true)
    (k_pen : PySem.W.keepIn K (.ref f_pen) = true)
    (a_draw : PySem.W.nsIn K mainGlobals "_law_draw" = some (some (.ref f_draw)))
    (l_draw : K.lookup f_draw = some ⟨oc_draw, od_draw, .func (PySem.W.fnOf "_law_draw" "_law_draw" (defArgs sDraw) (defBody sDraw) (defScope sDraw) .none kV_draw dc_draw pm_draw an_draw cd_draw ct_draw), sl_draw⟩)
    (c_draw : PySem.W.codeIn K cd_draw "_law_draw" = true)
    (k_draw : PySem.W.keepIn K (.ref f_draw) = true)
    (a_pick : PySem.W.nsIn K mainGlobals "_law_pick" = some (some (.ref f_pick)))
    (l_pick : K.lookup f_pick = some ⟨oc_pick, od_pick, .func (PySem.W.fnOf "_law_pick" "_law_pick" (defArgs sPick) (defBody sPick) (defScope sPick) .none kV_pick dc_pick pm_pick an_pick cd_pick ct_pick), sl_pick⟩)
    (c_pick : PySem.W.codeIn K cd_pick "_law_pick" = true)
    (k_pick : PySem.W.keepIn K (.ref f_pick) = true)
    (a_text : PySem.W.nsIn K mainGlobals "_law_text" = some (some (.ref f_text)))
    (l_text : K.lookup f_text = some ⟨oc_text, od_text, .func (PySem.W.fnOf "_law_text" "_law_text" (defArgs sText) (defBody sText) (defScope sText) .none kV_text dc_text pm_text an_text cd_text ct_text), sl_text⟩)
    (c_text : PySem.W.codeIn K cd_text "_law_text" = true)
    (k_text : PySem.W.keepIn K (.ref f_text) = true)
    (a_prs : PySem.W.nsIn K mainGlobals "_law_pairs" = some (some (.ref f_prs)))
    (l_prs : K.lookup f_prs = some ⟨oc_prs, od_prs, .func (PySem.W.fnOf "_law_pairs" "_law_pairs" (defArgs sPairs) (defBody sPairs) (defScope sPairs) .none kV_prs dc_prs pm_prs an_prs cd_prs ct_prs), sl_prs⟩)
    (c_prs : PySem.W.codeIn K cd_prs "_law_pairs" = true)
    (k_prs : PySem.W.keepIn K (.ref f_prs) = true)
    (a_wgt : PySem.W.nsIn K mainGlobals "_law_weight" = some (some (.ref f_wgt)))
    (l_wgt : K.lookup f_wgt = some ⟨oc_wgt, od_wgt, .func (PySem.W.fnOf "_law_weight" "_law_weight" (defArgs sWeight) (defBody sWeight) (defScope sWeight) .none kV_wgt dc_wgt pm_wgt an_wgt cd_wgt ct_wgt), sl_wgt⟩)
    (c_wgt : PySem.W.codeIn K cd_wgt "_law_weight" = true)
    (k_wgt : PySem.W.keepIn K (.ref f_wgt) = true)
    (a_rul : PySem.W.nsIn K mainGlobals "_law_rule" = some (some (.ref f_rul)))
    (l_rul : K.lookup f_rul = some ⟨oc_rul, od_rul, .func (PySem.W.fnOf "_law_rule" "_law_rule" (defArgs sRule) (defBody sRule) (defScope sRule) .none kV_rul dc_rul pm_rul an_rul cd_rul ct_rul), sl_rul⟩)
    (c_rul : PySem.W.codeIn K cd_rul "_law_rule" = true)
    (k_rul : PySem.W.keepIn K (.ref f_rul) = true)
    (a_ruls : PySem.W.nsIn K mainGlobals "_law_rules" = some (some (.ref f_ruls)))
    (l_ruls : K.lookup f_ruls = some ⟨oc_ruls, od_ruls, .func (PySem.W.fnOf "_law_rules" "_law_rules" (defArgs sRules) (defBody sRules) (defScope sRules) .none kV_ruls dc_ruls pm_ruls an_ruls cd_ruls ct_ruls), sl_ruls⟩)
    (c_ruls : PySem.W.codeIn K cd_ruls "_law_rules" = true)
    (k_ruls : PySem.W.keepIn K (.ref f_ruls) = true)
    (a_made : PySem.W.nsIn K mainGlobals "_law_made" = some (some (.ref f_made)))
    (l_made : K.lookup f_made = some ⟨oc_made, od_made, .func (PySem.W.fnOf "_law_made" "_law_made" (defArgs sMade) (defBody sMade) (defScope sMade) .none kV_made dc_made pm_made an_made cd_made ct_made), sl_made⟩)
    (c_made : PySem.W.codeIn K cd_made "_law_made" = true)
    (k_made : PySem.W.keepIn K (.ref f_made) = true)
    (a_spoilt : PySem.W.nsIn K mainGlobals "_law_spoilt" = some (some (.ref f_spoilt)))
    (l_spoilt : K.lookup f_spoilt = some ⟨oc_spoilt, od_spoilt, .func (PySem.W.fnOf "_law_spoilt" "_law_spoilt" (defArgs sSpoilt) (defBody sSpoilt) (defScope sSpoilt) .none kV_spoilt dc_spoilt pm_spoilt an_spoilt cd_spoilt ct_spoilt), sl_spoilt⟩)
    (c_spoilt : PySem.W.codeIn K cd_spoilt "_law_spoilt" = true)
    (k_spoilt : PySem.W.keepIn K (.ref f_spoilt) = true)
    (a_due : PySem.W.nsIn K mainGlobals "_law_due" = some (some (.ref f_due)))
    (l_due : K.lookup f_due = some ⟨oc_due, od_due, .func (PySem.W.fnOf "_law_due" "_law_due" (defArgs sDue) (defBody sDue) (defScope sDue) .none kV_due dc_due pm_due an_due cd_due ct_due), sl_due⟩)
    (c_due : PySem.W.codeIn K cd_due "_law_due" = true)
    (k_due : PySem.W.keepIn K (.ref f_due) = true)
    (a_hrd : PySem.W.nsIn K mainGlobals "_law_heard" = some (some (.ref f_hrd)))
    (l_hrd : K.lookup f_hrd = some ⟨oc_hrd, od_hrd, .func (PySem.W.fnOf "_law_heard" "_law_heard" (defArgs sHeard) (defBody sHeard) (defScope sHeard) .none kV_hrd dc_hrd pm_hrd an_hrd cd_hrd ct_hrd), sl_hrd⟩)
    (c_hrd : PySem.W.codeIn K cd_hrd "_law_heard" = true)
    (k_hrd : PySem.W.keepIn K (.ref f_hrd) = true)
    (a_right : PySem.W.nsIn K mainGlobals "_law_right" = some (some (.ref f_right)))
    (l_right : K.lookup f_right = some ⟨oc_right, od_right, .func (PySem.W.fnOf "_law_right" "_law_right" (defArgs sRight) (defBody sRight) (defScope sRight) .none kV_right dc_right pm_right an_right cd_right ct_right), sl_right⟩)
    (c_right : PySem.W.codeIn K cd_right "_law_right" = true)
    (k_right : PySem.W.keepIn K (.ref f_right) = true)
    (a_law : PySem.W.nsIn K mainGlobals "law" = some (some (.ref f_law)))
    (l_law : K.lookup f_law = some ⟨oc_law, od_law, .func (PySem.W.fnOf "law" "law" (defArgs sLaw) (defBody sLaw) (defScope sLaw) .none kV_law dc_law pm_law an_law (.ref cd_law) ct_law), sl_law⟩)
    (c_law : PySem.W.codeIn K (.ref cd_law) "law" = true)
    (k_law : PySem.W.keepIn K (.ref f_law) = true)
    (lct_law : K.lookup cd_law = some ⟨oct_law, odt_law, .fields vst_law, slt_law⟩)
    (v11_law : vst_law[11]? = some (.ref tab_law))
    (hct_law : PySem.W.codeHdIn K cd_law tab_law = true)
    (ntb_law : K.lookup tab_law = none)
    (a_rinit : PySem.W.findIn K (.ref CR) "__init__" = some (some (.ref f_rinit)))
    (i_rinit : PySem.W.isFn K (.ref f_rinit) = true)
    (l_rinit : K.lookup f_rinit = some ⟨oc_rinit, od_rinit, .func (PySem.W.fnOf "__init__" "Rule.__init__" (defArgs sRInit) (defBody sRInit) (defScope sRInit) .none (.ref kd_rinit) dc_rinit pm_rinit an_rinit cd_rinit ct_rinit), sl_rinit⟩)
    (c_rinit : PySem.W.codeIn K cd_rinit "Rule.__init__" = true)
    (k_rinit : PySem.W.keepIn K (.ref f_rinit) = true)
    (kl_rinit : PySem.W.nsIn K kd_rinit "left" = some (some (.bool false)))
    (kr_rinit : PySem.W.nsIn K kd_rinit "right" = some (some (.bool false)))
    (a_winit : PySem.W.findIn K (.ref CW) "__init__" = some (some (.ref f_winit)))
    (i_winit : PySem.W.isFn K (.ref f_winit) = true)
    (l_winit : K.lookup f_winit = some ⟨oc_winit, od_winit, .func (PySem.W.fnOf "__init__" "Weights.__init__" (defArgs sWInit) (defBody sWInit) (defScope sWInit) .none kV_winit dc_winit pm_winit an_winit cd_winit ct_winit), sl_winit⟩)
    (c_winit : PySem.W.codeIn K cd_winit "Weights.__init__" = true)
    (k_winit : PySem.W.keepIn K (.ref f_winit) = true)
    (a_wof : PySem.W.findIn K (.ref CW) "of" = some (some (.ref p_wof)))
    (q_wof : PySem.W.recIn K p_wof "classmethod" = some (.ref f_wof :: r_wof))
    (fc_wof : PySem.W.findCls K (.ref CW) (.type "type") "of" = some (.get (.builtin "classmethod.__get__") (.ref p_wof) .none (.ref CW)))
    (fi_wof : PySem.W.fnIn K f_wof = true)
    (l_wof : K.lookup f_wof = some ⟨oc_wof, od_wof, .func (PySem.W.fnOf "of" "Weights.of" (defArgs sWOf) (defBody sWOf) (defScope sWOf) .none kV_wof dc_wof pm_wof an_wof cd_wof ct_wof), sl_wof⟩)
    (c_wof : PySem.W.codeIn K cd_wof "Weights.of" = true)
    (k_wof : PySem.W.keepIn K (.ref f_wof) = true)
    (a_wsig : PySem.W.findIn K (.ref CW) "signs" = some (some (.ref p_wsig)))
    (g_wsig : PySem.W.specialIn K (.ref p_wsig) "__get__" = some (some (.builtin "property.__get__")))
    (t_wsig : PySem.W.takesIn K (.ref p_wsig) = some true)
    (q_wsig : PySem.W.recIn K p_wsig "property" = some (.ref f_wsig :: r_wsig))
    (l_wsig : K.lookup f_wsig = some ⟨oc_wsig, od_wsig, .func (PySem.W.fnOf "signs" "Weights.signs" (defArgs sWSigns) (defBody sWSigns) (defScope sWSigns) .none kV_wsig dc_wsig pm_wsig an_wsig cd_wsig ct_wsig), sl_wsig⟩)
    (c_wsig : PySem.W.codeIn K cd_wsig "Weights.signs" = true)
    (k_wsig : PySem.W.keepIn K (.ref f_wsig) = true)
    (a_weq : PySem.W.findIn K (.ref CW) "__eq__" = some (some (.ref f_weq)))
    (i_weq : PySem.W.isFn K (.ref f_weq) = true)
    (l_weq : K.lookup f_weq = some ⟨oc_weq, od_weq, .func (PySem.W.fnOf "__eq__" "Weights.__eq__" (defArgs sWEq) (defBody sWEq) (defScope sWEq) .none kV_weq dc_weq pm_weq an_weq cd_weq ct_weq), sl_weq⟩)
    (c_weq : PySem.W.codeIn K cd_weq "Weights.__eq__" = true)
    (k_weq : PySem.W.keepIn K (.ref f_weq) = true)
    (a_req : PySem.W.findIn K (.ref CR) "__eq__" = some (some (.ref f_req)))
    (i_req : PySem.W.isFn K (.ref f_req) = true)
    (l_req : K.lookup f_req = some ⟨oc_req, od_req, .func (PySem.W.fnOf "__eq__" "Rule.__eq__" (defArgs sREq) (defBody sREq) (defScope sREq) .none kV_req dc_req pm_req an_req cd_req ct_req), sl_req⟩)
    (c_req : PySem.W.codeIn K cd_req "Rule.__eq__" = true)
    (k_req : PySem.W.keepIn K (.ref f_req) = true)
    (a_binit : PySem.W.findIn K (.ref C) "__init__" = some (some (.ref f_binit)))
    (i_binit : PySem.W.isFn K (.ref f_binit) = true)
    (l_binit : K.lookup f_binit = some ⟨oc_binit, od_binit, .func (PySem.W.fnOf "__init__" "Book.__init__" (defArgs sBInit) (defBody sBInit) (defScope sBInit) .none kV_binit dc_binit pm_binit an_binit cd_binit ct_binit), sl_binit⟩)
    (c_binit : PySem.W.codeIn K cd_binit "Book.__init__" = true)
    (k_binit : PySem.W.keepIn K (.ref f_binit) = true)
    (a_bof : PySem.W.findIn K (.ref C) "of" = some (some (.ref p_bof)))
    (q_bof : PySem.W.recIn K p_bof "classmethod" = some (.ref f_bof :: r_bof))
    (fc_bof : PySem.W.findCls K (.ref C) (.type "type") "of" = some (.get (.builtin "classmethod.__get__") (.ref p_bof) .none (.ref C)))
    (fi_bof : PySem.W.fnIn K f_bof = true)
    (l_bof : K.lookup f_bof = some ⟨oc_bof, od_bof, .func (PySem.W.fnOf "of" "Book.of" (defArgs sBOf) (defBody sBOf) (defScope sBOf) .none kV_bof dc_bof pm_bof an_bof cd_bof ct_bof), sl_bof⟩)
    (c_bof : PySem.W.codeIn K cd_bof "Book.of" = true)
    (k_bof : PySem.W.keepIn K (.ref f_bof) = true)
    (a_blong : PySem.W.findIn K (.ref C) "longest" = some (some (.ref p_blong)))
    (g_blong : PySem.W.specialIn K (.ref p_blong) "__get__" = some (some (.builtin "property.__get__")))
    (t_blong : PySem.W.takesIn K (.ref p_blong) = some true)
    (q_blong : PySem.W.recIn K p_blong "property" = some (.ref f_blong :: r_blong))
    (l_blong : K.lookup f_blong = some ⟨oc_blong, od_blong, .func (PySem.W.fnOf "longest" "Book.longest" (defArgs sBLong) (defBody sBLong) (defScope sBLong) .none kV_blong dc_blong pm_blong an_blong cd_blong ct_blong), sl_blong⟩)
    (c_blong : PySem.W.codeIn K cd_blong "Book.longest" = true)
    (k_blong : PySem.W.keepIn K (.ref f_blong) = true)
    (a_blen : PySem.W.findIn K (.ref C) "__len__" = some (some (.ref f_blen)))
    (i_blen : PySem.W.isFn K (.ref f_blen) = true)
    (l_blen : K.lookup f_blen = some ⟨oc_blen, od_blen, .func (PySem.W.fnOf "__len__" "Book.__len__" (defArgs sBLen) (defBody sBLen) (defScope sBLen) .none kV_blen dc_blen pm_blen an_blen cd_blen ct_blen), sl_blen⟩)
    (c_blen : PySem.W.codeIn K cd_blen "Book.__len__" = true)
    (k_blen : PySem.W.keepIn K (.ref f_blen) = true)
    (a_bitem : PySem.W.findIn K (.ref C) "__getitem__" = some (some (.ref f_bitem)))
    (i_bitem : PySem.W.isFn K (.ref f_bitem) = true)
    (j_bitem : PySem.W.fnIn K f_bitem = true)
    (l_bitem : K.lookup f_bitem = some ⟨oc_bitem, od_bitem, .func (PySem.W.fnOf "__getitem__" "Book.__getitem__" (defArgs sBItem) (defBody sBItem) (defScope sBItem) .none kV_bitem dc_bitem pm_bitem an_bitem cd_bitem ct_bitem), sl_bitem⟩)
    (c_bitem : PySem.W.codeIn K cd_bitem "Book.__getitem__" = true)
    (k_bitem : PySem.W.keepIn K (.ref f_bitem) = true)
    (a_bhas : PySem.W.findIn K (.ref C) "__contains__" = some (some (.ref f_bhas)))
    (i_bhas : PySem.W.isFn K (.ref f_bhas) = true)
    (l_bhas : K.lookup f_bhas = some ⟨oc_bhas, od_bhas, .func (PySem.W.fnOf "__contains__" "Book.__contains__" (defArgs sBHas) (defBody sBHas) (defScope sBHas) .none kV_bhas dc_bhas pm_bhas an_bhas cd_bhas ct_bhas), sl_bhas⟩)
    (c_bhas : PySem.W.codeIn K cd_bhas "Book.__contains__" = true)
    (k_bhas : PySem.W.keepIn K (.ref f_bhas) = true)
    (a_beq : PySem.W.findIn K (.ref C) "__eq__" = some (some (.ref f_beq)))
    (i_beq : PySem.W.isFn K (.ref f_beq) = true)
    (l_beq : K.lookup f_beq = some ⟨oc_beq, od_beq, .func (PySem.W.fnOf "__eq__" "Book.__eq__" (defArgs sBEq) (defBody sBEq) (defScope sBEq) .none kV_beq dc_beq pm_beq an_beq cd_beq ct_beq), sl_beq⟩)
    (c_beq : PySem.W.codeIn K cd_beq "Book.__eq__" = true)
    (k_beq : PySem.W.keepIn K (.ref f_beq) = true)
    (pg_W : PySem.W.plainGet K CW Str.empty = true)
    (hdi_W : PySem.W.hasDictIn K CW = true)
    (po_W : PySem.W.plainOver K CW = true)
    (sat_W : PySem.W.findIn K (.ref CW) "__setattr__" = some (some (.builtin "object.__setattr__")))
    (mk_W : PySem.W.makesIn K CW = true)
    (kc_W : PySem.W.keepIn K (.ref CW) = true)
    (ca_W : PySem.W.findIn K (.ref CW) "__class__" = some (some (.builtin "object.__class__")))
    (ob_W : PySem.W.mroIn K CW (.type "object") = some true)
    (n__signs_W : PySem.W.findIn K (.ref CW) "_signs" = some none)
    (n_pairs_W : PySem.W.findIn K (.ref CW) "pairs" = some none)
    (rd_W : PySem.W.readsIn K CW (.type "type") = true)
    (gt_W : PySem.W.specialIn K (.ref CW) "__getattribute__" = some (some (.builtin "type.__getattribute__")))
    (kk_W : PySem.W.kitOne K (.ref CW) (.ref CW) = some true)
    (pg_R : PySem.W.plainGet K CR Str.empty = true)
    (hdi_R : PySem.W.hasDictIn K CR = true)
    (po_R : PySem.W.plainOver K CR = true)
    (sat_R : PySem.W.findIn K (.ref CR) "__setattr__" = some (some (.builtin "object.__setattr__")))
    (mk_R : PySem.W.makesIn K CR = true)
    (kc_R : PySem.W.keepIn K (.ref CR) = true)
    (ca_R : PySem.W.findIn K (.ref CR) "__class__" = some (some (.builtin "object.__class__")))
    (ob_R : PySem.W.mroIn K CR (.type "object") = some true)
    (n_old_R : PySem.W.findIn K (.ref CR) "old" = some none)
    (n_new_R : PySem.W.findIn K (.ref CR) "new" = some none)
    (n_left_R : PySem.W.findIn K (.ref CR) "left" = some none)
    (n_right_R : PySem.W.findIn K (.ref CR) "right" = some none)
    (rd_R : PySem.W.readsIn K CR (.type "type") = true)
    (gt_R : PySem.W.specialIn K (.ref CR) "__getattribute__" = some (some (.builtin "type.__getattribute__")))
    (kk_R : PySem.W.kitOne K (.ref CR) (.ref CR) = some true)
    (pg_B : PySem.W.plainGet K C Str.empty = true)
    (hdi_B : PySem.W.hasDictIn K C = true)
    (po_B : PySem.W.plainOver K C = true)
    (sat_B : PySem.W.findIn K (.ref C) "__setattr__" = some (some (.builtin "object.__setattr__")))
    (mk_B : PySem.W.makesIn K C = true)
    (kc_B : PySem.W.keepIn K (.ref C) = true)
    (ca_B : PySem.W.findIn K (.ref C) "__class__" = some (some (.builtin "object.__class__")))
    (ob_B : PySem.W.mroIn K C (.type "object") = some true)
    (n_weights_B : PySem.W.findIn K (.ref C) "weights" = some none)
    (n_rules_B : PySem.W.findIn K (.ref C) "rules" = some none)
    (rd_B : PySem.W.readsIn K C (.type "type") = true)
    (gt_B : PySem.W.specialIn K (.ref C) "__getattribute__" = some (some (.builtin "type.__getattribute__")))
    (kk_B : PySem.W.kitOne K (.ref C) (.ref C) = some true)
    (ko_NoneType : PySem.W.kitOne K (.type "NoneType") (.ref CR) = some false)
    (kn_NoneType : PySem.W.notFirst K CR (.type "NoneType") = true)
    (ko_str : PySem.W.kitOne K (.type "str") (.ref CR) = some false)
    (kn_str : PySem.W.notFirst K CR (.type "str") = true)
    (ko_int : PySem.W.kitOne K (.type "int") (.ref CR) = some false)
    (kn_int : PySem.W.notFirst K CR (.type "int") = true)
    (ko_tuple : PySem.W.kitOne K (.type "tuple") (.ref CR) = some false)
    (kn_tuple : PySem.W.notFirst K CR (.type "tuple") = true)
    (ko_dict : PySem.W.kitOne K (.type "dict") (.ref CR) = some false)
    (kn_dict : PySem.W.notFirst K CR (.type "dict") = true)
    (ko_list : PySem.W.kitOne K (.type "list") (.ref CR) = some false)
    (kn_list : PySem.W.notFirst K CR (.type "list") = true)
    (kBL : PySem.W.kitOne K (.type "list") (.ref C) = some false)
    (nBL : PySem.W.notFirst K C (.type "list") = true)
    (kWL : PySem.W.kitOne K (.type "list") (.ref CW) = some false)
    (kWN : PySem.W.kitOne K (.type "NoneType") (.ref CW) = some false)
    (aMost : PySem.W.findIn K (.ref CR) "LONGEST" = some (some (.int 4 tM)))
    (fMost : PySem.W.findCls K (.ref CR) (.type "type") "LONGEST" = some (.val (.int 4 tM)))
    (aMostB : PySem.W.findIn K (.ref C) "MOST" = some (some (.int 8 tN)))
    (fMostB : PySem.W.findCls K (.ref C) (.type "type") "MOST" = some (.val (.int 8 tN)))
    (aL : PySem.W.nsIn K mainGlobals "LETTERS" = some (some (.str "abcdefghijklmnopqrstuvwxyz" tk)))
    (z_len : PySem.W.nsIn K mainGlobals "len" = some none)
    (z_int : PySem.W.nsIn K mainGlobals "int" = some none)
    (z_abs : PySem.W.nsIn K mainGlobals "abs" = some none)
    (z_list : PySem.W.nsIn K mainGlobals "list" = some none)
    (z_tuple : PySem.W.nsIn K mainGlobals "tuple" = some none)
    (z_range : PySem.W.nsIn K mainGlobals "range" = some none)
    (z_repr : PySem.W.nsIn K mainGlobals "repr" = some none)
    (z_isinstance : PySem.W.nsIn K mainGlobals "isinstance" = some none)
    (z_all : PySem.W.nsIn K mainGlobals "all" = some none)
    (z_set : PySem.W.nsIn K mainGlobals "set" = some none)
    (z_bool : PySem.W.nsIn K mainGlobals "bool" = some none)
    (z_str : PySem.W.nsIn K mainGlobals "str" = some none)
    (z_super : PySem.W.nsIn K mainGlobals "super" = some none)
    (z_enumerate : PySem.W.nsIn K mainGlobals "enumerate" = some none)
    (z_dict : PySem.W.nsIn K mainGlobals "dict" = some none)
    (z_sum : PySem.W.nsIn K mainGlobals "sum" = some none)
    (z_max : PySem.W.nsIn K mainGlobals "max" = some none)
    (z_min : PySem.W.nsIn K mainGlobals "min" = some none)
    : ∃ (fd : FuncData) (cs : List (Addr × Addr)), (∀ p ∈ cs, h.get? p.2 = some (PySem.W.tabObj #[]) ∧ K.lookup p.2 = none ∧ PySem.W.CodeHd h p.1 p.2) ∧ (∀ (s : Shared) (v : Value), BindsTo s fd ⟨[v], []⟩ [("_law_script", v)]) ∧
      ∀ base : Heap, K.In base → base.Ns mainGlobals mg → (∀ p ∈ cs, TabB base mg p.1 p.2) → FnG l.prog w K mg base CX0 11 fa fd ["_law_script"] (spLaw K (tabsOf N3 cs)) := by
  have e := hfa.symm.trans (PySem.W.mg_of X G a_law)
  cases e
  have T : Txt mg := ⟨PySem.W.mg_none_of X G z_len, PySem.W.mg_none_of X G z_int, PySem.W.mg_none_of X G z_abs, PySem.W.mg_none_of X G z_list, PySem.W.mg_none_of X G z_tuple, PySem.W.mg_none_of X G z_range, PySem.W.mg_none_of X G z_repr, PySem.W.mg_none_of X G z_isinstance, PySem.W.mg_none_of X G z_all, PySem.W.mg_none_of X G z_set⟩
  have zB := PySem.W.mg_none_of X G z_bool
  have zS := PySem.W.mg_none_of X G z_str
  have zP := PySem.W.mg_none_of X G z_super
  have zE := PySem.W.mg_none_of X G z_enumerate
  have zD := PySem.W.mg_none_of X G z_dict
  have zM := PySem.W.mg_none_of X G z_sum
  have zX := PySem.W.mg_none_of X G z_max
  have zN := PySem.W.mg_none_of X G z_min
  have mL : mg "LETTERS" = some (.str abc tk) := PySem.W.mg_of X G aL
  have g_CW := PySem.W.mg_of X G a_CW
  have cl_CW : Cls K CW := ⟨pg_W, hdi_W, po_W, sat_W⟩
  have I_CW : InsT K CW := ⟨cl_CW, ca_W, cg, ct, ob_W⟩
  have rdd_CW : ClX.CRead K CW (.type "type") := ⟨rd_W, gt_W⟩
  have g_CR := PySem.W.mg_of X G a_CR
  have cl_CR : Cls K CR := ⟨pg_R, hdi_R, po_R, sat_R⟩
  have I_CR : InsT K CR := ⟨cl_CR, ca_R, cg, ct, ob_R⟩
  have rdd_CR : ClX.CRead K CR (.type "type") := ⟨rd_R, gt_R⟩
  have g_C := PySem.W.mg_of X G a_C
  have cl_C : Cls K C := ⟨pg_B, hdi_B, po_B, sat_B⟩
  have I_C : InsT K C := ⟨cl_C, ca_B, cg, ct, ob_B⟩
  have rdd_C : ClX.CRead K C (.type "type") := ⟨rd_B, gt_B⟩
  have MW : WT K CW := ⟨cl_CW, n__signs_W, n_pairs_W⟩
  have MR : RT K mg CR := ⟨cl_CR, n_old_R, n_new_R, n_left_R, n_right_R, g_CR, _, _, rdd_CR, ⟨fMost, ⟨_, rfl⟩⟩⟩
  have MB : BT K C := ⟨cl_C, n_weights_B, n_rules_B, rdd_C, _, ⟨fMostB, ⟨_, rfl⟩⟩⟩
  have O_S : OexC K ES := ⟨⟨_, _, _, _, _, _, _, _, _, _, _, _, _, _, _, xL_S, rv_S⟩, sa_S, ex_S, ty_S, kC_S⟩
  have R_S : ErrC l.prog K ES fe_S cc_S cda_S := ⟨⟨_, _, _, _, _, _, _, _, _, _, _, _, _, _, _, xL_S, rv_S⟩, su_S, ay, ve_S, se_S, ⟨_, _, _, cel_S⟩, ⟨_, _, _, _, _, _, cod_S, v2_S, fl_S⟩, tp⟩
  have O_Q : OexC K EQ := ⟨⟨_, _, _, _, _, _, _, _, _, _, _, _, _, _, _, xL_Q, rv_Q⟩, sa_Q, ex_Q, ty_Q, kC_Q⟩
  have R_Q : ErrC l.prog K EQ fe_Q cc_Q cda_Q := ⟨⟨_, _, _, _, _, _, _, _, _, _, _, _, _, _, _, xL_Q, rv_Q⟩, su_Q, ay, ve_Q, se_Q, ⟨_, _, _, cel_Q⟩, ⟨_, _, _, _, _, _, cod_Q, v2_Q, fl_Q⟩, tp⟩
  have O_B : OexC K EB := ⟨⟨_, _, _, _, _, _, _, _, _, _, _, _, _, _, _, xL_B, rv_B⟩, sa_B, ex_B, ty_B, kC_B⟩
  have R_B : ErrC l.prog K EB fe_B cc_B cda_B := ⟨⟨_, _, _, _, _, _, _, _, _, _, _, _, _, _, _, xL_B, rv_B⟩, su_B, ay, ve_B, se_B, ⟨_, _, _, cel_B⟩, ⟨_, _, _, _, _, _, cod_B, v2_B, fl_B⟩, tp⟩
  have Hp_B : HearP K mg "BadBook" "at" EB := ⟨PySem.W.mg_of X G aEB, ⟨ga_B, gg_B, ex_B, hdc_B⟩, em_B, no_at_B⟩
  have O_H : OexC K EH := ⟨⟨_, _, _, _, _, _, _, _, _, _, _, _, _, _, _, xL_H, rv_H⟩, sa_H, ex_H, ty_H, kC_H⟩
  have R_H : ErrC l.prog K EH fe_H cc_H cda_H := ⟨⟨_, _, _, _, _, _, _, _, _, _, _, _, _, _, _, xL_H, rv_H⟩, su_H, ay, ve_H, se_H, ⟨_, _, _, cel_H⟩, ⟨_, _, _, _, _, _, cod_H, v2_H, fl_H⟩, tp⟩
  have Hp_H : HearP K mg "Heavier" "at" EH := ⟨PySem.W.mg_of X G aEH, ⟨ga_H, gg_H, ex_H, hdc_H⟩, em_H, no_at_H⟩
  have O_U : OexC K EU := ⟨⟨_, _, _, _, _, _, _, _, _, _, _, _, _, _, _, xL_U, rv_U⟩, sa_U, ex_U, ty_U, kC_U⟩
  have R_U : ErrC l.prog K EU fe_U cc_U cda_U := ⟨⟨_, _, _, _, _, _, _, _, _, _, _, _, _, _, _, xL_U, rv_U⟩, su_U, ay, ve_U, se_U, ⟨_, _, _, cel_U⟩, ⟨_, _, _, _, _, _, cod_U, v2_U, fl_U⟩, tp⟩
  have F_fromto := fun_mk (st := sFromTo) l_fromto c_fromto k_fromto
  have b_fromto := F_fromto.binds (ps := ["value", "low", "high"]) fun _ _ _ _ _ _ us hl => match us, hl with | [_, _, _], _ => rfl
  have F_isletr := fun_mk (st := sIsLetter) l_isletr c_isletr k_isletr
  have b_isletr := F_isletr.binds (ps := ["value"]) fun _ _ _ _ _ _ us hl => match us, hl with | [_], _ => rfl
  have F_letrs := fun_mk (st := sAreLetters) l_letrs c_letrs k_letrs
  have b_letrs := F_letrs.binds (ps := ["value", "least", "most"]) fun _ _ _ _ _ _ us hl => match us, hl with | [_, _, _], _ => rfl
  have F_wrong := fun_mk (st := sWrong) l_wrong c_wrong k_wrong
  have b_wrong := F_wrong.binds (ps := ["signs", "value"]) fun _ _ _ _ _ _ us hl => match us, hl with | [_, _], _ => rfl
  have F_weigh := fun_mk (st := sWeigh) l_weigh c_weigh k_weigh
  have b_weigh := F_weigh.binds (ps := ["pairs", "row"]) fun _ _ _ _ _ _ us hl => match us, hl with | [_, _], _ => rfl
  have F_ispair := fun_mk (st := sIsPair) l_ispair c_ispair k_ispair
  have b_ispair := F_ispair.binds (ps := ["value"]) fun _ _ _ _ _ _ us hl => match us, hl with | [_], _ => rfl
  have F_isrul := fun_mk (st := sIsRule) l_isrul c_isrul k_isrul
  have b_isrul := F_isrul.binds (ps := ["weights", "value"]) fun _ _ _ _ _ _ us hl => match us, hl with | [_, _], _ => rfl
  have F_pen := fun_mk (st := sPen) l_pen c_pen k_pen
  have b_pen := F_pen.binds (ps := ["_law_script"]) fun _ _ _ _ _ _ us hl => match us, hl with | [_], _ => rfl
  have F_draw := fun_mk (st := sDraw) l_draw c_draw k_draw
  have b_draw := F_draw.binds (ps := ["_law_pen_here", "_law_many"]) fun _ _ _ _ _ _ us hl => match us, hl with | [_, _], _ => rfl
  have F_pick := fun_mk (st := sPick) l_pick c_pick k_pick
  have b_pick := F_pick.binds (ps := ["_law_pen_here", "_law_things"]) fun _ _ _ _ _ _ us hl => match us, hl with | [_, _], _ => rfl
  have F_text := fun_mk (st := sText) l_text c_text k_text
  have b_text := F_text.binds (ps := ["_law_pen_here", "_law_signs", "_law_many"]) fun _ _ _ _ _ _ us hl => match us, hl with | [_, _, _], _ => rfl
  have F_prs := fun_mk (st := sPairs) l_prs c_prs k_prs
  have b_prs := F_prs.binds (ps := ["_law_pen_here"]) fun _ _ _ _ _ _ us hl => match us, hl with | [_], _ => rfl
  have F_wgt := fun_mk (st := sWeight) l_wgt c_wgt k_wgt
  have b_wgt := F_wgt.binds (ps := ["_law_pairs_here", "_law_row"]) fun _ _ _ _ _ _ us hl => match us, hl with | [_, _], _ => rfl
  have F_rul := fun_mk (st := sRule) l_rul c_rul k_rul
  have b_rul := F_rul.binds (ps := ["_law_pen_here", "_law_pairs_here"]) fun _ _ _ _ _ _ us hl => match us, hl with | [_, _], _ => rfl
  have F_ruls := fun_mk (st := sRules) l_ruls c_ruls k_ruls
  have b_ruls := F_ruls.binds (ps := ["_law_pen_here", "_law_pairs_here", "_law_cap"]) fun _ _ _ _ _ _ us hl => match us, hl with | [_, _, _], _ => rfl
  have F_made := fun_mk (st := sMade) l_made c_made k_made
  have b_made := F_made.binds (ps := ["_law_rule_here"]) fun _ _ _ _ _ _ us hl => match us, hl with | [_], _ => rfl
  have F_spoilt := fun_mk (st := sSpoilt) l_spoilt c_spoilt k_spoilt
  have b_spoilt := F_spoilt.binds (ps := ["_law_pen_here", "_law_pairs_here", "_law_listed"]) fun _ _ _ _ _ _ us hl => match us, hl with | [_, _, _], _ => rfl
  have F_due := fun_mk (st := sDue) l_due c_due k_due
  have b_due := F_due.binds (ps := ["_law_pairs_here", "_law_listed"]) fun _ _ _ _ _ _ us hl => match us, hl with | [_, _], _ => rfl
  have F_hrd := fun_mk (st := sHeard) l_hrd c_hrd k_hrd
  have b_hrd := F_hrd.binds (ps := ["_law_asking"]) fun _ _ _ _ _ _ us hl => match us, hl with | [_], _ => rfl
  have F_right := fun_mk (st := sRight) l_right c_right k_right
  have b_right := F_right.binds (ps := ["_law_pen_here", "_law_pairs_here", "_law_listed"]) fun _ _ _ _ _ _ us hl => match us, hl with | [_, _, _], _ => rfl
  have F_law := fun_mk (st := sLaw) l_law c_law k_law
  have b_law := F_law.binds (ps := ["_law_script"]) fun _ _ _ _ _ _ us hl => match us, hl with | [_], _ => rfl
  have F_winit := fun_mk (st := sWInit) l_winit c_winit k_winit
  have F_wof := fun_mk (st := sWOf) l_wof c_wof k_wof
  have b_wof := F_wof.binds (ps := ["cls", "pairs"]) fun _ _ _ _ _ _ us hl => match us, hl with | [_, _], _ => rfl
  have F_wsig := fun_mk (st := sWSigns) l_wsig c_wsig k_wsig
  have b_wsig := F_wsig.binds (ps := ["self"]) fun _ _ _ _ _ _ us hl => match us, hl with | [_], _ => rfl
  have F_weq := fun_mk (st := sWEq) l_weq c_weq k_weq
  have b_weq := F_weq.binds (ps := ["self", "other"]) fun _ _ _ _ _ _ us hl => match us, hl with | [_, _], _ => rfl
  have F_req := fun_mk (st := sREq) l_req c_req k_req
  have b_req := F_req.binds (ps := ["self", "other"]) fun _ _ _ _ _ _ us hl => match us, hl with | [_, _], _ => rfl
  have F_binit := fun_mk (st := sBInit) l_binit c_binit k_binit
  have F_bof := fun_mk (st := sBOf) l_bof c_bof k_bof
  have b_bof := F_bof.binds (ps := ["cls", "weights", "rules"]) fun _ _ _ _ _ _ us hl => match us, hl with | [_, _, _], _ => rfl
  have F_blong := fun_mk (st := sBLong) l_blong c_blong k_blong
  have b_blong := F_blong.binds (ps := ["self"]) fun _ _ _ _ _ _ us hl => match us, hl with | [_], _ => rfl
  have F_blen := fun_mk (st := sBLen) l_blen c_blen k_blen
  have b_blen := F_blen.binds (ps := ["self"]) fun _ _ _ _ _ _ us hl => match us, hl with | [_], _ => rfl
  have F_bitem := fun_mk (st := sBItem) l_bitem c_bitem k_bitem
  have b_bitem := F_bitem.binds (ps := ["self", "at"]) fun _ _ _ _ _ _ us hl => match us, hl with | [_, _], _ => rfl
  have F_bhas := fun_mk (st := sBHas) l_bhas c_bhas k_bhas
  have b_bhas := F_bhas.binds (ps := ["self", "x"]) fun _ _ _ _ _ _ us hl => match us, hl with | [_, _], _ => rfl
  have F_beq := fun_mk (st := sBEq) l_beq c_beq k_beq
  have b_beq := F_beq.binds (ps := ["self", "other"]) fun _ _ _ _ _ _ us hl => match us, hl with | [_, _], _ => rfl
  have m_fromto := PySem.W.mg_of X G a_fromto
  have m_isletr := PySem.W.mg_of X G a_isletr
  have m_letrs := PySem.W.mg_of X G a_letrs
  have m_wrong := PySem.W.mg_of X G a_wrong
  have m_weigh := PySem.W.mg_of X G a_weigh
  have m_ispair := PySem.W.mg_of X G a_ispair
  have m_isrul := PySem.W.mg_of X G a_isrul
  have m_pen := PySem.W.mg_of X G a_pen
  have m_draw := PySem.W.mg_of X G a_draw
  have m_pick := PySem.W.mg_of X G a_pick
  have m_text := PySem.W.mg_of X G a_text
  have m_prs := PySem.W.mg_of X G a_prs
  have m_wgt := PySem.W.mg_of X G a_wgt
  have m_rul := PySem.W.mg_of X G a_rul
  have m_ruls := PySem.W.mg_of X G a_ruls
  have m_made := PySem.W.mg_of X G a_made
  have m_spoilt := PySem.W.mg_of X G a_spoilt
  have m_due := PySem.W.mg_of X G a_due
  have m_hrd := PySem.W.mg_of X G a_hrd
  have m_right := PySem.W.mg_of X G a_right
  have m_law := PySem.W.mg_of X G a_law
  have F_rinit : FunD K "__init__" "Rule.__init__" (defArgs sRInit) (defBody sRInit) (defScope sRInit) [] [("left", .bl false), ("right", .bl false)] f_rinit (PySem.W.fnOf "__init__" "Rule.__init__" (defArgs sRInit) (defBody sRInit) (defScope sRInit) .none (.ref kd_rinit) dc_rinit pm_rinit an_rinit cd_rinit ct_rinit) := ⟨⟨_, _, _, _, _, _, _, _, _, _, rfl, l_rinit, c_rinit, .inl ⟨rfl, rfl⟩, .inr ⟨kd_rinit, rfl, fun q hq => by
    rcases List.mem_cons.mp hq with rfl | hq
    · exact ⟨_, kl_rinit, rfl⟩
    · rcases List.mem_cons.mp hq with rfl | hq
      · exact ⟨_, kr_rinit, rfl⟩
      · cases hq⟩⟩, k_rinit⟩
  obtain ⟨_, kbR⟩ := F_rinit.kbinds0 (ps := nInit) 3 ["left", "right"] [] (fun us _ ws => us ++ ws) (by simp) (fun q hq => nomatch hq) (fun r1 _ r3 => vapp r1 r3) (fun D doc pm an cdv ct us mv ws h1 h2 h3 => match us, mv, ws, h1, h2, h3 with
    | [_, _, _], [], [_, _], _, _, _ => rfl)
  have kbF : KBn K _ ["cls", "weights", "rules"] 1 ["weights", "rules"] (fun us ws => us ++ ws) (fun us ws => us ++ ws) := kbMk F_bof (fun _ _ _ _ _ _ us ws l1 l2 => match us, ws, l1, l2 with | [_], [_, _], _, _ => rfl) fun a b => vapp a b
  have cmW : ClX.CMet K CW (.type "type") "of" p_wof f_wof := ⟨fc_wof, ⟨_, q_wof⟩, fi_wof⟩
  have cmB : ClX.CMet K C (.type "type") "of" p_bof f_bof := ⟨fc_bof, ⟨_, q_bof⟩, fi_bof⟩
  refine ⟨PySem.W.fnOf "law" "law" (defArgs sLaw) (defBody sLaw) (defScope sLaw) .none kV_law dc_law pm_law an_law (.ref cd_law) ct_law, [(cd_law, tab_law)], fun p hp => ?_, fun s v => .of_eq rfl, fun base _ _ TB => ?_⟩
  · simp only [List.mem_cons, List.not_mem_nil, or_false] at hp
    subst hp
    exact ⟨own _ (by decide) _ m_law _ _ _ _ _ _ _ _ l_law rfl rfl lct_law v11_law, ntb_law, PySem.W.codeHd_of_K X hct_law⟩
  have tbL := TB (cd_law, tab_law) (by simp)
  show FnG _ _ _ _ _ _ _ _ _ _ (spLaw K [(tab_law, lamQ "law")])
  have B_S : ErrB l.prog w K mg base "BadSigns" "part" ES := ⟨O_S, PySem.W.mg_of X G aES, _, _, ["self", "part"], ini_S, ti_S, ok_initS R_S O_S no_part_S le_S ce_S zP, L2.Binds.all fun us hl => match us, hl with | [_, _], _ => rfl⟩
  have B_Q : ErrB l.prog w K mg base "BadRule" "part" EQ := ⟨O_Q, PySem.W.mg_of X G aEQ, _, _, ["self", "part"], ini_Q, ti_Q, ok_initQ R_Q O_Q no_part_Q le_Q ce_Q zP, L2.Binds.all fun us hl => match us, hl with | [_, _], _ => rfl⟩
  have B_B : ErrB l.prog w K mg base "BadBook" "at" EB := ⟨O_B, PySem.W.mg_of X G aEB, _, _, ["self", "at"], ini_B, ti_B, ok_initB R_B O_B no_at_B le_B ce_B zP, L2.Binds.all fun us hl => match us, hl with | [_, _], _ => rfl⟩
  have B_H : ErrB l.prog w K mg base "Heavier" "at" EH := ⟨O_H, PySem.W.mg_of X G aEH, _, _, ["self", "at"], ini_H, ti_H, ok_initH R_H O_H no_at_H le_H ce_H zP, L2.Binds.all fun us hl => match us, hl with | [_, _], _ => rfl⟩
  have B_U : ErrB2 l.prog w K mg base "Unlessened" "old" "new" EU := ⟨O_U, PySem.W.mg_of X G aEU, _, _, ["self", "old", "new"], ini_U, ti_U, ok_initU R_U O_U no_old_U no_new_U le_U ce_U zP, L2.Binds.all fun us hl => match us, hl with | [_, _, _], _ => rfl⟩
  have mkW : Mk K CW f_winit := ⟨mk_W, a_winit, i_winit, kc_W⟩
  have mkR : Mk K CR f_rinit := ⟨mk_R, a_rinit, i_rinit, kc_R⟩
  have mkB : Mk K C f_binit := ⟨mk_B, a_binit, i_binit, kc_B⟩
  have poW : PropOf K CW "signs" p_wsig f_wsig := ⟨a_wsig, g_wsig, t_wsig, _, q_wsig⟩
  have poB : PropOf K C "longest" p_blong f_blong := ⟨a_blong, g_blong, t_blong, _, q_blong⟩
  have G_fromto := ok_fromToA (P := l.prog) (w := w) (base := base) F_fromto T zB
  have G_isletr := ok_isLetterA (P := l.prog) (w := w) (base := base) F_isletr T zS mL
  have G_letrs := ok_areLetters (P := l.prog) (w := w) (base := base) F_letrs T zS mL
  have G_ispair := ok_isPairA F_ispair T T.tuple G_isletr m_isletr k_isletr b_isletr G_fromto m_fromto k_fromto b_fromto
  have G_winit := ok_wInitA F_winit T MW B_S zE G_fromto m_fromto k_fromto b_fromto G_ispair m_ispair k_ispair b_ispair
  have G_wof := ok_wOfA F_wof mkW G_winit
  have G_wsig := ok_wSigns (P := l.prog) (w := w) (mg := mg) (base := base) F_wsig MW
  have G_weq := ok_wEq (P := l.prog) (w := w) (base := base) F_weq T MW g_CW I_CW kk_W
  have G_wrong := ok_wrong (P := l.prog) (w := w) (base := base) F_wrong T zS
  have G_wrongB := ok_wrongB (P := l.prog) (w := w) (base := base) F_wrong T zS
  have G_weigh := ok_weigh (P := l.prog) (w := w) (base := base) F_weigh zM
  have G_rinit := ok_rInit F_rinit T MR B_Q zB G_letrs m_letrs k_letrs b_letrs
  have G_req := ok_rEq (P := l.prog) (w := w) (base := base) F_req T MR I_CR kk_R
  have G_isrul := ok_isRule F_isrul T MW MR I_CR kk_R G_wrong G_wrongB m_wrong k_wrong b_wrong poW G_wsig b_wsig
  have G_binit := ok_bInit F_binit T MB MW MR I_CW I_CR kk_W zE g_CW g_C B_B B_H B_U G_isrul m_isrul k_isrul b_isrul G_weigh m_weigh k_weigh b_weigh G_req b_req a_req i_req
  have G_bof := ok_bOf F_bof mkB G_binit
  have G_blen := ok_bLen (P := l.prog) (w := w) (base := base) (CW := CW) (CR := CR) F_blen T MB
  have G_bitem := ok_bItem (P := l.prog) (w := w) (mg := mg) (base := base) (CW := CW) (CR := CR) F_bitem MB
  have G_bhas := ok_bHas (CW := CW) F_bhas MB I_CR G_req b_req a_req i_req
  have G_blong := ok_bLong (P := l.prog) (w := w) (base := base) (CW := CW) F_blong T MB MR zX
  have G_beq := ok_bEq F_beq T MB g_C I_C kk_B MW I_CW (nfSelf K CW) I_CR G_weq b_weq a_weq i_weq G_req b_req a_req i_req
  have G_draw := ok_draw (P := l.prog) (w := w) (base := base) F_draw T
  have G_pick := ok_pick F_pick T G_draw m_draw k_draw b_draw
  have G_text := ok_text F_text T G_pick m_pick k_pick b_pick
  have G_prs := ok_pairs F_prs T G_draw m_draw k_draw b_draw G_pick m_pick k_pick b_pick
  have G_wgt := ok_weight (P := l.prog) (w := w) (base := base) F_wgt zD zM
  have G_rul := ok_rule F_rul T G_pick m_pick k_pick b_pick G_text m_text k_text b_text G_wgt m_wgt k_wgt b_wgt
  have G_ruls := ok_rules F_ruls T G_draw m_draw k_draw b_draw G_rul m_rul k_rul b_rul
  have G_made := ok_made F_made T MR mkR G_rinit kbR
  have G_due := ok_due F_due T G_wgt m_wgt k_wgt b_wgt
  have G_spoilt := ok_spoilt F_spoilt T G_draw m_draw k_draw b_draw G_pick m_pick k_pick b_pick G_text m_text k_text b_text
  have BFx : BF l.prog w K mg base C CW CR EB EH ES C := ⟨MB, g_C, I_C, kk_B, kBL, nBL, MW, g_CW, I_CW, MR, I_CR, ⟨ko_NoneType, kn_NoneType⟩, ⟨ko_str, kn_str⟩, ⟨ko_int, kn_int⟩, ⟨ko_tuple, kn_tuple⟩, ⟨ko_dict, kn_dict⟩, ⟨ko_list, kn_list⟩, rdd_C, ⟨_, _, cmB, Er.fnR_of G_bof b_bof⟩, rdd_CW, ⟨_, _, cmW, Er.fnR_of G_wof b_wof⟩,
    ⟨_, _, a_blen, i_blen, G_blen, b_blen⟩, ⟨_, _, a_bhas, i_bhas, G_bhas, b_bhas⟩, ⟨_, _, a_bitem, j_bitem, i_bitem, G_bitem, b_bitem⟩, ⟨_, _, _, poB, G_blong, b_blong⟩, ⟨_, _, a_beq, i_beq, G_beq, b_beq⟩, ⟨_, _, a_weq, i_weq, G_weq, b_weq⟩, ⟨_, _, a_req, i_req, G_req, b_req⟩,
    ⟨_, _, m_made, k_made, G_made, b_made⟩, ⟨_, _, m_due, k_due, G_due, b_due⟩, ⟨_, _, m_rul, k_rul, G_rul, b_rul⟩⟩
  have BLx : BL l.prog w K mg base C CW CR EB EH := ⟨⟨ko_NoneType, ko_str, ko_int, ko_tuple⟩, kWL, kWN, ⟨Hp_B, Hp_H, emHB⟩, ⟨_, _, _, cmB, G_bof, kbF⟩, ⟨_, mkB, G_binit⟩⟩
  have Hh : Hd K mg f_hrd cd_hrd oc_hrd .none kV_hrd dc_hrd pm_hrd ct_hrd an_hrd od_hrd sl_hrd := ⟨m_hrd, k_hrd, l_hrd, c_hrd, b_hrd⟩
  have G_right := ok_right F_right T zX zN zS BFx
  exact ok_law T BFx BLx Hh l_law c_law tbL (by simp) (fun p hp e => by
    simp only [List.mem_cons, List.not_mem_nil, or_false] at hp
    subst hp
    rfl) (ok_pen F_pen T) m_pen k_pen b_pen G_prs m_prs k_prs b_prs G_ruls m_ruls k_ruls b_ruls G_spoilt m_spoilt k_spoilt b_spoilt G_right m_right k_right b_right
end Kx
set_option Elab.async false
open PySem PySem.W PyProof.Rows in
set_option maxRecDepth 100000 in
set_option maxHeartbeats 0 in
theorem PySem.Challenge.cw_rowgames_k06_books_made_holds : PySem.Challenge.rw_rowgames_k06_books_made.Holds := by
  w_on; o_law; k_headL; (case hw => w_witness2)
  k_fill
  refine Kx.walkGTs (l := PySem.Challenge.rw_rowgames_k06_books_made) (n := 63) (k := 11) (x := "_law_script") (sp := fun cs w => Kx.spLaw _ (Kx.tabsOf Kx.N3 cs)) Kx.N3 rfl (by decide) rfl ⟨rfl, by decide, by decide⟩ (by decide +kernel) (fun w h Y => PySem.W.kIn_of Y) ?F (fun cs _ _ a ns hl _ tb hS => ⟨a, ns, rfl, hS, hl, Kx.tabs_of tb, fun _ => rfl⟩)
  case F =>
    intro w mg fa h KX G hmg own
    refine' Kx.all_mk KX G hmg own ?a_CW ?a_CR ?a_C ?aES ?xL_S ?rv_S ?sa_S ?ex_S ?ty_S ?kC_S ?ini_S ?ti_S ?le_S ?ce_S ?no_part_S ?su_S ?ve_S ?se_S ?cel_S ?cod_S ?v2_S ?fl_S ?aEQ ?xL_Q ?rv_Q ?sa_Q ?ex_Q ?ty_Q ?kC_Q ?ini_Q ?ti_Q ?le_Q ?ce_Q ?no_part_Q ?su_Q ?ve_Q ?se_Q ?cel_Q ?cod_Q ?v2_Q ?fl_Q ?aEB ?xL_B ?rv_B ?sa_B ?ex_B ?ty_B ?kC_B ?ga_B ?gg_B ?hdc_B ?ini_B ?ti_B ?le_B ?ce_B ?no_at_B ?su_B ?ve_B ?se_B ?cel_B ?cod_B ?v2_B ?fl_B ?em_B ?aEH ?xL_H ?rv_H ?sa_H ?ex_H ?ty_H ?kC_H ?ga_H ?gg_H ?hdc_H ?ini_H ?ti_H ?le_H ?ce_H ?no_at_H ?su_H ?ve_H ?se_H ?cel_H ?cod_H ?v2_H ?fl_H ?em_H ?aEU ?xL_U ?rv_U ?sa_U ?ex_U ?ty_U ?kC_U ?ini_U ?ti_U ?le_U ?ce_U ?no_old_U ?no_new_U ?su_U ?ve_U ?se_U ?cel_U ?cod_U ?v2_U ?fl_U ?emHB ?ay ?tp ?cg ?ct ?a_fromto ?l_fromto ?c_fromto ?k_fromto ?a_isletr ?l_isletr ?c_isletr ?k_isletr ?a_letrs ?l_letrs ?c_letrs ?k_letrs ?a_wrong ?l_wrong ?c_wrong ?k_wrong ?a_weigh ?l_weigh ?c_weigh ?k_weigh ?a_ispair ?l_ispair ?c_ispair ?k_ispair ?a_isrul ?l_isrul ?c_isrul ?k_isrul ?a_pen ?l_pen ?c_pen ?k_pen ?a_draw ?l_draw ?c_draw ?k_draw ?a_pick ?l_pick ?c_pick ?k_pick ?a_text ?l_text ?c_text ?k_text ?a_prs ?l_prs ?c_prs ?k_prs ?a_wgt ?l_wgt ?c_wgt ?k_wgt ?a_rul ?l_rul ?c_rul ?k_rul ?a_ruls ?l_ruls ?c_ruls ?k_ruls ?a_made ?l_made ?c_made ?k_made ?a_spoilt ?l_spoilt ?c_spoilt ?k_spoilt ?a_due ?l_due ?c_due ?k_due ?a_hrd ?l_hrd ?c_hrd ?k_hrd ?a_right ?l_right ?c_right ?k_right ?a_law ?l_law ?c_law ?k_law ?lct_law ?v11_law ?hct_law ?ntb_law ?a_rinit ?i_rinit ?l_rinit ?c_rinit ?k_rinit ?kl_rinit ?kr_rinit ?a_winit ?i_winit ?l_winit ?c_winit ?k_winit ?a_wof ?q_wof ?fc_wof ?fi_wof ?l_wof ?c_wof ?k_wof ?a_wsig ?g_wsig ?t_wsig ?q_wsig ?l_wsig ?c_wsig ?k_wsig ?a_weq ?i_weq ?l_weq ?c_weq ?k_weq ?a_req ?i_req ?l_req ?c_req ?k_req ?a_binit ?i_binit ?l_binit ?c_binit ?k_binit ?a_bof ?q_bof ?fc_bof ?fi_bof ?l_bof ?c_bof ?k_bof ?a_blong ?g_blong ?t_blong ?q_blong ?l_blong ?c_blong ?k_blong ?a_blen ?i_blen ?l_blen ?c_blen ?k_blen ?a_bitem ?i_bitem ?j_bitem ?l_bitem ?c_bitem ?k_bitem ?a_bhas ?i_bhas ?l_bhas ?c_bhas ?k_bhas ?a_beq ?i_beq ?l_beq ?c_beq ?k_beq ?pg_W ?hdi_W ?po_W ?sat_W ?mk_W ?kc_W ?ca_W ?ob_W ?n__signs_W ?n_pairs_W ?rd_W ?gt_W ?kk_W ?pg_R ?hdi_R ?po_R ?sat_R ?mk_R ?kc_R ?ca_R ?ob_R ?n_old_R ?n_new_R ?n_left_R ?n_right_R ?rd_R ?gt_R ?kk_R ?pg_B ?hdi_B ?po_B ?sat_B ?mk_B ?kc_B ?ca_B ?ob_B ?n_weights_B ?n_rules_B ?rd_B ?gt_B ?kk_B ?ko_NoneType ?kn_NoneType ?ko_str ?kn_str ?ko_int ?kn_int ?ko_tuple ?kn_tuple ?ko_dict ?kn_dict ?ko_list ?kn_list ?kBL ?nBL ?kWL ?kWN ?aMost ?fMost ?aMostB ?fMostB ?aL ?z_len ?z_int ?z_abs ?z_list ?z_tuple ?z_range ?z_repr ?z_isinstance ?z_all ?z_set ?z_bool ?z_str ?z_super ?z_enumerate ?z_dict ?z_sum ?z_max ?z_min
    (case a_CW => k_is)
    (case a_CR => k_is)
    (case a_C => k_is)
    (case aES => k_is)
    (case xL_S => k_is)
    (case rv_S => first | rfl | decide +kernel | k_is)
    (case sa_S => k_is)
    (case ex_S => k_is)
    (case ty_S => k_is)
    (case kC_S => k_is)
    (case ini_S => k_is)
    (case ti_S => k_is)
    (case le_S => k_is)
    (case ce_S => k_is)
    (case no_part_S => k_is)
    (case su_S => first | kernel_rfl | decide +kernel | rfl | k_is)
    (case ve_S => k_is)
    (case se_S => first | k_is | kernel_rfl | decide +kernel)
    (case cel_S => k_is)
    (case cod_S => k_is)
    (case v2_S => first | rfl | decide +kernel | k_is)
    (case fl_S => first | rfl | decide +kernel | k_is)
    (case aEQ => k_is)
    (case xL_Q => k_is)
    (case rv_Q => first | rfl | decide +kernel | k_is)
    (case sa_Q => k_is)
    (case ex_Q => k_is)
    (case ty_Q => k_is)
    (case kC_Q => k_is)
    (case ini_Q => k_is)
    (case ti_Q => k_is)
    (case le_Q => k_is)
    (case ce_Q => k_is)
    (case no_part_Q => k_is)
    (case su_Q => first | kernel_rfl | decide +kernel | rfl | k_is)
    (case ve_Q => k_is)
    (case se_Q => first | k_is | kernel_rfl | decide +kernel)
    (case cel_Q => k_is)
    (case cod_Q => k_is)
    (case v2_Q => first | rfl | decide +kernel | k_is)
    (case fl_Q => first | rfl | decide +kernel | k_is)
    (case aEB => k_is)
    (case xL_B => k_is)
    (case rv_B => first | rfl | decide +kernel | k_is)
    (case sa_B => k_is)
    (case ex_B => k_is)
    (case ty_B => k_is)
    (case kC_B => k_is)
    (case ga_B => k_is)
    (case gg_B => k_is)
    (case hdc_B => k_is)
    (case ini_B => k_is)
    (case ti_B => k_is)
    (case le_B => k_is)
    (case ce_B => k_is)
    (case no_at_B => k_is)
    (case su_B => first | kernel_rfl | decide +kernel | rfl | k_is)
    (case ve_B => k_is)
    (case se_B => first | k_is | kernel_rfl | decide +kernel)
    (case cel_B => k_is)
    (case cod_B => k_is)
    (case v2_B => first | rfl | decide +kernel | k_is)
    (case fl_B => first | rfl | decide +kernel | k_is)
    (case em_B => first | kernel_rfl | decide +kernel | rfl | k_is)
    (case aEH => k_is)
    (case xL_H => k_is)
    (case rv_H => first | rfl | decide +kernel | k_is)
    (case sa_H => k_is)
    (case ex_H => k_is)
    (case ty_H => k_is)
    (case kC_H => k_is)
    (case ga_H => k_is)
    (case gg_H => k_is)
    (case hdc_H => k_is)
    (case ini_H => k_is)
    (case ti_H => k_is)
    (case le_H => k_is)
    (case ce_H => k_is)
    (case no_at_H => k_is)
    (case su_H => first | kernel_rfl | decide +kernel | rfl | k_is)
    (case ve_H => k_is)
    (case se_H => first | k_is | kernel_rfl | decide +kernel)
    (case cel_H => k_is)
    (case cod_H => k_is)
    (case v2_H => first | rfl | decide +kernel | k_is)
    (case fl_H => first | rfl | decide +kernel | k_is)
    (case em_H => first | kernel_rfl | decide +kernel | rfl | k_is)
    (case aEU => k_is)
    (case xL_U => k_is)
    (case rv_U => first | rfl | decide +kernel | k_is)
    (case sa_U => k_is)
    (case ex_U => k_is)
    (case ty_U => k_is)
    (case kC_U => k_is)
    (case ini_U => k_is)
    (case ti_U => k_is)
    (case le_U => k_is)
    (case ce_U => k_is)
    (case no_old_U => k_is)
    (case no_new_U => k_is)
    (case su_U => first | kernel_rfl | decide +kernel | rfl | k_is)
    (case ve_U => k_is)
    (case se_U => first | k_is | kernel_rfl | decide +kernel)
    (case cel_U => k_is)
    (case cod_U => k_is)
    (case v2_U => first | rfl | decide +kernel | k_is)
    (case fl_U => first | rfl | decide +kernel | k_is)
    (case emHB => first | kernel_rfl | decide +kernel | rfl | k_is)
    (case ay => k_is)
    (case tp => first | rfl | decide +kernel | k_is)
    (case cg => k_is)
    (case ct => k_is)
    (case a_fromto => k_is)
    (case l_fromto => k_is)
    (case c_fromto => k_is)
    (case k_fromto => k_is)
    (case a_isletr => k_is)
    (case l_isletr => k_is)
    (case c_isletr => k_is)
    (case k_isletr => k_is)
    (case a_letrs => k_is)
    (case l_letrs => k_is)
    (case c_letrs => k_is)
    (case k_letrs => k_is)
    (case a_wrong => k_is)
    (case l_wrong => k_is)
    (case c_wrong => k_is)
    (case k_wrong => k_is)
    (case a_weigh => k_is)
    (case l_weigh => k_is)
    (case c_weigh => k_is)
    (case k_weigh => k_is)
    (case a_ispair => k_is)
    (case l_ispair => k_is)
    (case c_ispair => k_is)
    (case k_ispair => k_is)
    (case a_isrul => k_is)
    (case l_isrul => k_is)
    (case c_isrul => k_is)
    (case k_isrul => k_is)
    (case a_pen => k_is)
    (case l_pen => k_is)
    (case c_pen => k_is)
    (case k_pen => k_is)
    (case a_draw => k_is)
    (case l_draw => k_is)
    (case c_draw => k_is)
    (case k_draw => k_is)
    (case a_pick => k_is)
    (case l_pick => k_is)
    (case c_pick => k_is)
    (case k_pick => k_is)
    (case a_text => k_is)
    (case l_text => k_is)
    (case c_text => k_is)
    (case k_text => k_is)
    (case a_prs => k_is)
    (case l_prs => k_is)
    (case c_prs => k_is)
    (case k_prs => k_is)
    (case a_wgt => k_is)
    (case l_wgt => k_is)
    (case c_wgt => k_is)
    (case k_wgt => k_is)
    (case a_rul => k_is)
    (case l_rul => k_is)
    (case c_rul => k_is)
    (case k_rul => k_is)
    (case a_ruls => k_is)
    (case l_ruls => k_is)
    (case c_ruls => k_is)
    (case k_ruls => k_is)
    (case a_made => k_is)
    (case l_made => k_is)
    (case c_made => k_is)
    (case k_made => k_is)
    (case a_spoilt => k_is)
    (case l_spoilt => k_is)
    (case c_spoilt => k_is)
    (case k_spoilt => k_is)
    (case a_due => k_is)
    (case l_due => k_is)
    (case c_due => k_is)
    (case k_due => k_is)
    (case a_hrd => k_is)
    (case l_hrd => k_is)
    (case c_hrd => k_is)
    (case k_hrd => k_is)
    (case a_right => k_is)
    (case l_right => k_is)
    (case c_right => k_is)
    (case k_right => k_is)
    (case a_law => k_is)
    (case l_law => k_is)
    (case c_law => k_is)
    (case k_law => k_is)
    (case lct_law => k_is)
    (case v11_law => first | rfl | decide +kernel | k_is)
    (case hct_law => first | kernel_rfl | decide +kernel | rfl)
    (case ntb_law => first | kernel_rfl | decide +kernel | rfl)
    (case a_rinit => k_is)
    (case i_rinit => k_is)
    (case l_rinit => k_is)
    (case c_rinit => k_is)
    (case k_rinit => k_is)
    (case kl_rinit => k_is)
    (case kr_rinit => k_is)
    (case a_winit => k_is)
    (case i_winit => k_is)
    (case l_winit => k_is)
    (case c_winit => k_is)
    (case k_winit => k_is)
    (case a_wof => k_is)
    (case q_wof => k_is)
    (case fc_wof => first | kernel_rfl | decide +kernel | rfl | k_is)
    (case fi_wof => k_is)
    (case l_wof => k_is)
    (case c_wof => k_is)
    (case k_wof => k_is)
    (case a_wsig => k_is)
    (case g_wsig => k_is)
    (case t_wsig => k_is)
    (case q_wsig => k_is)
    (case l_wsig => k_is)
    (case c_wsig => k_is)
    (case k_wsig => k_is)
    (case a_weq => k_is)
    (case i_weq => k_is)
    (case l_weq => k_is)
    (case c_weq => k_is)
    (case k_weq => k_is)
    (case a_req => k_is)
    (case i_req => k_is)
    (case l_req => k_is)
    (case c_req => k_is)
    (case k_req => k_is)
    (case a_binit => k_is)
    (case i_binit => k_is)
    (case l_binit => k_is)
    (case c_binit => k_is)
    (case k_binit => k_is)
    (case a_bof => k_is)
    (case q_bof => k_is)
    (case fc_bof => first | kernel_rfl | decide +kernel | rfl | k_is)
    (case fi_bof => k_is)
    (case l_bof => k_is)
    (case c_bof => k_is)
    (case k_bof => k_is)
    (case a_blong => k_is)
    (case g_blong => k_is)
    (case t_blong => k_is)
    (case q_blong => k_is)
    (case l_blong => k_is)
    (case c_blong => k_is)
    (case k_blong => k_is)
    (case a_blen => k_is)
    (case i_blen => k_is)
    (case l_blen => k_is)
    (case c_blen => k_is)
    (case k_blen => k_is)
    (case a_bitem => k_is)
    (case i_bitem => k_is)
    (case j_bitem => k_is)
    (case l_bitem => k_is)
    (case c_bitem => k_is)
    (case k_bitem => k_is)
    (case a_bhas => k_is)
    (case i_bhas => k_is)
    (case l_bhas => k_is)
    (case c_bhas => k_is)
    (case k_bhas => k_is)
    (case a_beq => k_is)
    (case i_beq => k_is)
    (case l_beq => k_is)
    (case c_beq => k_is)
    (case k_beq => k_is)
    (case pg_W => k_is)
    (case hdi_W => k_is)
    (case po_W => k_is)
    (case sat_W => k_is)
    (case mk_W => k_is)
    (case kc_W => k_is)
    (case ca_W => k_is)
    (case ob_W => k_is)
    (case n__signs_W => k_is)
    (case n_pairs_W => k_is)
    (case rd_W => first | kernel_rfl | decide +kernel | rfl | k_is)
    (case gt_W => first | k_is | kernel_rfl | decide +kernel)
    (case kk_W => first | kernel_rfl | decide +kernel | rfl | k_is)
    (case pg_R => k_is)
    (case hdi_R => k_is)
    (case po_R => k_is)
    (case sat_R => k_is)
    (case mk_R => k_is)
    (case kc_R => k_is)
    (case ca_R => k_is)
    (case ob_R => k_is)
    (case n_old_R => k_is)
    (case n_new_R => k_is)
    (case n_left_R => k_is)
    (case n_right_R => k_is)
    (case rd_R => first | kernel_rfl | decide +kernel | rfl | k_is)
    (case gt_R => first | k_is | kernel_rfl | decide +kernel)
    (case kk_R => first | kernel_rfl | decide +kernel | rfl | k_is)
    (case pg_B => k_is)
    (case hdi_B => k_is)
    (case po_B => k_is)
    (case sat_B => k_is)
    (case mk_B => k_is)
    (case kc_B => k_is)
    (case ca_B => k_is)
    (case ob_B => k_is)
    (case n_weights_B => k_is)
    (case n_rules_B => k_is)
    (case rd_B => first | kernel_rfl | decide +kernel | rfl | k_is)
    (case gt_B => first | k_is | kernel_rfl | decide +kernel)
    (case kk_B => first | kernel_rfl | decide +kernel | rfl | k_is)
    (case ko_NoneType => first | kernel_rfl | decide +kernel | rfl | k_is)
    (case kn_NoneType => first | kernel_rfl | decide +kernel | rfl | k_is)
    (case ko_str => first | kernel_rfl | decide +kernel | rfl | k_is)
    (case kn_str => first | kernel_rfl | decide +kernel | rfl | k_is)
    (case ko_int => first | kernel_rfl | decide +kernel | rfl | k_is)
    (case kn_int => first | kernel_rfl | decide +kernel | rfl | k_is)
    (case ko_tuple => first | kernel_rfl | decide +kernel | rfl | k_is)
    (case kn_tuple => first | kernel_rfl | decide +kernel | rfl | k_is)
    (case ko_dict => first | kernel_rfl | decide +kernel | rfl | k_is)
    (case kn_dict => first | kernel_rfl | decide +kernel | rfl | k_is)
    (case ko_list => first | kernel_rfl | decide +kernel | rfl | k_is)
    (case kn_list => first | kernel_rfl | decide +kernel | rfl | k_is)
    (case kBL => first | kernel_rfl | decide +kernel | rfl | k_is)
    (case nBL => first | kernel_rfl | decide +kernel | rfl | k_is)
    (case kWL => first | kernel_rfl | decide +kernel | rfl | k_is)
    (case kWN => first | kernel_rfl | decide +kernel | rfl | k_is)
    (case aMost => k_is)
    (case fMost => first | kernel_rfl | decide +kernel | rfl | k_is)
    (case aMostB => k_is)
    (case fMostB => first | kernel_rfl | decide +kernel | rfl | k_is)
    (case aL => k_is)
    (case z_len => k_is)
    (case z_int => k_is)
    (case z_abs => k_is)
    (case z_list => k_is)
    (case z_tuple => k_is)
    (case z_range => k_is)
    (case z_repr => k_is)
    (case z_isinstance => k_is)
    (case z_all => k_is)
    (case z_set => k_is)
    (case z_bool => k_is)
    (case z_str => k_is)
    (case z_super => k_is)
    (case z_enumerate => k_is)
    (case z_dict => k_is)
    (case z_sum => k_is)
    (case z_max => k_is)
    (case z_min => k_is)
#print axioms PySem.Challenge.cw_rowgames_k06_books_made_holds
