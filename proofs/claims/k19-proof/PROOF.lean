import PyProof.Rows.All
import Wide.All
import OpenK.AllK
import Wide.FinOn
import HandS.ForMost
import HandS.Defaults
import HandS.MakeKwOnly
import HandS.Property
import HandS.Strs
import PyProof.StrWalks
import HandS.EndBits
import PyProof.ReprRoads
import HandS.Walk
import HandS.StrMore
import HandS.RaiseOp
import HandS.Codes
import HandS.IsInst
import PySem.Challenge.RW_rowgames_k19_rows_refused
import HandS.WordsExc
import HandS.ExcInit
import KE.KExcSuper
import HandS.ExcValue
import HandS.ExcField
import KE.KExcIs
import HandS.Lambda
import PyProof.ReprLen
import HandS.EndOwn
set_option Elab.async false
set_option maxRecDepth 100000
/-! Rules of my own over the hand layer: what a class of one's own says of len, [ ], in; a method called by keywords alone. -/
namespace Rg
open PySem L2 PySem.Spec PyProof.Rows
theorem rvRef (a : Addr) : RelV (.ref a) (Value.ref a) := rfl
section
variable {X : Cx} {CX : CXT} {k : Nat} {C f : Addr} {fd : FuncData} {ps : List Str} {sp : Sp} {E : XK} {pins : List (Addr × Obj)} {σ : L2.St} {H : Hp} {s : Shared}

/-- a def of the text, run one step further in -/
theorem runIn {Q : VK} {us : List Value} {vs : List V} (F : FnOk X.prog X.w X.K X.mg X.base CX k f fd ps sp) (room : Room (k + 1) X.A) (bd : Binds X.K fd ps []) (ex : Passes CX X E)
    (I : Inv X pins σ H s) (r : Vals vs us) (want : sp vs H Q E) : wpAny (model X.prog X.w) X.A.in1 (call (.ref f) us) (EP X pins σ Q) X.xe s := by
  have len : us.length = ps.length := r.length.symm.trans (F.len _ _ _ _ want)
  have bt : BindsTo s fd ⟨us, []⟩ (ps.zip us) := by
    have z := bd s us I.kIn (by rw [List.append_nil]; exact len)
    rw [List.append_nil] at z
    exact z
  refine wpAny_call (codeAny_mono (F.run X.A.in1 X.stack s H ⟨us, []⟩ us vs Q E room.in1 I.env0.in1 bt r want) fun res s' got => ?_)
  rcases res with e | fl
  · exact ex pins σ H s e s' I got
  · cases fl <;> first | exact I.after got | exact False.elim got

/-- the instance at a, as the walk's lemmas want it -/
theorem instAt {a dx : Addr} {fs : List (Str × V)} (I : Inv X pins σ H s) (e : H a = some (.ins C dx fs)) : ∃ od, PySem.W.InstAt s.heap a (PySem.W.instObj C dx) C od := by
  obtain ⟨mA, O, _⟩ := ins_get I.hok e
  obtain ⟨od, J, _⟩ := O.look
  exact ⟨od, J⟩

/-- len(o) -/
def rLen (C : Addr) (sp : Sp) (E : XK) : List V → Hp → VK → Prop := fun xs H Q => ∃ a dx fs, xs = [.ref a] ∧ H a = some (.ins C dx fs) ∧ sp [.ref a] H (fun v H' => ∃ n : Int, v = .int n ∧ 0 ≤ n ∧ n < 2 ^ 63 ∧ Q (.int n) H') E
theorem cr_len (F : FnOk X.prog X.w X.K X.mg X.base CX k f fd ps sp) (room : Room (k + 1) X.A) (bd : Binds X.K fd ps []) (ex : Passes CX X E)
    (at_ : PySem.W.findIn X.K (.ref C) "__len__" = some (some (.ref f))) (fn : PySem.W.isFn X.K (.ref f) = true) : CallR X (.builtin "len") (rLen C sp E) := by
  rintro pins s σ H xs us Q I r ⟨a, dx, fs, rfl, e, want⟩
  obtain ⟨od, J⟩ := instAt I e
  obtain ⟨m, fr⟩ := I.fr
  cases r with
  | cons r0 r1 =>
    cases r1
    cases r0
    refine PySem.W.len_K fr I.ok.mod.kin J at_ fn (thn (runIn F room bd ex I (.cons (rvRef a) .nil) want) ?_)
    rintro u s' ⟨v, H', I', rv, n, rfl, n0, n1, q⟩
    obtain ⟨t, rfl⟩ := rv
    exact ⟨⟨n0, n1⟩, .int n, H', I'.tok _, ⟨_, rfl⟩, q⟩

/-- o[i] -/
def rItem (C : Addr) (sp : Sp) (E : XK) : R2 := fun x y H Q => ∃ a dx fs, x = .ref a ∧ H a = some (.ins C dx fs) ∧ sp [x, y] H Q E
theorem pe_item {a b : Expr} {ta tb : TE} {pos : Pos} (F : FnOk X.prog X.w X.K X.mg X.base CX k f fd ps sp) (room : Room (k + 1) X.A) (bd : Binds X.K fd ps []) (ex : Passes CX X E)
    (at_ : PySem.W.findIn X.K (.ref C) "__getitem__" = some (some (.ref f))) (fi : PySem.W.fnIn X.K f = true) (fn : PySem.W.isFn X.K (.ref f) = true) (ha : PE X a ta) (hb : PE X b tb)
    (hs : ∀ o i, subscripted b true o i = runValue (.builtin "lifetime.subscript" ⟨[o, i], []⟩) := by intro _ _; with_unfolding_all rfl) : PE X (.Subscript a b pos) (tOp (rItem C sp E) ta tb) := by
  refine ⟨fun pins s σ H Q I h => Subscript_ (binT ha hb I h ?_)⟩
  rintro v u s2 x y H2 I2 rx ry ⟨o, dx, fs, rfl, e, want⟩
  obtain rfl : v = Value.ref o := rx
  obtain ⟨od, J⟩ := instAt I2 e
  obtain ⟨m, fr⟩ := I2.fr
  exact PySem.W.sub_K fr I2.ok.mod.kin J at_ fi fn (runIn F room bd ex I2 (.cons (rvRef o) (.cons ry .nil)) want) (hs _ _)

/-- x in o, x not in o -/
def rHas (neg : Bool) (C : Addr) (sp : Sp) (E : XK) : R2 := fun x y H Q => ∃ a dx fs, y = .ref a ∧ H a = some (.ins C dx fs) ∧ sp [y, x] H (fun v H' => ∃ b, v = .bl b ∧ Q (.bl (if neg then !b else b)) H') E
theorem op_has (F : FnOk X.prog X.w X.K X.mg X.base CX k f fd ps sp) (room : Room k X.A) (bd : Binds X.K fd ps []) (ex : Passes CX X E)
    (at_ : PySem.W.findIn X.K (.ref C) "__contains__" = some (some (.ref f))) (fn : PySem.W.isFn X.K (.ref f) = true) : OpR X (compareOp .In) (rHas false C sp E) := by
  rintro pins s σ H x y v u Q I rx ry ⟨a, dx, fs, rfl, e, want⟩
  obtain rfl : u = Value.ref a := ry
  obtain ⟨od, J⟩ := instAt I e
  obtain ⟨m, fr⟩ := I.fr
  refine PySem.W.in_K fr I.ok.mod.kin J at_ fn (thn (run_fn (ds := []) (dvs := []) F room bd .nil ex I (.cons (rvRef a) (.cons rx .nil)) want) ?_)
  rintro z s' ⟨v', H', I', rv, b, rfl, q⟩
  obtain rfl : z = Value.bool b := rv
  exact wpAny_truthy_bool ⟨.bl b, H', I', rfl, q⟩
theorem op_hasnt (F : FnOk X.prog X.w X.K X.mg X.base CX k f fd ps sp) (room : Room k X.A) (bd : Binds X.K fd ps []) (ex : Passes CX X E)
    (at_ : PySem.W.findIn X.K (.ref C) "__contains__" = some (some (.ref f))) (fn : PySem.W.isFn X.K (.ref f) = true) : OpR X (compareOp .NotIn) (rHas true C sp E) := by
  rintro pins s σ H x y v u Q I rx ry ⟨a, dx, fs, rfl, e, want⟩
  obtain rfl : u = Value.ref a := ry
  obtain ⟨od, J⟩ := instAt I e
  obtain ⟨m, fr⟩ := I.fr
  refine PySem.W.notIn_K fr I.ok.mod.kin J at_ fn (thn (run_fn (ds := []) (dvs := []) F room bd .nil ex I (.cons (rvRef a) (.cons rx .nil)) want) ?_)
  rintro z s' ⟨v', H', I', rv, b, rfl, q⟩
  obtain rfl : z = Value.bool b := rv
  exact wpAny_truthy_bool ⟨.bl (!b), H', I', rfl, q⟩

/-- o.m(k = v, ..), no value by place -/
def tMethK (C : Addr) (m : Str) (sp : Sp) (gV : List V → List V → List V) (n : Nat) (E : XK) (ta : TE) (tk : TA) : TE := fun σ H Q => ta σ H fun x H1 => ∃ a dx fs, x = .ref a ∧ H1 a = some (.ins C dx fs) ∧ fs.lookup m = none ∧
  tk σ H1 fun zs H2 => zs.length = n ∧ sp (gV [x] zs) H2 Q E
theorem pe_methK {pl : Sem Bool} {o : Expr} {m : Str} {kws : List Keyword} {ks : List Str} {ta : TE} {tk : TA} {pos apos : Pos} {g : List Value → List Value → List Value} {gV : List V → List V → List V}
    (he : PE X o ta) (c : Cls X.K C) (hm : Meth X.K C m f) (F : FnOk X.prog X.w X.K X.mg X.base CX k f fd ps sp) (room : Room k X.A) (kb : KBn X.K fd ps 1 ks g gV) (ex : Passes CX X E) (hk : PK X kws tk)
    (hall : (backToKw pos (keywordEach kws X.env)).all (·.1.isSome) = true := by rfl) (hks : (backToKw pos (keywordEach kws X.env)).filterMap (·.1) = ks := by rfl)
    (hpl : ((backTo pos (starEach [] X.env)).any (·.1) || (backToKw pos (keywordEach kws X.env)).any (·.1.isNone)) = false := by rfl)
    (ht : eval (.Call (.Attribute o m apos) [] kws pos) X.env = (do
      let ov ← eval o X.env
      standAt apos.atName
      let (f, first) ← holding [ov] (getMethod ov m pl)
      callWith pos f first (backTo pos (starEach [] X.env)) (backToKw pos (keywordEach kws X.env))) := by rfl) :
    PE X (.Call (.Attribute o m apos) [] kws pos) (tMethK C m sp gV ks.length E ta tk) := by
  refine ⟨fun pins s σ H Q I h => PySem.W.methodCall_KW (pl := pl) (thn (he.run pins s σ H _ I h) ?_) ht⟩
  rintro u s1 ⟨x, H1, I1, rx, a, dx, fs, rfl, e, no, q⟩
  obtain rfl : u = Value.ref a := rx
  refine getmeth_ok I1 e c hm no (PySem.W.callWith_KW0 (first := [.ref a]) (h₀ := X.base) I1.ok.mod.kin hm.kp hall (thn (hk.run pos pins s1 σ H1 _ I1 q) ?_) hpl)
  rintro ws s2 ⟨zs, H2, I2, rz, lz, want⟩
  refine ⟨I2.kIn, ?_⟩
  rw [hks]
  have lw : ws.length = ks.length := rz.length.symm.trans lz
  have rr : Vals (gV [V.ref a] zs) (g [Value.ref a] ws) := kb.rel (.cons (rvRef a) .nil) rz
  refine wpAny_call (codeAny_mono (F.run X.A X.stack s2 H2 ⟨[.ref a], ks.zip ws⟩ (g [.ref a] ws) (gV [.ref a] zs) Q E room I2.env0 (kb.to s2 [.ref a] ws I2.kIn rfl lw) rr want) fun res s' got => ?_)
  rcases res with er | fl
  · exact ex pins σ H2 s2 er s' I2 got
  · cases fl <;> first | exact I2.after got | exact False.elim got
end
end Rg
set_option Elab.async false
set_option maxRecDepth 100000
/-! len(set(text)) where no sign stands twice. -/
namespace Rg
open PySem L2 PySem.Spec PyProof.Rows
section
variable {prog : Program} {w : World} {A : Around}
/-- the signs of a text, each a text -/
def signs (x : Str) : List Str := x.cps.toList.map fun c => ⟨#[c]⟩
theorem signs_len (x : Str) : (signs x).length = x.cps.size := by unfold signs; simp
theorem signAt {x : Str} {i : Nat} {v : Value} (h : SignAt x i v) : ∃ z t, (signs x)[i]? = some z ∧ v = .str z t := by
  obtain ⟨c, u, e, rfl⟩ := h
  refine ⟨⟨#[c]⟩, u, ?_, rfl⟩
  unfold signs
  rw [List.getElem?_map, Array.getElem?_toList, e] <;> rfl
theorem take_has {zs : List Str} {i : Nat} {z : Str} (e : zs[i]? = some z) (k : Str) : ((zs.take i).any (· == k) || decide (k = z)) = (zs.take (i + 1)).any (· == k) := by
  rw [List.take_add_one, e, List.any_append]
  congr 1
  by_cases h : k = z
  · subst h; simp
  · have h' : (z == k) = false := by simpa using fun q : z = k => h q.symm
    simp [h, h']
theorem take_no {zs : List Str} {i : Nat} {z : Str} (nd : zs.Nodup) (e : zs[i]? = some z) : (zs.take i).any (· == z) = false := by
  rw [Bool.eq_false_iff]
  intro q
  obtain ⟨y, hy, ey⟩ := List.any_eq_true.mp q
  have : y = z := by simpa using ey
  subst this
  obtain ⟨j, hj, ej⟩ := List.getElem_of_mem hy
  rw [List.length_take] at hj
  obtain ⟨hi, ei⟩ := List.getElem?_eq_some_iff.mp e
  rw [List.getElem_take] at ej
  exact absurd (ej.trans ei.symm) (List.pairwise_iff_getElem.mp nd j i (by omega) hi (by omega))

/-- the loop of set(..) over a walk that hands out the texts zs -/
theorem fill {R : Result → Shared → Prop} {it S : Addr} {fp wr : List Addr} {G : Array GenState → Array GenState → Prop} {n : Nat} {P : Nat → Value → Prop} {St : Nat → Shared → Prop}
    (W : WalksS prog w A.in1 it fp wr G n P St) (far : S ∉ fp) (zs : List Str) (nd : zs.Nodup) (zn : zs.length = n) (few : n + 1 < scanBound) (val : ∀ i v, P i v → ∃ z t, zs[i]? = some z ∧ v = .str z t) (j : Nat) :
    ∀ (i : Nat) (s : Shared), i + j = n → St i s → s.heap.SetOf (PySem.strKind prog w) S (fun k => (zs.take i).any (· == k)) i →
      (∀ s', Moved (S :: wr) G s s' → s'.heap.SetOf (PySem.strKind prog w) S (fun k => (zs.take n).any (· == k)) n → R (.ok (.ret .none)) s') →
      codeAny (model prog w) A (.builtin "set.update.loop" ⟨[.ref S, .ref it], []⟩) R s := by
  have far' : S ∉ wr := fun q => far (W.sub _ q)
  have more : ∀ b ∈ wr, b ∈ S :: wr := fun _ q => List.mem_cons_of_mem _ q
  have keepS : ∀ {s s' : Shared} {f : Str → Bool} {m : Nat}, Moved wr G s s' → s.heap.SetOf (PySem.strKind prog w) S f m → s'.heap.SetOf (PySem.strKind prog w) S f m :=
    fun mv ⟨o, es, ep, t, ho, r⟩ => ⟨o, es, ep, t, mv.heap S _ far' ho, r⟩
  induction j with
  | zero =>
    intro i s hi st hS out
    obtain rfl : i = n := by omega
    refine codeAny_builtin PyProof.Rows.F.entry_set_update_loop ?_; rw [Around.under_plainId PyProof.Rows.F.plain_set_update_loop _]
    show wpAny _ A.in1 (pyNext (.ref it) >>= _) _ _ s; refine wpAny_bind (W.done s _ _ st fun s' mv => ?_)
    exact wpAny_pure (out s' (mv.mono more) (keepS mv hS))
  | succ j ih =>
    intro i s hi st hS out
    refine codeAny_builtin PyProof.Rows.F.entry_set_update_loop ?_; rw [Around.under_plainId PyProof.Rows.F.plain_set_update_loop _]
    show wpAny _ A.in1 (pyNext (.ref it) >>= _) _ _ s; refine wpAny_bind (W.item i s _ _ (by omega) st fun v s' hP st' mv => ?_)
    obtain ⟨z, t, ez, rfl⟩ := val i v hP
    have hS' := keepS mv hS
    show wpAny _ A.in1 (holding [Value.str z t] (setAdd S (.str z t)) >>= _) _ _ s'
    refine wpAny_bind (wpAny_holding ?_); unfold setAdd; refine wpAny_holding (wpAny_bind ((PySem.strKind prog w).pyHash (k := z) (strKind_is _ _ _ _) ?_))
    refine wpAny_setAddHashed_of (knd := PySem.strKind prog w) (s := { s' with toks := s'.toks + 1 }) (strKind_is _ _ _ _) rfl hS' (by omega) fun h' same new => ?_
    have new' : h'.SetOf (PySem.strKind prog w) S (fun k => (zs.take (i + 1)).any (· == k)) (i + 1) :=
      SetOf_congr new (fun k => take_has ez k) (by rw [take_no nd ez]; rfl)
    have other : ∀ b, b ≠ S → ∀ o, s'.heap.get? b = some o → h'.get? b = some o := fun b hb o e => (same.2 b hb).trans e
    refine wpAny_pure ⟨plainId_quiet PyProof.Rows.F.plain_set_update_loop _, ih (i + 1) _ (by omega) (W.frame _ s' _ _ st' (Nat.le_succ _) fun b hb o e => other b (fun q => far (q ▸ hb)) o e) new' fun s2 mv2 hS2 => ?_⟩
    exact out s2 (Moved.trans W.gtrans ((mv.mono more).then_heap (Nat.le_succ _) fun b o hb e => other b (fun q => hb (q ▸ List.mem_cons_self)) o e) mv2) hS2
end

section
variable {prog : Program} {w : World} {A : Around} {E : Value → Shared → Prop} {s : Shared}
abbrev bare (led : Bool) : Obj := { cls := .type "set", dict := none, data := .set #[] 0 (.fresh 0 0 led) }
set_option maxHeartbeats 3200000 in
theorem set_text {x : Str} {t : Tok} {Q : Value → Shared → Prop} (calm : A.handled = none) (nd : (signs x).Nodup) (few : x.cps.size + 1 < scanBound)
    (out : ∀ (h' : Heap) (tk : Nat), h'.SetOf (PySem.strKind prog w) s.heap.objs.size (fun k => ((signs x).take x.cps.size).any (· == k)) x.cps.size →
      (∀ b o, s.heap.get? b = some o → h'.get? b = some o) → Q (.ref s.heap.objs.size) { s with heap := h', toks := tk }) :
    wpAny (model prog w) A (call (.type "set") [.str x t]) Q E s := by
  obtain ⟨c, tl, hmro⟩ := PySem.F.called_set.mro
  have hmade := PySem.F.called_set.made
  have hsub := PySem.F.called_set.sub
  refine wpAny_call (codeAny_of_tree ?_); show wpAny _ _ (callAny (.type "set") _) _ _ _
  refine wpAny_pure ⟨Code.quiet_builtin _ (by decide +kernel), codeAny_builtin PySem.F.entry_type_call ?_⟩
  rw [Around.under_plain (weight_type_call_type "set" [.str x t] []) rfl]
  have h1 := PySem.F.called_set.notType
  have h2 := PySem.F.called_set.canCreate
  have hct := PySem.F.typeCall_set_1 (.str x t)
  repeat (any_goals (first | assumption | wp_step))
  refine codeAny_mono (code_set_new_1 (.str x t) (E := E) (Q₁ := fun v s1 => ∃ led : Bool, v = .ref s.heap.objs.size ∧ s1 = { s with heap := s.heap.push (bare led) }) fun led => ⟨led, rfl, rfl⟩) fun r s1 got => ?_
  rcases r with e | fl
  · exact got
  cases fl <;> first | exact got.elim | skip
  obtain ⟨led, rfl, rfl⟩ := got
  have hS : (s.heap.push (bare led)).get? s.heap.objs.size = some (bare led) := Heap.get?_push_size _ rfl
  have hT : Shared.TypeIs { s with heap := s.heap.push (bare led) } (.ref s.heap.objs.size) "set" := ⟨_, hS, rfl⟩
  have hli := PySem.F.called_set.init.lookup
  have hbi := PySem.F.called_set.init.bind (.ref s.heap.objs.size)
  repeat (any_goals (first | assumption | wp_step))
  refine codeAny_mono (codeAny_call_builtin (R := wants (fun r s2 => r = .none ∧ ∃ h' tk, s2 = { s with heap := h', toks := tk } ∧ h'.SetOf (PySem.strKind prog w) s.heap.objs.size (fun k => ((signs x).take x.cps.size).any (· == k)) x.cps.size ∧
      (∀ b o, s.heap.get? b = some o → h'.get? b = some o)) E) PySem.F.called_set.init.plain PySem.F.entry_set_init (check_set_init_1 hT ?_)) fun r2 s2 got2 => ?_
  · have e1 := PySem.F.sub_str_set
    have e2 := PySem.F.sub_str_frozenset
    unfold Builtin.«set.__init__» noKeywords Builtin.Frozenset.updateFrom
    generalize hPI : pyIter = PI
    wp_walk
    subst hPI
    refine wpAny_pyIter_str fun o St W st0 => wpAny_bind (wpAny_runValue ?_)
    have lt : s.heap.objs.size < (s.heap.push (bare led)).objs.size := by rw [Heap.size_push]; exact Nat.lt_succ_self _
    have apart : s.heap.objs.size ∉ [(s.heap.push (bare led)).objs.size] := fun q => absurd (List.mem_singleton.mp q) (Nat.ne_of_lt lt)
    refine fill ((W _ (by simp [calm])).toS) apart (signs x) nd (signs_len x) few (fun i v q => signAt q) x.cps.size 0 _ (Nat.zero_add _) st0 ?_ ?_
    · exact SetOf_congr ((setObjOf_fresh (knd := PySem.strKind prog w) led).setOf (Heap.get?_push_of_some _ hS) (by unfold scanBound; omega)) (fun _ => rfl) rfl
    · rintro ⟨h', g', d', tk', os'⟩ mv hS'
      obtain rfl : g' = s.gens := mv.gens
      obtain rfl : d' = s.drawn := mv.drawn
      obtain rfl : os' = s.os := mv.os
      refine wpAny_pure (wpAny_pure ⟨rfl, h', tk', rfl, hS', fun b o q => ?_⟩)
      have nb : b < s.heap.objs.size := Heap.lt_size q
      refine mv.heap b o ?_ (Heap.get?_push_of_some _ (Heap.get?_push_of_some _ q))
      intro m
      rcases List.mem_cons.mp m with e | m
      · exact absurd e (Nat.ne_of_lt nb)
      · exact absurd (List.mem_singleton.mp m) (Nat.ne_of_lt (Nat.lt_trans nb lt))
  · rcases r2 with e | fl2
    · exact got2
    cases fl2 <;> first | exact got2.elim | skip
    obtain ⟨rfl, h', tk, rfl, hS', keep⟩ := got2
    repeat (any_goals (first | assumption | wp_step))
    exact out _ _ hS' keep
end

section
variable {X : Cx}
/-- len(set(x)), x a text of few signs, none twice -/
def tLenSet (ta : TE) : TE := fun σ H Q => ta σ H fun v H1 => ∃ x : Str, v = .str x ∧ (signs x).Nodup ∧ x.cps.size ≤ 100 ∧ Q (.int x.cps.size) H1
theorem pe_lenSetT {a : Expr} {ta : TE} {p p2 q pos : Pos} (hc : X.calm = true) (g1 : Gl X "len") (m1 : X.mg "len" = none) (g2 : Gl X "set") (m2 : X.mg "set" = none) (ha : PE X a ta)
    (na : starEach [a] X.env = (false, eval a X.env) :: starEach [] X.env := by rfl) : PE X (.Call (.Name "len" p) [.Call (.Name "set" p2) [a] [] q] [] pos) (tLenSet ta) := by
  refine ⟨fun pins s σ H Q I h => Call_ (ld_blt I g1 m1 PySem.boot_len (callWith_builtin1 (args_cons (Call_ (ld_blt I g2 m2 boot_set (callWith_type1 (args_cons (thn (ha.run pins s σ H _ I h) ?_) na) na rfl))) rfl) rfl rfl))⟩
  rintro v s1 ⟨y, H1, I1, r1, x, rfl, nd, few, q1⟩
  obtain ⟨t, rfl⟩ := r1
  refine args_nil (set_text (I1.ok.hd hc) nd (by unfold scanBound; omega) fun h' tk hS keep => args_nil ?_)
  obtain ⟨o, es, ep, tb, ho, hex, hd, _, _, _, hf, hn⟩ := hS
  have I2 : Inv X pins σ H1 { s1 with heap := h', toks := tk } := I1.kept fun b o e => keep b o e
  exact call_len_set ho hex hd hf (by rw [hn]; omega) ⟨.int x.cps.size, H1, I2.tok _, ⟨_, by rw [hn]⟩, q1⟩
end
end Rg
set_option Elab.async false
set_option maxRecDepth 100000
/-! A def that is told that no repr runs around it; repr of data; the law's end with such a def. -/
namespace Rg
open PySem L2 PySem.Spec PyProof.Rows

/-- as FnOk, where nothing guards around the call -/
structure FnG (P : Program) (w : World) (K : PySem.W.Frag) (mg : Str → Option Value) (base : Heap) (CX : CXT) (k : Nat) (f : Addr) (fd : FuncData) (ps : List Str) (sp : Sp) : Prop where
  len : ∀ vs H Q E, sp vs H Q E → vs.length = ps.length
  run : ∀ (A : Around) (outer : List Env) (s : Shared) (H : Hp) (args : Args) (us : List Value) (vs : List V) (Q : VK) (E : XK), A.guards = some [] → Room k A → Env0 P w K mg base A outer s H → BindsTo s fd args (ps.zip us) → Vals vs us → sp vs H Q E →
    codeAny (model P w) A (.call (.ref f) args) (CR CX outer P w H s Q E) s

section
variable {P : Program} {w : World} {K : PySem.W.Frag} {mg : Str → Option Value} {base : Heap}
theorem funG {x qual : Str} {st : Stmt} {f : Addr} {fd : FuncData} {N ps : List Str} {k : Nat} {sp : Sp} (F : Fun K x qual st f fd) (S : FnScope N ps (defScope st)) (len : ∀ vs H Q E, sp vs H Q E → vs.length = ps.length)
    (body : ∀ (cdv : Value) (A : Around) (outer : List Env) (s : Shared) (H : Hp) (vs : List V) (Q : VK) (E : XK), A.guards = some [] → Room k (A.deeper (envOfC qual (defScope st) s.heap.objs.size f cdv)) → sp vs H Q E →
      ∃ t, PSs (cxOf CX0 P w K mg base N qual (defScope st) f cdv A outer s H E).nox (defBody st) t ∧ t { nx := fun _ H' => Q .non H', rt := Q } (start N vs) H) : FnG P w K mg base CX0 (k + 1) f fd ps sp := by
  obtain ⟨oc, od, kV, doc, pm, an, cdv, ct, osl, rfl, lk, hcd⟩ := F.ex
  refine ⟨len, fun A outer s H args us vs Q E hg hr e0 hb r want => ?_⟩
  have there : ∀ b o, base.get? b = some o → s.heap.get? b = some o := fun b o e => (e0.bs b o e).1
  have KX := e0.mod.kin.keeps there
  have kinds : ∀ y ∈ ps.zip us, (defScope st).names.lookup y.1 = some .local ∨ ((defScope st).names.lookup y.1 = some .cell ∧ ((cellsFrom (s.heap.objs.size + 1) (defScope st).names []).lookup y.1).isSome = true) := by
    rintro ⟨n, v⟩ hy
    rcases S.par n (List.of_mem_zip hy).1 with q | q
    · exact Or.inl q
    · exact Or.inr ⟨q, PySem.W.cellsFrom_some _ _ _ (Or.inl q)⟩
  refine codeAny_call_function hr.depth (KX _ _ lk) rfl S.co S.gen rfl (PySem.W.codeRec_of KX hcd) (hb _ _ _ _ (wpAny_newFunctionEnv_cells S.kind kinds ?_))
  intro env he s1 x
  subst he
  obtain ⟨t, ht, q⟩ := body cdv A outer s H vs Q E hg (hr.deeper _) want
  have I : Inv (cxOf CX0 P w K mg base N qual (defScope st) f cdv A outer s H E) [] (start N vs) H s1 := inv_start S hr.hd e0 (len _ _ _ _ want) r x
  refine ⟨(e0.mod.nolimit.keeps there).keeps x.toInCall.keep, codeAny_func (wpAny_mono (ht.nox.run [] s1 (start N vs) H _ I q) ?_ fun _ _ z => z)⟩
  intro fl s2 out
  cases fl with
  | ret u => obtain ⟨v, _, H2, J, rv, q2⟩ := out; exact ⟨v, H2, J.os, J.bare, J.base, J.hok, rv, q2⟩
  | next => obtain ⟨_, H2, J, q2⟩ := out; exact ⟨V.non, H2, J.os, J.bare, J.base, J.hok, rfl, q2⟩
  | brk => obtain ⟨_, _, _, q2⟩ := out; exact q2.elim
  | cont => obtain ⟨_, _, _, q2⟩ := out; exact q2.elim
end

section
variable {X : Cx} {CX : CXT} {k : Nat} {f : Addr} {fd : FuncData} {ps : List Str} {sp : Sp} {E : XK} {x : Str} {p pos : Pos} {e : Expr} {es : List Expr} {t : TA}
/-- f(e, ..), f such a def -/
theorem pe_callG (hg0 : X.A.guards = some []) (F : FnG X.prog X.w X.K X.mg X.base CX k f fd ps sp) (hr : Room k X.A) (hg : Gl X x) (hm : X.mg x = some (.ref f)) (hk : PySem.W.keepIn X.K (.ref f) = true) (bd : Binds X.K fd ps []) (ex : Passes CX X E)
    (ha : PA X (e :: es) t) (hdb : (x == ("__debug__" : Str)) = false := by decide) (he : starEach (e :: es) X.env = (false, eval e X.env) :: starEach es X.env := by rfl) (hpl : (backTo pos (starEach es X.env)).any (·.1) = false := by rfl) :
    PE X (.Call (.Name x p) (e :: es) [] pos) (tCall sp [] E t) := by
  refine ⟨fun pins s σ H Q I h => wpAny_Call_Name_kw (ld_glob I hg hm (PySem.W.callWith_K (h₀ := X.base) I.ok.mod.kin hk (thn (ha.run pos pins s σ H _ I h) ?_) he hpl) hdb)⟩
  rintro us s1 ⟨vs, H1, I1, r, want⟩
  rw [List.append_nil] at want
  refine ⟨I1.kIn, ?_⟩
  have len : us.length = ps.length := r.length.symm.trans (F.len _ _ _ _ want)
  have bt : BindsTo s1 fd ⟨us, []⟩ (ps.zip us) := by
    have z := bd s1 us I1.kIn (by rw [List.append_nil]; exact len)
    rw [List.append_nil] at z
    exact z
  refine wpAny_call (codeAny_mono (F.run X.A X.stack s1 H1 ⟨us, []⟩ us vs Q E hg0 hr I1.env0 bt r want) fun res s' got => ?_)
  rcases res with er | fl
  · exact ex pins σ H1 s1 er s' I1 got
  · cases fl <;> first | exact I1.after got | exact False.elim got
end

/-! ### repr -/
section
/-- how a value of the layer reads as data: no dict, no object of one's own -/
inductive Rp (K : PySem.W.Frag) (H : Hp) : V → PyData → Prop
  | non : Rp K H .non .none
  | bl (b) : Rp K H (.bl b) (.bool b)
  | int (i) : Rp K H (.int i) (.int i)
  | str (x) : Rp K H (.str x) (.str x)
  | lst {a xs ds} : SqL K H a xs → Paired (Rp K H) xs ds → Rp K H (.ref a) (.list ds)
  | tup {a xs ds} : SqT K H a xs → Paired (Rp K H) xs ds → Rp K H (.ref a) (.tuple ds)
variable {X : Cx} {pins : List (Addr × Obj)} {σ : L2.St} {H : Hp} {s : Shared}
mutual
theorem Rp.reads (I : Inv X pins σ H s) : ∀ {v : V} {d : PyData} {u : Value}, Rp X.K H v d → RelV v u → ∃ as, Reads s.heap u d as
  | _, _, _, .non, r => by cases r; exact ⟨_, .none⟩
  | _, _, _, .bl b, r => by cases r; exact ⟨_, .bool b⟩
  | _, _, _, .int i, r => by obtain ⟨t, rfl⟩ := r; exact ⟨_, .int i t⟩
  | _, _, _, .str x, r => by obtain ⟨t, rfl⟩ := r; exact ⟨_, .str x t⟩
  | _, _, _, .lst h all, r => by
    cases r
    obtain ⟨its, rv, ⟨o, n, eo, hc, _, hd⟩, _⟩ := I.list h
    obtain ⟨as, ra⟩ := Rp.readsAll I all rv
    exact ⟨_, .list eo hc hd ra⟩
  | _, _, _, .tup h all, r => by
    cases r
    obtain ⟨its, rv, ⟨o, eo, hc, n, hd⟩, _⟩ := I.tuple h
    obtain ⟨as, ra⟩ := Rp.readsAll I all rv
    exact ⟨_, .tuple eo hc hd ra⟩
theorem Rp.readsAll (I : Inv X pins σ H s) : ∀ {vs : List V} {ds : List PyData} {us : List Value}, Paired (Rp X.K H) vs ds → Vals vs us → ∃ as, ReadsAll s.heap us ds as
  | _, _, _, .nil, .nil => ⟨_, .nil⟩
  | _, _, _, .cons a b, .cons r t => by
    obtain ⟨as, h1⟩ := Rp.reads I a r
    obtain ⟨bs, h2⟩ := Rp.readsAll I b t
    exact ⟨_, .cons h1 h2⟩
end
/-- repr(v), v a list of data -/
def rRepr (K : PySem.W.Frag) : List V → Hp → VK → Prop := fun vs H Q => ∃ a d, vs = [.ref a] ∧ Rp K H (.ref a) d ∧ d.showable = true ∧ d.hasDict = false ∧ d.depth ≤ 20 ∧ d.shown.length ≤ sizeLine ∧ Q (.str d.shown) H
theorem cr_repr (hg : X.A.guards = some []) (hr : Room 0 X.A) : CallR X (.builtin "repr") (rRepr X.K) := by
  rintro pins s σ H xs us Q I r ⟨a, d, rfl, rd, h1, h2, h3, h4, q⟩
  cases r with
  | cons r0 r1 =>
    cases r1
    obtain ⟨as, R⟩ := Rp.reads I rd r0
    cases r0
    refine repr_of_reads' R h1 (fun z => absurd (h2.symm.trans z) Bool.false_ne_true) hg (by have := hr.un; omega) (fun _ _ e => e) (fun h' u tk keep => ?_) h4
    exact ⟨.str d.shown, H, I.kept keep, ⟨u, rfl⟩, q⟩
end

/-! ### the law's end -/
theorem lawG {P : Program} {w : World} {K : PySem.W.Frag} {mg mb : Str → Option Value} {k : Nat} {fa a : Addr} {fd : FuncData} {x : Str} {sp : Sp} {s₁ : Shared} {vs : List Value} {ns : List Int}
    (KX : K.In s₁.heap) (hns : s₁.heap.Ns mainGlobals mg) (hb : s₁.heap.Ns builtinsNs mb) (hbb : ∀ x : Str, x ≠ "__name__" → mb x = bootBuiltins x) (hlim : s₁.heap.NoLimit) (hg : s₁.gens = #[])
    (ha : s₁.heap.get? a = some { cls := .type "list", data := .seq vs.toArray }) (hi : IntsAre vs ns) (hl : ns.length ≤ sizeLine) (hr : Room k callerA)
    (F : ∀ base : Heap, K.In base → base.Ns mainGlobals mg → FnG P w K mg base CX0 k fa fd [x] sp) (bind : ∀ (s : Shared) (u : Value), BindsTo s fd ⟨[u], []⟩ [(x, u)])
    (want : ∀ H : Hp, Only H → SqL K H a (ns.map V.int) → sp [.ref a] H (fun v _ => v = .bl true) fun _ _ _ => False) :
    codeAny (model P w) callerA (.call (.ref fa) ⟨[.ref a], []⟩) (fun r s' => r = .ok (.ret (.bool true)) ∧ OldK s₁.heap s'.heap ∧ s'.os = s₁.os ∧ AllBare s'.gens) s₁ := by
  have rv := vals_ints hi
  have ln := hi.length
  -- H tracks the script at most
  have main : ∀ H : Hp, Only H → SqL K H a (ns.map V.int) → HOk P w H s₁.heap → (∀ b, H b ≠ none → b = a ∧ K.lookup a = none) →
      codeAny (model P w) callerA (.call (.ref fa) ⟨[.ref a], []⟩) (fun r s' => r = .ok (.ret (.bool true)) ∧ OldK s₁.heap s'.heap ∧ s'.os = s₁.os ∧ AllBare s'.gens) s₁ := by
    intro H only seq hok few
    have none_of : ∀ {b : Addr}, ¬ (b = a ∧ K.lookup a = none) → H b = none := fun {b} z => Decidable.by_contra fun q => z (few b q)
    have dicts : ∀ {b : Addr} {m : Str → Option Value}, s₁.heap.Ns b m → (hidT s₁.heap H).Ns b m := by
      rintro b m ⟨o, es, ep, e, d, r⟩
      refine ⟨o, es, ep, hidT_get e (none_of ?_), d, r⟩
      rintro ⟨rfl, _⟩
      cases ha.symm.trans e
      cases d
    have KB : K.In (hidT s₁.heap H) := fun b o e => hidT_get (KX b o e) (none_of (by
      rintro ⟨rfl, z⟩
      cases z.symm.trans e))
    have M : Mod K mg (hidT s₁.heap H) := ⟨KB, dicts hns, ⟨mb, dicts hb, hbb⟩, let ⟨mc, h1, h2⟩ := hlim; ⟨mc, dicts h1, h2⟩⟩
    have none0 : ∀ b, b ∉ frs ([] : List Env) := fun b => by unfold frs; simp
    have e0 : Env0 P w K mg (hidT s₁.heap H) callerA [] s₁ H := ⟨rfl, M, fun b o e => of_hidT e, Nat.le_of_eq (hidT_size _ _), trivial, fun b q => absurd q (none0 b), hok, .of_eq hg⟩
    refine codeAny_mono ((F _ KB (dicts hns)).run callerA [] s₁ H ⟨[.ref a], []⟩ [.ref a] [.ref a] _ _ rfl hr e0 (bind s₁ (.ref a)) (.cons rfl .nil) (want H only seq)) fun r s' got => ?_
    rcases r with er | fl
    · exact False.elim got
    cases fl <;> first | exact False.elim got | skip
    obtain ⟨v, H', os, bare, un, hok', r', q⟩ := got
    subst q
    cases r'
    refine ⟨rfl, OldK.of_keep fun b o e => ?_, os, bare⟩
    rcases only b with z | ⟨ob, xs, z⟩
    · exact un.keep b o e z (none0 b) (by simp)
    · obtain ⟨e1, _⟩ := hok b _ z
      obtain ⟨e2, _⟩ := hok' b _ (un.frzs b ob _ z)
      cases e1.symm.trans e
      exact e2
  cases hk : K.lookup a with
  | some o =>
    have e := KX a o hk
    cases ha.symm.trans e
    exact main (fun _ => none) (fun _ => Or.inl rfl) (Or.inr ⟨_, vs.toArray, _, hk, rfl, rfl, rfl, by rw [List.size_toArray, ln]; exact hl, by simpa using rv⟩) (fun b u z => by cases (show (none : Option HO) = some u from z)) fun b z => absurd rfl z
  | none =>
    let ob : Obj := { cls := .type "list", data := .seq vs.toArray }
    have at_ : ∀ {b : Addr} {u : HO}, (if b = a then some (HO.frz ob (.lst (ns.map V.int))) else none) = some u → b = a ∧ u = HO.frz ob (.lst (ns.map V.int)) := by
      intro b u z
      by_cases q : b = a
      · rw [if_pos q] at z; exact ⟨q, (Option.some.inj z).symm⟩
      · rw [if_neg q] at z; cases z
    refine main (fun b => if b = a then some (.frz ob (.lst (ns.map V.int))) else none) (fun b => ?_) (Or.inl (Or.inr ⟨ob, if_pos rfl⟩)) (fun b u z => ?_) (fun b z => ?_)
    · by_cases q : b = a
      · exact Or.inr ⟨_, _, if_pos q⟩
      · exact Or.inl (if_neg q)
    · obtain ⟨rfl, rfl⟩ := at_ z
      exact ⟨ha, by rw [List.length_map]; exact hl, vs, _, rv, ha⟩
    · cases q : (if b = a then some (HO.frz ob (.lst (ns.map V.int))) else none) with
      | none => exact absurd q z
      | some u => exact ⟨(at_ q).1, hk⟩
theorem walkG {l : PySem.W.OpenLaw} {n k : Nat} {q : Program} {loose : List Str} {XP : (Str → Option Value) → Heap → Prop} {YP : World → Heap → Prop} {d : DefRec} {K : Params → PySem.W.Frag} {sp : World → Sp} {x : Str}
    (hn : l.most = some n) (hn2 : n ≤ sizeLine) (hdf : d.params.defaults = []) (hr : Room k callerA) (hY : ∀ (w : World) (h : Heap), YP w h → (K w.params).In h)
    (F : ∀ (w : World) (mg : Str → Option Value) (fa : Addr) (h : Heap), (K w.params).In h → h.Ns mainGlobals mg → mg d.name = some (.ref fa) →
      ∃ fd : FuncData, (∀ (s : Shared) (u : Value), BindsTo s fd ⟨[u], []⟩ [(x, u)]) ∧ ∀ base : Heap, (K w.params).In base → base.Ns mainGlobals mg → FnG l.prog w (K w.params) mg base CX0 k fa fd [x] (sp w))
    (want : ∀ (w : World) (H : Hp) (a : Addr) (ns : List Int), ns.length ≤ n → (∀ z ∈ ns, Builtin.Int.intBits z ≤ 1048576) → Only H → SqL (K w.params) H a (ns.map V.int) → sp w [.ref a] H (fun v _ => v = .bl true) fun _ _ _ => False) :
    PySem.W.WalkO q loose XP YP l.row.toRowW d [] (fun f vs => PySem.call f vs) := by
  refine Att.attach_callB hn hdf fun w s₀ s₁ mg mb fa o pm cd doc a vs ns G Y ho hd hcd hmg hobj hints hlen hbits hg => ?_
  obtain ⟨fd, hb, hF⟩ := F w mg fa _ (hY w _ Y) G.T.g hmg
  exact lawG (hY w _ Y) G.T.g G.T.b G.T.builtins G.T.nolimit hg hobj hints (Nat.le_trans hlen hn2) hr hF hb fun H only seq => want w H a ns hlen hbits only seq
end Rg
set_option Elab.async false
set_option maxRecDepth 100000
namespace Kx
open PySem L2 PySem.Spec PyProof.Rows Rg
def top (i : Nat) : Stmt := PySem.Challenge.pw_rowgames_k19_rows_refused.main.body.getD i (.Pass ⟨0, 0, 0, 0⟩)
abbrev sPen : Stmt := top 43
abbrev sDraw : Stmt := top 44
abbrev sPick : Stmt := top 45

/-! ### heaps that grow, but for the pen -/
def Ext1 (p : Addr) (H H' : Hp) : Prop := ∀ b o, b ≠ p → H b = some o → H' b = some o
theorem Ext1.refl (p : Addr) (H : Hp) : Ext1 p H H := fun _ _ _ e => e
theorem Ext1.trans {p : Addr} {H H1 H2 : Hp} (a : Ext1 p H H1) (b : Ext1 p H1 H2) : Ext1 p H H2 := fun c o n e => b c o n (a c o n e)
theorem Ext1.new {p q : Addr} {H : Hp} {o : HO} (h : H q = none) : Ext1 p H (upd H q o) := fun b u _ e => by rw [upd_ne (ne_of_none e h)]; exact e
theorem Ext1.put {p : Addr} {H : Hp} {o : HO} : Ext1 p H (upd H p o) := fun b u n e => by rw [upd_ne n]; exact e

/-- at p the pen: at most n cells were taken -/
def PenAt (c : Addr) (n : Nat) (H : Hp) (p : Addr) : Prop := ∃ (ns : List Int) (a g : Int), H p = some (.lst [.ref c, .int a, .int g]) ∧ H c = some (.lst (ns.map V.int)) ∧ c ≠ p ∧ ns.length ≤ 63 ∧ 0 ≤ a ∧ a ≤ n
theorem PenAt.mono {c : Addr} {n m : Nat} {H : Hp} {p : Addr} (h : PenAt c n H p) (l : n ≤ m) : PenAt c m H p := by
  obtain ⟨ns, a, g, h1, h2, h3, h4, h5, h6⟩ := h
  exact ⟨ns, a, g, h1, h2, h3, h4, h5, by omega⟩
theorem PenAt.ext {c : Addr} {n : Nat} {H H' : Hp} {p : Addr} (h : PenAt c n H p) (e : ∀ b o, H b = some o → H' b = some o) : PenAt c n H' p := by
  obtain ⟨ns, a, g, h1, h2, h3⟩ := h
  exact ⟨ns, a, g, e _ _ h1, e _ _ h2, h3⟩
theorem PenAt.new {c : Addr} {n : Nat} {H : Hp} {p q : Addr} {o : HO} (h : PenAt c n H p) (f : H q = none) : PenAt c n (upd H q o) p := h.ext fun b u e => by rw [upd_ne (ne_of_none e f)]; exact e

/-! ### what the built-in names are -/
structure Txt (mg : Str → Option Value) : Prop where
  len : mg "len" = none
  int : mg "int" = none
  abs : mg "abs" = none
  list : mg "list" = none
  tuple : mg "tuple" = none
  range : mg "range" = none
  repr : mg "repr" = none
  isi : mg "isinstance" = none
  all : mg "all" = none
  set : mg "set" = none

/-! ### _law_draw -/
def spDraw : Sp := fun vs H Q _ => ∃ (c p : Addr) (m : Int) (n : Nat), vs = [.ref p, .int m] ∧ 0 < m ∧ m < 1000000 ∧ n ≤ 1000000 ∧ PenAt c n H p ∧ ∀ r H', 0 ≤ r → r < m → PenAt c (n + 1) H' p → Ext1 p H H' → Q (.int r) H'

theorem dpInts (K : PySem.W.Frag) (H : Hp) : ∀ ns : List Int, DpAll K H (ns.map V.int) (ns.map PyData.int)
  | [] => .nil
  | n :: r => .cons (.int n) (dpInts K H r)
theorem layInts : ∀ ns : List Int, PyData.canLayAll0 (ns.map PyData.int) = true
  | [] => rfl
  | _ :: r => layInts r
theorem depthInts : ∀ ns : List Int, PyData.depthAll (ns.map PyData.int) = 0
  | [] => rfl
  | _ :: r => by
    show max 0 (PyData.depthAll (r.map PyData.int)) = 0
    rw [depthInts r] <;> rfl
theorem shapedInts (ns : List Int) : SeqAt.shaped (.list (ns.map PyData.int)) = true := by
  show (PyData.canLayAll0 (ns.map PyData.int) && decide (PyData.depthAll (ns.map PyData.int) + 1 ≤ 64)) = true
  rw [layInts, depthInts] <;> rfl
theorem mixed1 {z a c d n : Int} (n0 : 0 < n) (nb : n < 2 ^ 32) (c0 : 0 ≤ c) (cb : c ≤ 100000) (d0 : 0 ≤ d) (db : d ≤ 100000) (a0 : 0 ≤ a) (ab : a ≤ 1000000) : (z % n + c * a + d).natAbs < 2 ^ 64 := by
  have h1 := Int.emod_nonneg z (b := n) (by omega)
  have h2 := Int.emod_lt_of_pos z n0
  have h3 : c * a ≤ 100000 * 1000000 := Int.mul_le_mul cb ab a0 (by omega)
  have h4 : 0 ≤ c * a := Int.mul_nonneg c0 a0
  omega
theorem mixed2 {x a b c d n : Int} (x0 : 0 ≤ x) (xb : x < n) (nb : n < 2 ^ 32) (b0 : 0 ≤ b) (bb : b ≤ 100000) (c0 : 0 ≤ c) (cb : c ≤ 100000) (d0 : 0 ≤ d) (db : d ≤ 100000) (a0 : 0 ≤ a) (ab : a ≤ 1000000) : (x * (2 * a + b) + c * a * a + d).natAbs < 2 ^ 64 := by
  have h1 : x * (2 * a + b) ≤ 2 ^ 32 * 2100000 := Int.mul_le_mul (by omega) (by omega) (by omega) (by omega)
  have h2 : 0 ≤ x * (2 * a + b) := Int.mul_nonneg x0 (by omega)
  have h3 : c * a ≤ 100000 * 1000000 := Int.mul_le_mul cb ab a0 (by omega)
  have h4 : 0 ≤ c * a := Int.mul_nonneg c0 a0
  have h5 : c * a * a ≤ 100000 * 1000000 * 1000000 := Int.mul_le_mul h3 ab a0 (by omega)
  have h6 : 0 ≤ c * a * a := Int.mul_nonneg h4 a0
  omega
theorem atMod {ns : List Int} (a : Int) (pos : 0 < ns.length) : ∃ z, atI (ns.map V.int) (a % (ns.length : Int)) = some (.int z) := by
  have h1 := Int.emod_nonneg a (b := (ns.length : Int)) (by omega)
  have h2 := Int.emod_lt_of_pos a (b := (ns.length : Int)) (by omega)
  generalize a % (ns.length : Int) = j at h1 h2
  have hj : j.toNat < ns.length := by omega
  refine ⟨ns[j.toNat], ?_⟩
  have e : (j.toNat : Int) = j := by omega
  have q : atI (ns.map V.int) ((j.toNat : Nat) : Int) = some (.int ns[j.toNat]) := atI_nat (by simp [hj])
  rw [e] at q
  exact q
theorem eqv_nil (ns : List Int) : PyData.eqv (.list (ns.map PyData.int)) (.list []) = ns.isEmpty := by
  cases ns with
  | nil => rfl
  | cons a t => rfl
section
variable {P : Program} {w : World} {K : PySem.W.Frag} {mg : Str → Option Value} {base : Heap}
theorem scDraw : FnScope ["_law_pen_here", "_law_many", "_law_digit", "_law_at", "_law_cell", "_law_great", "_law_mixed"] ["_law_pen_here", "_law_many"] (defScope sDraw) := ⟨rfl, rfl, rfl, by decide +kernel, rfl, by decide +kernel, by decide +kernel⟩
theorem bLen {X : Cx} {e : Expr} {te : TE} {p pos : Pos} (hg : Gl X "len") (m : X.mg "len" = none) (he : PE X e te) (na : starEach [e] X.env = (false, eval e X.env) :: starEach [] X.env := by rfl) : PE X (.Call (.Name "len" p) [e] [] pos) (tCB (fun xs H Q => ∃ x n, xs = [x] ∧ LenV X.K x H n ∧ Q (.int n) H) (tCons te tNil)) := pe_callB call_len hg m PySem.boot_len (pa_cons he pa_nil na) (he := na)
theorem bInt {X : Cx} {e : Expr} {te : TE} {p pos : Pos} (hg : Gl X "int") (m : X.mg "int" = none) (he : PE X e te) (na : starEach [e] X.env = (false, eval e X.env) :: starEach [] X.env := by rfl) : PE X (.Call (.Name "int" p) [e] [] pos) (tCB (fun xs H Q => (∃ i, xs = [.int i] ∧ Q (.int i) H) ∨ ∃ k, xs = [.bl k] ∧ Q (.int (if k then 1 else 0)) H) (tCons te tNil)) :=
  pe_callTy call_int1 hg m (by decide +kernel) (pa_cons he pa_nil na) (he := na)
theorem bAbs {X : Cx} {e : Expr} {te : TE} {p pos : Pos} (hg : Gl X "abs") (m : X.mg "abs" = none) (he : PE X e te) (na : starEach [e] X.env = (false, eval e X.env) :: starEach [] X.env := by rfl) : PE X (.Call (.Name "abs" p) [e] [] pos) (tCB (fun xs H Q => ∃ i, xs = [.int i] ∧ Q (.int (if i < 0 then -i else i)) H) (tCons te tNil)) :=
  pe_callB call_abs hg m (by decide +kernel) (pa_cons he pa_nil na) (he := na)
theorem bIx {X : Cx} {a b : Expr} {ta tb : TE} {pos : Pos} (ha : PE X a ta) (hb : PE X b tb) (hs : PlainIx b := by intro _ _; rfl) : PE X (.Subscript a b pos) (tOp (rIxL X.K) ta tb) := pe_ix ix_list ha hb hs
theorem ok_draw {f : Addr} {fd : FuncData} (F : Fun K "_law_draw" "_law_draw" sDraw f fd) (T : Txt mg) : FnOk P w K mg base CX0 1 f fd ["_law_pen_here", "_law_many"] spDraw := by
  refine F.ok scDraw (fun vs H Q E h => ?_) (fun cdv A outer s H vs Q E hr h => ?_)
  · obtain ⟨c, p, m, n, rfl, _⟩ := h
    rfl
  · obtain ⟨c, p, m, n, rfl, m0, mb, nb, pen, k⟩ := h
    have nd := scDraw.nd
    refine ⟨_, pss_cons (ps_if (pt_cmpR op_gt (bIx (pv 0) pe_int) pe_int (nomark _))
        (pss_cons (ps_set (i := 2) nd rfl (.inl rfl) (pe_op op_mod (bInt (by rfl) T.int (bIx (pv 0) pe_int)) (pv 1)))
          (pss_cons (ps_asg (pe_op op_fdivN (bInt (by rfl) T.int (bIx (pv 0) pe_int)) (pv 1)) (pg_sub (pv 0) pe_int set_list)) (pss_one (ps_ret (pv 2))))) pss_nil)
      (pss_cons (ps_set (i := 3) nd rfl (.inl rfl) (bIx (pv 0) pe_int))
      (pss_cons (ps_asg (pe_op op_add (pv 3) pe_int) (pg_sub (pv 0) pe_int set_list))
      (pss_cons (ps_set (i := 4) nd rfl (.inl rfl) (pe_op op_add (pe_op op_mul pe_int (pv 3)) pe_int))
      (C8.pss_cut (ps_if (pt_cmpR (op_neD hr.units) (bIx (pv 0) pe_int) (pe_lst pa_nil) (nomark _))
        (pss_one (ps_set (i := 4) nd rfl (.inl rfl) (bIx (bIx (pv 0) pe_int) (pe_op op_mod (bInt (by rfl) T.int (pv 3)) (bLen (by rfl) T.len (bIx (pv 0) pe_int)))))) pss_nil)
      (C8.pss_cut (ps_if (PW.pt (pw_and (pt_cmpR op_lt (pv 3) (bLen (by rfl) T.len (bIx (pv 0) pe_int)) (nomark _)) (pw_and1 (pt_cmpR op_ge (bAbs (by rfl) T.abs (pv 4)) (pe_op op_pow pe_int pe_int) (nomark _)))))
        (pss_cons (ps_set (i := 5) nd rfl (.inl rfl) (pe_op op_add (pe_op op_mul pe_int (pe_op op_sub (bAbs (by rfl) T.abs (pv 4)) (pe_op op_pow pe_int pe_int))) (bInt (by rfl) T.int (pe_cmpR op_lt (pv 4) pe_int (nomark _)))))
          (pss_cons (ps_asg (pe_op op_fdivN (bInt (by rfl) T.int (pv 5)) (pv 1)) (pg_sub (pv 0) pe_int set_list)) (pss_one (ps_ret (pe_op op_mod (bInt (by rfl) T.int (pv 5)) (pv 1)))))) pss_nil)
      (pss_cons (ps_set (i := 6) nd rfl (.inl rfl) (pe_op op_mod (bInt (by rfl) T.int (pe_op op_pow (pe_op op_add (pe_op op_add (pe_op op_mod (bInt (by rfl) T.int (pv 4)) pe_int) (pe_op op_mul pe_int (pv 3))) pe_int) pe_int)) pe_int))
      (pss_cons (ps_set (i := 6) nd rfl (.inl rfl) (pe_op op_mod (bInt (by rfl) T.int (pe_op op_pow (pe_op op_add (pe_op op_add (pe_op op_mul (pv 6) (pe_op op_add (pe_op op_mul pe_int (pv 3)) pe_int)) (pe_op op_mul (pe_op op_mul pe_int (pv 3)) (pv 3))) pe_int) pe_int)) pe_int))
      (pss_one (ps_ret (pe_op op_mod (bInt (by rfl) T.int (pe_op op_fdivN (pv 6) pe_int)) (pv 1))))))))))), ?_⟩
    obtain ⟨ns, a, g, hp, hc, cp, hl, a0, an⟩ := pen
    have md : ∀ x : Int, 0 ≤ x % m ∧ x % m < m := fun x => ⟨Int.emod_nonneg x (by omega), Int.emod_lt_of_pos x m0⟩
    have ms : m ≠ 0 ∧ m.natAbs < 1073741824 := ⟨by omega, by omega⟩
    refine ⟨_, rfl, p, _, 2, _, rfl, rfl, SqL.of hp, rfl, g, 0, rfl, rfl, _, rfl, ite2 (fun hg => ?_) (fun hg => ?_)⟩
    · refine ⟨_, rfl, p, _, 2, _, rfl, rfl, SqL.of hp, rfl, .inl ⟨_, rfl, _, rfl, _, _, rfl, rfl, m0, ?_⟩⟩
      refine ⟨_, rfl, p, _, 2, _, rfl, rfl, SqL.of hp, rfl, .inl ⟨_, rfl, _, rfl, _, _, rfl, rfl, ms, ?_⟩⟩
      refine ⟨_, rfl, p, _, 2, 2, rfl, rfl, hp, rfl, ?_⟩
      refine ⟨_, rfl, k _ _ (md g).1 (md g).2 ⟨ns, a, _, upd_same, ?_, cp, hl, a0, by omega⟩ Ext1.put⟩
      rw [upd_ne cp]; exact hc
    refine ⟨_, rfl, p, _, 1, _, rfl, rfl, SqL.of hp, rfl, ?_⟩
    refine ⟨_, rfl, _, _, rfl, rfl, ?_⟩
    refine ⟨_, rfl, p, _, 1, 1, rfl, rfl, hp, rfl, ?_⟩
    have mul64 : ∀ {x y : Int}, -(2 ^ 64) < x → x < 2 ^ 64 → CMul x y := fun h1 h2 => Or.inl ⟨h1, h2⟩
    generalize hH1 : upd H p (HO.lst ([V.ref c, V.int a, V.int g].set 1 (V.int (a + 1)))) = H1
    have hp1 : H1 p = some (.lst [.ref c, .int (a + 1), .int g]) := by rw [← hH1]; exact upd_same
    have hc1 : H1 c = some (.lst (ns.map V.int)) := by rw [← hH1, upd_ne cp]; exact hc
    have x1 : Ext1 p H H1 := by rw [← hH1]; exact Ext1.put
    refine ⟨_, rfl, _, _, rfl, rfl, mul64 (by decide) (by decide), _, _, rfl, rfl, ?_⟩
    refine ⟨fun σ' H' => ∃ (z : Int) (q : Addr), σ' = [some (.ref p), some (.int m), none, some (.int a), some (.int z), none, none] ∧ H1 q = none ∧ H' = upd H1 q (.lst []), ?_, ?_⟩
    · refine ⟨_, rfl, p, _, 0, _, rfl, rfl, SqL.of hp1, rfl, Nat.zero_le _, fun q hq => ?_⟩
      have cq : c ≠ q := ne_of_none hc1 hq
      have pq : p ≠ q := ne_of_none hp1 hq
      have hc2 : (upd H1 q (.lst [])) c = some (.lst (ns.map V.int)) := by rw [upd_ne cq]; exact hc1
      have hp2 : (upd H1 q (.lst [])) p = some (.lst [.ref c, .int (a + 1), .int g]) := by rw [upd_ne pq]; exact hp1
      refine ⟨.list (ns.map PyData.int), .list [], .lst (SqL.of hc2) (dpInts _ _ ns), .lst (SqL.of upd_same) .nil, shapedInts ns, rfl, _, rfl, ?_⟩
      rw [eqv_nil]
      refine ite2 (fun hne => ?_) (fun _ => ⟨_, q, rfl, hq, rfl⟩)
      have pos : 0 < ns.length := by
        cases ns with
        | nil => exact absurd hne (by decide)
        | cons _ _ => exact Nat.succ_pos _
      obtain ⟨z, hz⟩ := atMod a pos
      refine ⟨_, rfl, p, _, 0, _, rfl, rfl, SqL.of hp2, rfl, _, rfl, .inl ⟨_, rfl, _, rfl, p, _, 0, _, rfl, rfl, SqL.of hp2, rfl, _, _, rfl, .inl ⟨_, SqL.of hc2, rfl⟩, ?_⟩⟩
      refine ⟨_, _, rfl, rfl, by rw [List.length_map]; omega, c, _, _, .int z, rfl, rfl, SqL.of hc2, ?_, z, q, rfl, hq, rfl⟩
      rw [List.length_map]; exact hz
    rintro σ2 H2 ⟨z, q, rfl, hq, rfl⟩
    have cq : c ≠ q := ne_of_none hc1 hq
    have pq : p ≠ q := ne_of_none hp1 hq
    have hc2 : (upd H1 q (.lst [])) c = some (.lst (ns.map V.int)) := by rw [upd_ne cq]; exact hc1
    have hp2 : (upd H1 q (.lst [])) p = some (.lst [.ref c, .int (a + 1), .int g]) := by rw [upd_ne pq]; exact hp1
    have x2 : Ext1 p H (upd H1 q (.lst [])) := x1.trans (Ext1.new hq)
    generalize upd H1 q (.lst []) = H2 at hc2 hp2 x2 ⊢
    have done : ∀ r, 0 ≤ r → r < m → Q (.int r) H2 := fun r r0 r1 => k r H2 r0 r1 ⟨ns, a + 1, g, hp2, hc2, cp, hl, by omega, by omega⟩ x2
    have fin : ∀ y : Int, Q (.int (y % m)) H2 := fun y => done _ (md y).1 (md y).2
    have a1 : a ≤ 1000000 := by omega
    refine ⟨fun σ' H' => σ' = [some (.ref p), some (.int m), none, some (.int a), some (.int z), none, none] ∧ H' = H2, ?_, ?_⟩
    · refine ⟨_, rfl, _, rfl, p, _, 0, _, rfl, rfl, SqL.of hp2, rfl, _, _, rfl, .inl ⟨_, SqL.of hc2, rfl⟩, _, _, rfl, rfl, _, rfl, ite2 (fun _ => ?_) (fun _ => iteF ⟨rfl, rfl⟩)⟩
      refine ⟨_, rfl, z, rfl, _, _, rfl, rfl, ⟨by decide, by decide, by decide⟩, _, _, rfl, rfl, _, rfl, ite2 (fun _ => ?_) (fun _ => ⟨rfl, rfl⟩)⟩
      refine ⟨_, rfl, z, rfl, _, _, rfl, rfl, ⟨by decide, by decide, by decide⟩, _, _, rfl, rfl, _, _, rfl, rfl, mul64 (by decide) (by decide), _, rfl, _, _, rfl, rfl, .inr ⟨_, rfl, _, _, rfl, rfl, ?_⟩⟩
      refine ⟨_, rfl, .inl ⟨_, rfl, _, rfl, _, _, rfl, rfl, ms, _, rfl, p, _, 2, 2, rfl, rfl, hp2, rfl, ?_⟩⟩
      refine ⟨_, rfl, .inl ⟨_, rfl, _, rfl, _, _, rfl, rfl, m0, ?_⟩⟩
      refine k _ _ (md _).1 (md _).2 ⟨ns, a + 1, _, upd_same, ?_, cp, hl, by omega, by omega⟩ (x2.trans Ext1.put)
      rw [upd_ne cp]; exact hc2
    rintro σ3 H3 ⟨rfl, rfl⟩
    refine ⟨_, rfl, .inl ⟨_, rfl, _, _, rfl, rfl, (show (0 : Int) < 2147483563 by decide), _, rfl, _, _, rfl, rfl, mul64 (by decide) (by decide), _, _, rfl, rfl, _, _, rfl, rfl, _, _, rfl, rfl, ⟨by decide, by decide, mixed1 (by decide) (by decide) (by decide) (by decide) (by decide) (by decide) a0 a1⟩, .inl ⟨_, rfl, _, _, rfl, rfl, (show (0 : Int) < 2147483647 by decide), ?_⟩⟩⟩
    have xx : ∀ y : Int, 0 ≤ y % 2147483647 ∧ y % 2147483647 < 2147483647 := fun y => ⟨Int.emod_nonneg _ (by decide), Int.emod_lt_of_pos _ (by decide)⟩
    refine ⟨_, rfl, _, rfl, _, _, rfl, rfl, mul64 (by decide) (by decide), _, _, rfl, rfl, _, _, rfl, rfl, mul64 (Int.lt_of_lt_of_le (by decide) (xx _).1) (Int.lt_trans (xx _).2 (by decide)), _, rfl, _, _, rfl, rfl, mul64 (by decide) (by decide), _, rfl, _, _, rfl, rfl, Or.inr ⟨by omega, by omega⟩, _, _, rfl, rfl, _, _, rfl, rfl, _, _, rfl, rfl,
      ⟨by decide, by decide, mixed2 (xx _).1 (xx _).2 (by decide) (by decide) (by decide) (by decide) (by decide) (by decide) (by decide) a0 a1⟩, .inl ⟨_, rfl, _, _, rfl, rfl, (show (0 : Int) < 2147483549 by decide), ?_⟩⟩
    exact ⟨_, rfl, _, _, rfl, rfl, ⟨by decide, by decide⟩, .inl ⟨_, rfl, _, rfl, _, _, rfl, rfl, m0, fin _⟩⟩
end
end Kx
set_option Elab.async false
set_option maxRecDepth 100000
set_option autoImplicit false
namespace Kx
open PySem L2 PySem.Spec PyProof.Rows Rg
abbrev sFromTo : Stmt := top 10
abbrev sAreLetters : Stmt := top 11
abbrev sAreSigns : Stmt := top 12
abbrev sWrong : Stmt := top 13
abbrev sCheckRow : Stmt := top 14
abbrev sLedOn : Stmt := top 19
abbrev sCheckSigns : Stmt := top 36
abbrev sAreSteps : Stmt := top 38
abbrev sAreStates : Stmt := top 39
abbrev sAreAnswers : Stmt := top 40

/-! ### the texts that are drawn -/
def five : List Str := ["xo", "ox", "a", "abc", "zyxw"]
def abc : Str := "abcdefghijklmnopqrstuvwxyz"
def posn (z : Str) (c : Nat) : Nat := (Txt.index0 z ⟨#[c]⟩).getD 0
theorem five_facts : five.all (fun z => decide (0 < z.length) && decide (z.length ≤ 4) && decide (Txt.stripChars z abc = Str.empty) && decide ((Rg.signs z).Nodup) && z.cps.toList.all fun c => decide (Txt.index0 z ⟨#[c]⟩ = some (posn z c)) && decide (posn z c < z.length)) = true := by decide +kernel
structure Zok (z : Str) : Prop where
  pos : 0 < z.length
  few : z.length ≤ 4
  strip : Txt.stripChars z abc = Str.empty
  nd : (Rg.signs z).Nodup
  ix : ∀ c ∈ z.cps.toList, Txt.index0 z ⟨#[c]⟩ = some (posn z c) ∧ posn z c < z.length
theorem zok {z : Str} (h : z ∈ five) : Zok z := by
  have q := List.all_eq_true.mp five_facts z h
  simp only [Bool.and_eq_true, decide_eq_true_eq, List.all_eq_true] at q
  obtain ⟨⟨⟨⟨a, b⟩, c⟩, d⟩, e⟩ := q
  exact ⟨a, b, c, d, e⟩
theorem len_small {z : Str} (h : z.length ≤ 1000) : z.length ≤ sizeLine := Nat.le_trans h (by decide)
def Word (z w : Str) : Prop := ∀ c ∈ w.cps.toList, c ∈ z.cps.toList

/-! ### the text of a word over the signs loses all its signs -/
theorem take_all (p : Nat → Bool) : ∀ l : List Nat, (∀ c ∈ l, p c = true) → l.takeWhile p = l
  | [], _ => rfl
  | c :: r, h => by
    rw [List.takeWhile_cons, h c List.mem_cons_self, if_pos rfl, take_all p r fun d hd => h d (List.mem_cons_of_mem _ hd)]
theorem strip_word {z w : Str} (h : Word z w) : Txt.lstripChars w z = Str.empty := by
  have e : w.cps.toList.takeWhile z.cps.contains = w.cps.toList := take_all _ _ fun c hc => by
    have q := h c hc
    simpa using q
  have el : w.cps.toList.length = w.length := by simp [Str.length]
  have lo : stripLo z.cps.contains true w = w.length := by unfold stripLo; simp [e, el]
  show Txt.stripBy z.cps.contains true false w = Str.empty
  unfold Txt.stripBy stripSame stripped
  rw [lo]
  have hi : stripHi z.cps.contains false w w.length = w.length := rfl
  rw [hi]
  by_cases q : w.length = 0
  · have e0 : w = Str.empty := by
      obtain ⟨a⟩ := w
      have : a = #[] := Array.eq_empty_of_size_eq_zero q
      subst this; rfl
    subst e0; rfl
  · have f : (w.length == 0) = false := by simpa using q
    rw [f, Bool.false_and, if_neg Bool.false_ne_true]
    show (⟨w.cps.extract w.length w.length⟩ : Str) = Str.empty
    have : w.cps.extract w.length w.length = #[] := by
      simp
      exact Nat.min_le_left _ _
    rw [this]; rfl

/-! ### is_integer, is_from_to -/
def spFromTo : Sp := fun vs H Q _ => ∃ v lo hi : Int, vs = [.int v, .int lo, .int hi] ∧ Q (.bl (decide (lo ≤ v) && decide (v ≤ hi))) H
theorem bIsi {X : Cx} {e c : Expr} {te tc : TE} {p pos : Pos} (hg : Gl X "isinstance") (m : X.mg "isinstance" = none) (he : PE X e te) (hc : PE X c tc) (na : starEach [e, c] X.env = (false, eval e X.env) :: starEach [c] X.env := by rfl)
    (nb : starEach [c] X.env = (false, eval c X.env) :: starEach [] X.env := by rfl) (hpl : (backTo pos (starEach [c] X.env)).any (·.1) = false := by rfl) : PE X (.Call (.Name "isinstance" p) [e, c] [] pos) (tCB (rIsi X.K) (tCons te (tCons tc tNil))) :=
  pe_callB call_isi hg m boot_isinstance (pa_cons he (pa_cons hc pa_nil nb) na) (he := na) (hpl := hpl)
section
variable {P : Program} {w : World} {K : PySem.W.Frag} {mg : Str → Option Value} {base : Heap}
theorem scFromTo : FnScope ["value", "low", "high"] ["value", "low", "high"] (defScope sFromTo) := ⟨rfl, rfl, rfl, by decide +kernel, rfl, by decide +kernel, by decide +kernel⟩
theorem ok_fromTo {f : Addr} {fd : FuncData} (F : Fun K "is_from_to" "is_from_to" sFromTo f fd) (T : Txt mg) (mI : mg "int" = none) (mB : mg "bool" = none) :
    FnOk P w K mg base CX0 2 f fd ["value", "low", "high"] spFromTo := by
  refine F.ok scFromTo (fun vs H Q E h => ?_) (fun cdv A outer s H vs Q E hr h => ?_)
  · obtain ⟨v, lo, hi, rfl, _⟩ := h
    rfl
  · obtain ⟨v, lo, hi, rfl, k⟩ := h
    refine ⟨_, pss_one (ps_ret (pe_and (bIsi (by rfl) T.isi (pv 0) (pe_bltn (v := .ty "int") (by rfl) mI (by decide +kernel) rfl)) (pe_and (pe_not (bIsi (by rfl) T.isi (pv 0) (pe_bltn (v := .ty "bool") (by rfl) mB (by decide +kernel) rfl))) (pe_one (pe_chain op_le op_le (pv 1) (pv 0) (pv 2)))))), ?_⟩
    refine ⟨_, rfl, .int v, .ty "int", _, _, true, rfl, .ty "int", .base (.int v), kit_ty (by decide +kernel), true, rfl, iteT ⟨_, rfl, .int v, .ty "bool", _, _, false, rfl, .ty "bool", .base (.int v), kit_ty (by decide +kernel), false, rfl, true, rfl, iteT ⟨_, rfl, _, rfl, _, _, rfl, rfl, _, rfl, ?_⟩⟩⟩
    by_cases h : lo ≤ v
    · rw [if_pos (decide_eq_true h)]
      refine ⟨_, rfl, _, _, rfl, rfl, ?_⟩
      rw [decide_eq_true h, Bool.true_and] at k
      exact k
    · rw [if_neg (by simpa using h)]
      rw [decide_eq_false h, Bool.false_and] at k
      exact k

/-! ### are_letters, are_signs, check_signs -/
def spAreLetters : Sp := fun vs H Q _ => ∃ z : Str, vs = [.str z, .int 1, .int 4] ∧ Zok z ∧ Q (.bl true) H
theorem scAreLetters : FnScope ["value", "least", "most"] ["value", "least", "most"] (defScope sAreLetters) := ⟨rfl, rfl, rfl, by decide +kernel, rfl, by decide +kernel, by decide +kernel⟩
theorem ok_areLetters {f : Addr} {fd : FuncData} (F : Fun K "are_letters" "are_letters" sAreLetters f fd) (T : Txt mg) (mS : mg "str" = none) {tk : Tok} (mL : mg "LETTERS" = some (.str abc tk)) : FnOk P w K mg base CX0 1 f fd ["value", "least", "most"] spAreLetters := by
  refine F.ok scAreLetters (fun vs H Q E h => ?_) (fun cdv A outer s H vs Q E hr h => ?_)
  · obtain ⟨z, rfl, _⟩ := h
    rfl
  · obtain ⟨z, rfl, zk, k⟩ := h
    have l1 := zk.pos
    have l2 := zk.few
    refine ⟨_, pss_one (ps_ret (pe_and (bIsi (by rfl) T.isi (pv 0) (pe_bltn (v := .ty "str") (by rfl) mS (by decide +kernel) rfl)) (pe_and (pe_chain op_le op_le (pv 1) (bLen (by rfl) T.len (pv 0)) (pv 2))
      (pe_one (pe_cmpR op_eq (pe_bm PySem.F.plainAttrs_str PySem.F.slot_str_strip PySem.F.type_str_strip mt_stripChars (pv 0) (pa_cons (pe_glob (v := .str abc) (by rfl) mL ⟨_, rfl⟩) pa_nil)) pe_str (nomark _)))))), ?_⟩
    refine ⟨_, rfl, .str z, .ty "str", _, _, true, rfl, .ty "str", .base (.str z), kit_ty (by decide +kernel), true, rfl, iteT ?_⟩
    refine ⟨_, rfl, _, rfl, _, z.length, rfl, ⟨len_small (by omega), rfl⟩, _, _, rfl, rfl, _, rfl, ?_⟩
    rw [if_pos (decide_eq_true (by omega))]
    refine ⟨_, rfl, _, _, rfl, rfl, _, rfl, ?_⟩
    rw [if_pos (decide_eq_true (by omega))]
    refine ⟨_, rfl, rfl, z, abc, rfl, rfl, len_small (by omega), ?_⟩
    rw [zk.strip]
    exact ⟨rfl, k⟩
def spAreSigns : Sp := fun vs H Q _ => ∃ z : Str, vs = [.str z] ∧ Zok z ∧ Q (.bl true) H
theorem scAreSigns : FnScope ["value"] ["value"] (defScope sAreSigns) := ⟨rfl, rfl, rfl, by decide +kernel, rfl, by decide +kernel, by decide +kernel⟩
theorem ok_areSigns {f f1 : Addr} {fd fd1 : FuncData} (F : Fun K "are_signs" "are_signs" sAreSigns f fd) (T : Txt mg) (G : FnOk P w K mg base CX0 1 f1 fd1 ["value", "least", "most"] spAreLetters) (m1 : mg "are_letters" = some (.ref f1)) (k1 : PySem.W.keepIn K (.ref f1) = true)
    (b1 : Binds K fd1 ["value", "least", "most"] []) : FnOk P w K mg base CX0 2 f fd ["value"] spAreSigns := by
  refine F.ok scAreSigns (fun vs H Q E h => ?_) (fun cdv A outer s H vs Q E hr h => ?_)
  · obtain ⟨z, rfl, _⟩ := h
    rfl
  · obtain ⟨z, rfl, zk, k⟩ := h
    have l2 := zk.few
    refine ⟨_, pss_one (ps_ret (pe_and (pe_call G hr (by rfl) m1 k1 b1 .nil pass0 (pa_cons (pv 0) (pa_cons pe_int (pa_cons pe_int pa_nil)))) (pe_one (pe_cmpR op_eq (pe_lenSetT rfl (by rfl) T.len (by rfl) T.set (pv 0)) (bLen (by rfl) T.len (pv 0)) (nomark _))))), ?_⟩
    refine ⟨_, rfl, z, rfl, zk, true, rfl, iteT ⟨_, rfl, z, rfl, zk.nd, by have : z.cps.size = z.length := rfl; omega, _, rfl, _, z.length, rfl, ⟨len_small (by omega), rfl⟩, rfl, ?_⟩⟩
    rw [show decide (V.int (z.cps.size : Int) = V.int (z.length : Int)) = true from decide_eq_true rfl]
    exact k
def spUnit (R : List V → Hp → Prop) : Sp := fun vs H Q _ => R vs H ∧ Q .non H
def spCheckSigns : Sp := fun vs H Q _ => ∃ z : Str, vs = [.str z] ∧ Zok z ∧ Q .non H
theorem scCheckSigns : FnScope ["value"] ["value"] (defScope sCheckSigns) := ⟨rfl, rfl, rfl, by decide +kernel, rfl, by decide +kernel, by decide +kernel⟩
theorem ok_checkSigns {f f1 : Addr} {fd fd1 : FuncData} (F : Fun K "check_signs" "check_signs" sCheckSigns f fd) (G : FnOk P w K mg base CX0 2 f1 fd1 ["value"] spAreSigns) (m1 : mg "are_signs" = some (.ref f1)) (k1 : PySem.W.keepIn K (.ref f1) = true)
    (b1 : Binds K fd1 ["value"] []) : FnOk P w K mg base CX0 3 f fd ["value"] spCheckSigns := by
  refine F.ok scCheckSigns (fun vs H Q E h => ?_) (fun cdv A outer s H vs Q E hr h => ?_)
  · obtain ⟨z, rfl, _⟩ := h
    rfl
  · obtain ⟨z, rfl, zk, k⟩ := h
    refine ⟨_, pss_one (ps_if (pt_not (pt_val (pe_call G hr (by rfl) m1 k1 b1 .nil pass0 (pa_cons (pv 0) pa_nil)))) (pss_one ps_never) pss_nil), ?_⟩
    exact ⟨_, rfl, z, rfl, zk, true, rfl, iteF k⟩

/-! ### wrong_at, check_row -/
def spWrong : Sp := fun vs H Q _ => ∃ z wd : Str, vs = [.str z, .str wd] ∧ Word z wd ∧ wd.length ≤ 1000 ∧ Q .non H
theorem scWrong : FnScope ["signs", "value", "rest"] ["signs", "value"] (defScope sWrong) := ⟨rfl, rfl, rfl, by decide +kernel, rfl, by decide +kernel, by decide +kernel⟩
theorem ok_wrong {f : Addr} {fd : FuncData} (F : Fun K "wrong_at" "wrong_at" sWrong f fd) (T : Txt mg) (mS : mg "str" = none) : FnOk P w K mg base CX0 1 f fd ["signs", "value"] spWrong := by
  refine F.ok scWrong (fun vs H Q E h => ?_) (fun cdv A outer s H vs Q E hr h => ?_)
  · obtain ⟨z, wd, rfl, _⟩ := h
    rfl
  · obtain ⟨z, wd, rfl, hw, hl, k⟩ := h
    have nd := scWrong.nd
    refine ⟨_, pss_cons (ps_if (pt_not (pt_val (bIsi (by rfl) T.isi (pv 1) (pe_bltn (v := .ty "str") (by rfl) mS (by decide +kernel) rfl)))) (pss_one (ps_ret pe_int)) pss_nil)
      (pss_cons (ps_set (i := 2) nd rfl (.inl rfl) (pe_bm PySem.F.plainAttrs_str PySem.F.slot_str_lstrip PySem.F.type_str_lstrip mt_lstripChars (pv 1) (pa_cons (pv 0) pa_nil)))
      (pss_cons (ps_if (pt_cmpR op_eq (pv 2) pe_str (nomark _)) (pss_one (ps_ret pe_non)) pss_nil) (pss_one ps_never))), ?_⟩
    refine ⟨_, rfl, .str wd, .ty "str", _, _, true, rfl, .ty "str", .base (.str wd), kit_ty (by decide +kernel), true, rfl, iteF ?_⟩
    refine ⟨_, rfl, rfl, _, rfl, wd, z, rfl, rfl, len_small hl, ?_⟩
    rw [strip_word hw]
    exact ⟨_, rfl, rfl, _, rfl, iteT k⟩
theorem scCheckRow : FnScope ["signs", "value", "at"] ["signs", "value"] (defScope sCheckRow) := ⟨rfl, rfl, rfl, by decide +kernel, rfl, by decide +kernel, by decide +kernel⟩
theorem ok_checkRow {f f1 : Addr} {fd fd1 : FuncData} (F : Fun K "check_row" "check_row" sCheckRow f fd) (G : FnOk P w K mg base CX0 1 f1 fd1 ["signs", "value"] spWrong) (m1 : mg "wrong_at" = some (.ref f1)) (k1 : PySem.W.keepIn K (.ref f1) = true)
    (b1 : Binds K fd1 ["signs", "value"] []) : FnOk P w K mg base CX0 2 f fd ["signs", "value"] spWrong := by
  refine F.ok scCheckRow (fun vs H Q E h => ?_) (fun cdv A outer s H vs Q E hr h => ?_)
  · obtain ⟨z, wd, rfl, _⟩ := h
    rfl
  · obtain ⟨z, wd, rfl, hw, hl, k⟩ := h
    have nd := scCheckRow.nd
    refine ⟨_, pss_cons (ps_set (i := 2) nd rfl (.inl rfl) (pe_call G hr (by rfl) m1 k1 b1 .nil pass0 (pa_cons (pv 0) (pa_cons (pv 1) pa_nil)))) (pss_one (ps_if (pt_cmp (pc_notN (pv 2))) (pss_one ps_never) pss_nil)), ?_⟩
    exact ⟨_, rfl, _, rfl, z, wd, rfl, hw, hl, _, rfl, _, rfl, iteF k⟩
end
end Kx
set_option Elab.async false
set_option maxRecDepth 100000
set_option autoImplicit false
namespace Kx
open PySem L2 PySem.Spec PyProof.Rows Rg
/-! ### led_on -/
def stepZ (z : Str) (tb : List (List Int)) (s : Int) (c : Nat) : Int := (tb.getD s.toNat []).getD (posn z c) 0
def runZ (z : Str) (tb : List (List Int)) (s : Int) (wd : List Nat) : Int := wd.foldl (stepZ z tb) s
structure Tab (z : Str) (tb : List (List Int)) : Prop where
  pos : 0 < tb.length
  few : tb.length ≤ 8
  row : ∀ r ∈ tb, r.length = z.length ∧ ∀ v ∈ r, 0 ≤ v ∧ v < tb.length
theorem Tab.at_ {z : Str} {tb : List (List Int)} (T : Tab z tb) {i : Nat} (h : i < tb.length) : (tb.getD i []).length = z.length ∧ ∀ v ∈ tb.getD i [], 0 ≤ v ∧ v < tb.length := by
  rw [List.getD_eq_getElem?_getD, List.getElem?_eq_getElem h]
  exact T.row _ (List.getElem_mem h)
theorem stepZ_ok {z : Str} {tb : List (List Int)} (Z : Zok z) (T : Tab z tb) {s : Int} (s0 : 0 ≤ s) (s1 : s < tb.length) {c : Nat} (hc : c ∈ z.cps.toList) : 0 ≤ stepZ z tb s c ∧ stepZ z tb s c < tb.length := by
  have hs : s.toNat < tb.length := by omega
  obtain ⟨hl, hv⟩ := T.at_ hs
  have hp : posn z c < (tb.getD s.toNat []).length := by rw [hl]; exact (Z.ix c hc).2
  unfold stepZ
  rw [List.getD_eq_getElem?_getD (i := posn z c), List.getElem?_eq_getElem hp]
  exact hv _ (List.getElem_mem hp)
theorem runZ_ok {z : Str} {tb : List (List Int)} (Z : Zok z) (T : Tab z tb) : ∀ (wd : List Nat) {s : Int}, 0 ≤ s → s < tb.length → (∀ c ∈ wd, c ∈ z.cps.toList) → 0 ≤ runZ z tb s wd ∧ runZ z tb s wd < tb.length
  | [], _, s0, s1, _ => ⟨s0, s1⟩
  | c :: r, s, s0, s1, h => by
    have q := stepZ_ok Z T s0 s1 (h c List.mem_cons_self)
    exact runZ_ok Z T r q.1 q.2 fun d hd => h d (List.mem_cons_of_mem _ hd)
theorem runZ_take {z : Str} {tb : List (List Int)} {s : Int} {wd : List Nat} {i : Nat} {c : Nat} (h : wd[i]? = some c) : runZ z tb s (wd.take (i + 1)) = stepZ z tb (runZ z tb s (wd.take i)) c := by
  unfold runZ
  rw [List.take_add_one, h, List.foldl_append]
  rfl
theorem atI_int {α : Type} {xs : List α} {s : Int} {v : α} (s0 : 0 ≤ s) (h : xs[s.toNat]? = some v) : atI xs s = some v := by
  have e : ((s.toNat : Nat) : Int) = s := by omega
  have q := atI_nat h
  rw [e] at q
  exact q
/-- a table that is laid: its rows are such objects as R tells -/
def Rows (R : Addr → List V → Prop) (xs : List V) (tb : List (List Int)) : Prop := xs.length = tb.length ∧ ∀ i, i < tb.length → ∃ a, xs[i]? = some (.ref a) ∧ R a ((tb.getD i []).map V.int)
def TupTab (H : Hp) (st : Addr) (tb : List (List Int)) : Prop := ∃ xs, H st = some (.tup xs) ∧ Rows (fun a ys => H a = some (.tup ys)) xs tb
theorem Rows.mono {R R' : Addr → List V → Prop} {xs : List V} {tb : List (List Int)} (h : Rows R xs tb) (f : ∀ a ys, R a ys → R' a ys) : Rows R' xs tb := ⟨h.1, fun i hi => let ⟨a, e, r⟩ := h.2 i hi; ⟨a, e, f _ _ r⟩⟩
/-- one step: the row at s, the item at the sign's place -/
theorem Rows.step {R : Addr → List V → Prop} {xs : List V} {z : Str} {tb : List (List Int)} (h : Rows R xs tb) (Z : Zok z) (T : Tab z tb) {s : Int} (s0 : 0 ≤ s) (s1 : s < tb.length) {c : Nat} (hc : c ∈ z.cps.toList) :
    ∃ a ys, atI xs s = some (.ref a) ∧ R a ys ∧ atI ys ((posn z c : Nat) : Int) = some (.int (stepZ z tb s c)) := by
  have hs : s.toNat < tb.length := by omega
  obtain ⟨a, e, r⟩ := h.2 _ hs
  refine ⟨a, _, atI_int s0 e, r, atI_nat ?_⟩
  have hp : posn z c < (tb.getD s.toNat []).length := by rw [(T.at_ hs).1]; exact (Z.ix c hc).2
  unfold stepZ
  rw [List.getElem?_map, List.getD_eq_getElem?_getD (i := posn z c), List.getElem?_eq_getElem hp] <;> rfl

def spLedOn : Sp := fun vs H Q _ => ∃ (z : Str) (st : Addr) (tb : List (List Int)) (s : Int) (wd : Str), vs = [.str z, .ref st, .int s, .str wd] ∧ Zok z ∧ Tab z tb ∧ TupTab H st tb ∧ 0 ≤ s ∧ s < tb.length ∧ Word z wd ∧ Q (.int (runZ z tb s wd.cps.toList)) H
section
variable {P : Program} {w : World} {K : PySem.W.Frag} {mg : Str → Option Value} {base : Heap}
abbrev W0 : WX := fun _ _ _ _ => False
theorem bIndex {X : Cx} (hc : X.calm = true) (tk : Takes X W0) {o e : Expr} {to te : TE} {apos cpos : Pos} (ho : PE X o to) (he : PE X e te) (hbase : attributeBase o "index" X.env (eval o X.env) = eval o X.env := by rfl)
    (hfew : ((backTo cpos (starEach [e] X.env)).all (fun x => !x.1) && (backToKw cpos (keywordEach [] X.env)).all (fun x => x.1.isSome) && decide ([e].length + ([] : List Keyword).length + (if ([] : List Keyword).isEmpty then 0 else 1) < 30)) = true := by rfl)
    (hline : (apos.endLine == cpos.line) = true := by rfl) (hs : starEach [e] X.env = (false, eval e X.env) :: starEach [] X.env := by rfl) (hplain : (backTo cpos (starEach [] X.env)).any (·.1) = false := by rfl) :
    PE X (.Call (.Attribute o "index" apos) [e] [] cpos) (tBMS X.K "str" (rIndexX W0) to (tCons te tNil)) :=
  pe_bmS PySem.F.plainAttrs_str PySem.F.slot_str_index PySem.F.type_str_index (mt_indexX hc tk) ho (pa_cons he pa_nil hs) hbase hfew hline hs hplain
theorem scLedOn : FnScope ["signs", "steps", "state", "text", "sign"] ["signs", "steps", "state", "text"] (defScope sLedOn) := ⟨rfl, rfl, rfl, by decide +kernel, rfl, by decide +kernel, by decide +kernel⟩
theorem ok_ledOn {f : Addr} {fd : FuncData} (F : Fun K "led_on" "led_on" sLedOn f fd) : FnOk P w K mg base CX0 1 f fd ["signs", "steps", "state", "text"] spLedOn := by
  refine F.ok scLedOn (fun vs H Q E h => ?_) (fun cdv A outer s H vs Q E hr h => ?_)
  · obtain ⟨z, st, tb, s, wd, rfl, _⟩ := h
    rfl
  · obtain ⟨z, st, tb, i0, wd, rfl, Z, T, ⟨xs, hst, rows⟩, i1, i2, hw, k⟩ := h
    have nd := scLedOn.nd
    refine ⟨_, pss_cons (ps_for PassesOwn.never rfl (pi_str (pv 3)) (pg_name (i := 4) nd rfl (Or.inl rfl))
        (pss_one (ps_set (i := 2) nd rfl (.inl rfl) (pe_ix ix_tup (pe_ix ix_tup (pv 1) (pv 2) (fun _ _ => rfl)) (bIndex rfl takes0 (pv 0) (pv 4)) (fun _ _ => rfl))))) (pss_one (ps_ret (pv 2))), ?_⟩
    refine ⟨_, rfl, wd, rfl, for_it walk_str (fun j σ' H' => ∃ y, σ' = [some (.str z), some (.ref st), some (.int (runZ z tb i0 (wd.cps.toList.take j))), some (.str wd), y] ∧ H' = H) ⟨none, rfl, rfl⟩ (fun _ _ _ _ _ => trivial) ?_ ?_⟩
    · rintro j x σ' H' H2 hj ⟨y, rfl, rfl⟩ ⟨rfl, c, hc, rfl⟩
      have hc' : wd.cps.toList[j]? = some c := by rw [Array.getElem?_toList]; exact hc
      have hin : c ∈ z.cps.toList := hw c (List.mem_of_getElem? hc')
      have sub : ∀ d ∈ wd.cps.toList.take j, d ∈ z.cps.toList := fun d hd => hw d (List.mem_of_mem_take hd)
      obtain ⟨r0, r1⟩ := runZ_ok Z T (wd.cps.toList.take j) i1 i2 sub
      obtain ⟨a, ys, e1, e2, e3⟩ := rows.step Z T r0 r1 hin
      refine ⟨_, rfl, _, rfl, st, _, _, _, rfl, rfl, SqT.of hst, e1, _, rfl, rfl, _, rfl, z, ⟨#[c]⟩, rfl, rfl, fun m hm => ?_, fun q => ?_⟩
      · rw [(Z.ix c hin).1] at hm
        cases hm
        refine ⟨a, _, _, _, rfl, rfl, SqT.of e2, e3, some (.str ⟨#[c]⟩), ?_, rfl⟩
        show [some (V.str z), some (.ref st), some (.int (stepZ z tb (runZ z tb i0 (wd.cps.toList.take j)) c)), some (.str wd), some (.str ⟨#[c]⟩)] = _
        rw [runZ_take hc']
      · rw [(Z.ix c hin).1] at q
        cases q
    · rintro σ' H' ⟨y, rfl, rfl⟩
      have e : wd.cps.toList.take wd.cps.size = wd.cps.toList := by rw [List.take_of_length_le]; simp
      rw [e]
      exact ⟨_, rfl, k⟩
end
end Kx
set_option Elab.async false
set_option maxRecDepth 100000
set_option autoImplicit false
namespace Kx
open PySem L2 PySem.Spec PyProof.Rows Rg
/-- a list or a tuple -/
def Sq (H : Hp) (a : Addr) (xs : List V) : Prop := H a = some (.lst xs) ∨ H a = some (.tup xs)
theorem Sq.same {H H' : Hp} {a : Addr} {xs : List V} (h : Sq H a xs) (e : Same H H') : Sq H' a xs := h.elim (fun q => .inl (e _ _ q)) fun q => .inr (e _ _ q)
theorem Sq.len {K : PySem.W.Frag} {H : Hp} {a : Addr} {xs : List V} (h : Sq H a xs) : LenV K (.ref a) H xs.length := h.elim (fun q => .inl ⟨_, SqL.of q, rfl⟩) fun q => .inr ⟨_, SqT.of q, rfl⟩
theorem Same.new {H : Hp} {q : Addr} {o : HO} (h : H q = none) : Same H (upd H q o) := fun b u e => by rw [upd_ne (ne_of_none e h)]; exact e
theorem Same.putNew {H H' : Hp} {q : Addr} {o : HO} (h : H q = none) (e : Same H H') : Same H (upd H' q o) := fun b u z => by rw [upd_ne (ne_of_none z h)]; exact e _ _ z
theorem PI_or {X : Cx} {tg iter : Expr} {w1 w2 : TI} (h1 : PI X tg iter w1) (h2 : PI X tg iter w2) : PI X tg iter (fun σ H R => w1 σ H R ∨ w2 σ H R) := ⟨fun pins s σ H R I h => h.elim (h1.run pins s σ H R I) (h2.run pins s σ H R I)⟩
theorem wipe1 (σ : L2.St) (v : Nat) (x : V) : wipe ((wipe σ [v]).set v (some x)) [v] = wipe σ [v] := by
  show ((σ.set v none).set v (some x)).set v none = σ.set v none
  rw [List.set_set, List.set_set]
/-- a comprehension whose elements are told by the turn, over a heap that only grows -/
theorem lcMap {J : It} {n : Nat} {G : Hp → Prop} {Y : Nat → Hp → V → Hp → Prop} (w : Walk J n G Y) {v : Nat} {te : TE} {σ : L2.St} {H1 : Hp} {D : Addr} {Qd : Hp → Prop} (f : Nat → V) (hn : n < sizeLine) (hD : H1 D = none) (hG : ∀ H', Same H1 H' → G H')
    (hY : ∀ i H' x H2, Y i H' x H2 → H2 = H')
    (el : ∀ i x H' (Q : VK), i < n → Same H1 H' → Y i H' x H' → (∀ H4, Same H' H4 → Q (f i) H4) → te ((wipe σ [v]).set v (some x)) H' Q)
    (hd : ∀ H', Same H1 H' → H' D = some (.lst ((List.range n).map f)) → Qd H') :
    ∃ W : Nat → Nat → Hp → Prop, (∃ m, W 0 m (upd H1 D (.lst []))) ∧ ∀ i m H, W i m H →
      (J.stop i H ∧ Qd H) ∨ (J.go i H ∧ ∃ Nx : Hp → Prop, (∀ H', Nx H' → ∃ m', m' < m ∧ W (i + 1) m' H') ∧ ∀ x H', J.yld i H x H' → gName v x (wipe σ [v]) H' fun σ2 H2 => wipe σ2 [v] = wipe σ [v] ∧ tYes σ2 H2 fun b H3 =>
        if b = true then te σ2 H3 fun y H4 => ∃ acc, H4 D = some (.lst acc) ∧ acc.length < sizeLine ∧ Nx (upd H4 D (.lst (acc ++ [y]))) else Nx H3) := by
  refine lc_it w (fun i H' => Same H1 H' ∧ H' D = some (.lst ((List.range i).map f))) ⟨Same.new hD, upd_same⟩ (fun i H' _ q => hG H' q.1) ?_ fun H' q => hd H' q.1 q.2
  rintro i x H' H2 hi ⟨s1, hl⟩ y
  obtain rfl := hY _ _ _ _ y
  refine ⟨wipe1 σ v x, ?_⟩
  unfold tYes
  dsimp only
  rw [if_pos rfl]
  refine el i x H2 _ hi s1 y fun H4 s4 => ⟨_, s4 _ _ hl, ?_, Same.putNew hD (s1.trans s4), ?_⟩
  · rw [List.length_map, List.length_range]; omega
  rw [upd_same, List.range_succ, List.map_append]
  rfl
theorem range_const {n : Nat} {x : V} : (List.range n).map (fun _ => x) = List.replicate n x := by
  rw [List.map_const', List.length_range]

theorem cls2 : Paired ClsV [V.ty "list", V.ty "tuple"] [Value.type "list", Value.type "tuple"] := .cons (.ty _) (.cons (.ty _) .nil)
theorem seqTy {K : PySem.W.Frag} {H : Hp} {a : Addr} {xs : List V} (h : Sq H a xs) : ∃ t, TyX K H (.ref a) t ∧ PySem.W.kitAny K t [.type "list", .type "tuple"] = some true := by
  rcases h with h | h
  · exact ⟨_, .base (.lst h), kitAny_cons (kit_ty (b := "list") (r := true) (by decide +kernel)) (fun z => nomatch z) fun _ => rfl⟩
  · exact ⟨_, .base (.tup h), kitAny_cons (kit_ty (b := "list") (r := false) (by decide +kernel)) (fun _ => kitAny_cons (kit_ty (b := "tuple") (r := true) (by decide +kernel)) (fun z => nomatch z) fun _ => rfl) (fun z => nomatch z)⟩
theorem bIsiSq {X : Cx} {e : Expr} {te : TE} {p p1 p2 tp pos : Pos} {kk : Nat} (hg : Gl X "isinstance") (m : X.mg "isinstance" = none) (g1 : Gl X "list") (m1 : X.mg "list" = none) (g2 : Gl X "tuple") (m2 : X.mg "tuple" = none) (he : PE X e te)
    (na : starEach [e, .Tuple [.Name "list" p1, .Name "tuple" p2] kk tp] X.env = (false, eval e X.env) :: starEach [.Tuple [.Name "list" p1, .Name "tuple" p2] kk tp] X.env := by rfl)
    (nb : starEach [.Tuple [.Name "list" p1, .Name "tuple" p2] kk tp] X.env = (false, eval (.Tuple [.Name "list" p1, .Name "tuple" p2] kk tp) X.env) :: starEach [] X.env := by rfl) (hpl : (backTo pos (starEach [.Tuple [.Name "list" p1, .Name "tuple" p2] kk tp] X.env)).any (·.1) = false := by rfl) :
    PE X (.Call (.Name "isinstance" p) [e, .Tuple [.Name "list" p1, .Name "tuple" p2] kk tp] [] pos) (tCB (rIsiT X.K) (tCons te (tCons (tTup (tCons (tC (.ty "list")) (tCons (tC (.ty "tuple")) tNil))) tNil))) :=
  pe_callB call_isiT hg m boot_isinstance (pa_cons he (pa_cons (pe_tup (pa_cons (pe_bltn (v := .ty "list") g1 m1 (by decide +kernel) rfl) (pa_cons (pe_bltn (v := .ty "tuple") g2 m2 (by decide +kernel) rfl) pa_nil))) pa_nil nb) na) (he := na) (hpl := hpl)

def spAreStates : Sp := fun vs H Q _ => ∃ (a : Addr) (r : List Int) (last : Int), vs = [.ref a, .int r.length, .int last] ∧ Sq H a (r.map V.int) ∧ r.length ≤ 1000 ∧ (∀ v ∈ r, 0 ≤ v ∧ v ≤ last) ∧ ∀ H', Same H H' → Q (.bl true) H'
section
variable {P : Program} {w : World} {K : PySem.W.Frag} {mg : Str → Option Value} {base : Heap}
theorem scAreStates : FnScope ["value", "many", "last", "state"] ["value", "many", "last"] (defScope sAreStates) := ⟨rfl, rfl, rfl, by decide +kernel, rfl, by decide +kernel, by decide +kernel⟩
theorem ok_areStates {f f1 : Addr} {fd fd1 : FuncData} (F : Fun K "are_states" "are_states" sAreStates f fd) (T : Txt mg) (G : FnOk P w K mg base CX0 2 f1 fd1 ["value", "low", "high"] spFromTo) (m1 : mg "is_from_to" = some (.ref f1)) (k1 : PySem.W.keepIn K (.ref f1) = true)
    (b1 : Binds K fd1 ["value", "low", "high"] []) : FnOk P w K mg base CX0 3 f fd ["value", "many", "last"] spAreStates := by
  refine F.ok scAreStates (fun vs H Q E h => ?_) (fun cdv A outer s H vs Q E hr h => ?_)
  · obtain ⟨a, r, last, rfl, _⟩ := h
    rfl
  · obtain ⟨a, r, last, rfl, sq, few, rng, k⟩ := h
    have nd := scAreStates.nd
    refine ⟨_, pss_cons (ps_if (PW.pt (pw_or (pt_not (pt_val (bIsiSq (by rfl) T.isi (by rfl) T.list (by rfl) T.tuple (pv 0)))) (pw_or1 (pt_cmpR op_ne (bLen (by rfl) T.len (pv 0)) (pv 1) (nomark _))))) (pss_one (ps_ret pe_bl)) pss_nil)
      (pss_one (ps_ret (pe_callB (cr_all rfl) (by rfl) T.all boot_all (pa_cons (pe_lc (own := [("state", 3)]) (g := gName 3) (tt := tYes) rfl nd (PI_or (pi_list (pv 0)) (pi_tup (pv 0))) (blkOk_by (N := ["value", "many", "last", "state"]) (sc := defScope sAreStates) (by decide +kernel))
        (fun _ _ _ _ _ => pg_name (i := 3) nd rfl (Or.inl rfl)) (fun _ _ _ _ _ => pts_nil) (fun _ _ _ _ _ => pe_call G hr (by rfl) m1 k1 b1 .nil pass0 (pa_cons (pv 3) (pa_cons pe_int (pa_cons (pv 2) pa_nil))))) pa_nil)))), ?_⟩
    refine ⟨_, rfl, by show 2 ≤ sizeLine; decide, fun q hq => ?_⟩
    have s1 : Same H (upd H q (.tup [.ty "list", .ty "tuple"])) := Same.new hq
    obtain ⟨t, ty, kt⟩ := seqTy (K := K) (sq.same s1)
    refine ⟨.ref a, q, _, t, _, true, rfl, upd_same, cls2, ty, kt, true, rfl, iteF ?_⟩
    refine ⟨_, rfl, _, _, rfl, (sq.same s1).len, _, rfl, ?_⟩
    refine ⟨rfl, _, rfl, ?_⟩
    have el : decide (V.int ((r.map V.int).length : Nat) = V.int (r.length : Nat)) = true := decide_eq_true (by rw [List.length_map])
    rw [el]
    refine iteF ?_
    have fin : ∀ (D : Addr) (H' : Hp), Same (upd H q (.tup [.ty "list", .ty "tuple"])) H' → H' D = some (.lst ((List.range (r.map V.int).length).map fun _ => V.bl true)) →
        ∃ (b : Addr) (bs : List Bool), [V.ref D] = [V.ref b] ∧ SqL K H' b (bs.map V.bl) ∧ Q (.bl (bs.all id)) H' := by
      intro D H' s2 hD
      refine ⟨D, List.replicate r.length true, rfl, SqL.of ?_, ?_⟩
      · rw [hD, range_const, List.length_map, List.map_replicate]
      · rw [show (List.replicate r.length true).all id = true by simp]
        exact k H' (s1.trans s2)
    have el : ∀ (i : Nat) (x : V) (H' : Hp) (Q' : VK), (r.map V.int)[i]? = some x → (∀ H4, Same H' H4 → Q' (.bl true) H4) →
        tCall spFromTo [] E0 (tCons (tVar 3) (tCons (tC (.int 0)) (tCons (tVar 2) tNil))) ((wipe [some (V.ref a), some (.int r.length), some (.int last), none] [3]).set 3 (some x)) H' Q' := by
      intro i x H' Q' hx q
      rw [List.getElem?_map] at hx
      cases e : r[i]? with
      | none => rw [e] at hx; cases hx
      | some v =>
        rw [e] at hx
        cases hx
        have hv := rng v (List.mem_of_getElem? e)
        refine ⟨_, rfl, _, rfl, v, 0, last, rfl, ?_⟩
        rw [decide_eq_true hv.1, decide_eq_true hv.2]
        exact q H' (Same.refl H')
    have few' : (r.map V.int).length < sizeLine := by rw [List.length_map, sizeLine_eq]; omega
    rcases sq.same s1 with hl | ht
    · exact .inl ⟨_, rfl, a, rfl, ⟨_, SqL.of hl⟩, fun D hD => lcMap walk_list (fun _ => .bl true) few' hD (fun H' e => SqL.of (e _ _ hl)) (fun _ _ _ _ y => y.1) (fun i x H' Q' _ _ y q => el i x H' Q' y.2 q) (fin D)⟩
    · exact .inr ⟨_, rfl, a, rfl, ⟨_, SqT.of ht⟩, fun D hD => lcMap walk_tup (fun _ => .bl true) few' hD (fun H' e => SqT.of (e _ _ ht)) (fun _ _ _ _ y => y.1) (fun i x H' Q' _ _ y q => el i x H' Q' y.2 q) (fin D)⟩
end
end Kx
set_option Elab.async false
set_option maxRecDepth 100000
set_option autoImplicit false
namespace Kx
open PySem L2 PySem.Spec PyProof.Rows Rg
/-- a comprehension over any walk, by an invariant of turn, heap and what is made so far -/
theorem lcGen {J : It} {n : Nat} {G : Hp → Prop} {Y : Nat → Hp → V → Hp → Prop} (w : Walk J n G Y) {v : Nat} {te : TE} {σ : L2.St} {H1 : Hp} {D : Addr} {Qd : Hp → Prop} (Iv : Nat → Hp → List V → Prop) (hn : n < sizeLine)
    (h0 : Iv 0 (upd H1 D (.lst [])) []) (hG : ∀ i H' acc, i ≤ n → Iv i H' acc → G H') (hY : ∀ i H' x H2, Y i H' x H2 → H2 = H')
    (el : ∀ i x H' acc (Q : VK), i < n → H' D = some (.lst acc) → acc.length = i → Iv i H' acc → Y i H' x H' → (∀ y H4, H4 D = some (.lst acc) → Iv (i + 1) (upd H4 D (.lst (acc ++ [y]))) (acc ++ [y]) → Q y H4) → te ((wipe σ [v]).set v (some x)) H' Q)
    (hd : ∀ H' acc, H' D = some (.lst acc) → acc.length = n → Iv n H' acc → Qd H') :
    ∃ W : Nat → Nat → Hp → Prop, (∃ m, W 0 m (upd H1 D (.lst []))) ∧ ∀ i m H, W i m H →
      (J.stop i H ∧ Qd H) ∨ (J.go i H ∧ ∃ Nx : Hp → Prop, (∀ H', Nx H' → ∃ m', m' < m ∧ W (i + 1) m' H') ∧ ∀ x H', J.yld i H x H' → gName v x (wipe σ [v]) H' fun σ2 H2 => wipe σ2 [v] = wipe σ [v] ∧ tYes σ2 H2 fun b H3 =>
        if b = true then te σ2 H3 fun y H4 => ∃ acc, H4 D = some (.lst acc) ∧ acc.length < sizeLine ∧ Nx (upd H4 D (.lst (acc ++ [y]))) else Nx H3) := by
  refine lc_it w (fun i H' => ∃ acc, H' D = some (.lst acc) ∧ acc.length = i ∧ Iv i H' acc) ⟨[], upd_same, rfl, h0⟩ (fun i H' hi ⟨acc, _, _, q⟩ => hG i H' acc hi q) ?_ fun H' ⟨acc, q1, q2, q3⟩ => hd H' acc q1 q2 q3
  rintro i x H' H2 hi ⟨acc, ha, hl, iv⟩ y
  obtain rfl := hY _ _ _ _ y
  refine ⟨wipe1 σ v x, ?_⟩
  unfold tYes
  dsimp only
  rw [if_pos rfl]
  refine el i x H2 acc _ hi ha hl iv y fun y H4 h4 i4 => ⟨acc, h4, by omega, _, upd_same, ?_, i4⟩
  rw [List.length_append, hl]
  rfl

theorem bBool {X : Cx} {e : Expr} {te : TE} {p p1 pos : Pos} (hg : Gl X "isinstance") (m : X.mg "isinstance" = none) (g1 : Gl X "bool") (m1 : X.mg "bool" = none) (he : PE X e te) (na : starEach [e, .Name "bool" p1] X.env = (false, eval e X.env) :: starEach [.Name "bool" p1] X.env := by rfl)
    (nb : starEach [.Name "bool" p1] X.env = (false, eval (.Name "bool" p1) X.env) :: starEach [] X.env := by rfl) (hpl : (backTo pos (starEach [.Name "bool" p1] X.env)).any (·.1) = false := by rfl) : PE X (.Call (.Name "isinstance" p) [e, .Name "bool" p1] [] pos) (tCB (rIsi X.K) (tCons te (tCons (tC (.ty "bool")) tNil))) :=
  bIsi hg m he (pe_bltn (v := .ty "bool") g1 m1 (by decide +kernel) rfl) na nb hpl
abbrev sInit : Stmt := inClass (top 35) 0
abbrev sSigns : Stmt := inClass (top 35) 1
abbrev sSteps : Stmt := inClass (top 35) 2
abbrev sTold : Stmt := inClass (top 35) 3
abbrev sLen : Stmt := inClass (top 35) 4
abbrev sItem : Stmt := inClass (top 35) 5
abbrev sHas : Stmt := inClass (top 35) 7
abbrev sState : Stmt := inClass (top 35) 8
abbrev sStep : Stmt := inClass (top 35) 9

def spAreAnswers : Sp := fun vs H Q _ => ∃ (a : Addr) (r : List Bool), vs = [.ref a, .int r.length] ∧ Sq H a (r.map V.bl) ∧ r.length ≤ 1000 ∧ ∀ H', Same H H' → Q (.bl true) H'
def spAreSteps : Sp := fun vs H Q _ => ∃ (a : Addr) (z : Str) (xs : List V) (tb : List (List Int)), vs = [.ref a, .int z.length] ∧ Sq H a xs ∧ Rows (Sq H) xs tb ∧ Zok z ∧ Tab z tb ∧ ∀ H', Same H H' → Q (.bl true) H'
section
variable {P : Program} {w : World} {K : PySem.W.Frag} {mg : Str → Option Value} {base : Heap}
theorem scAreAnswers : FnScope ["value", "many", "answer"] ["value", "many"] (defScope sAreAnswers) := ⟨rfl, rfl, rfl, by decide +kernel, rfl, by decide +kernel, by decide +kernel⟩
theorem ok_areAnswers {f : Addr} {fd : FuncData} (F : Fun K "are_answers" "are_answers" sAreAnswers f fd) (T : Txt mg) (mB : mg "bool" = none) : FnOk P w K mg base CX0 1 f fd ["value", "many"] spAreAnswers := by
  refine F.ok scAreAnswers (fun vs H Q E h => ?_) (fun cdv A outer s H vs Q E hr h => ?_)
  · obtain ⟨a, r, rfl, _⟩ := h
    rfl
  · obtain ⟨a, r, rfl, sq, few, k⟩ := h
    have nd := scAreAnswers.nd
    refine ⟨_, pss_cons (ps_if (PW.pt (pw_or (pt_not (pt_val (bIsiSq (by rfl) T.isi (by rfl) T.list (by rfl) T.tuple (pv 0)))) (pw_or1 (pt_cmpR op_ne (bLen (by rfl) T.len (pv 0)) (pv 1) (nomark _))))) (pss_one (ps_ret pe_bl)) pss_nil)
      (pss_one (ps_ret (pe_callB (cr_all rfl) (by rfl) T.all boot_all (pa_cons (pe_lc (own := [("answer", 2)]) (g := gName 2) (tt := tYes) (te := tCB (rIsi K) (tCons (tVar 2) (tCons (tC (.ty "bool")) tNil))) rfl nd (PI_or (pi_list (pv 0)) (pi_tup (pv 0))) (blkOk_by (N := ["value", "many", "answer"]) (sc := defScope sAreAnswers) (by decide +kernel))
        (fun _ _ _ _ _ => pg_name (i := 2) nd rfl (Or.inl rfl)) (fun _ _ _ _ _ => pts_nil) (fun _ _ _ _ _ => bBool (by rfl) T.isi (by rfl) mB (pv 2))) pa_nil)))), ?_⟩
    refine ⟨_, rfl, by show 2 ≤ sizeLine; decide, fun q hq => ?_⟩
    have s1 : Same H (upd H q (.tup [.ty "list", .ty "tuple"])) := Same.new hq
    obtain ⟨t, ty, kt⟩ := seqTy (K := K) (sq.same s1)
    refine ⟨.ref a, q, _, t, _, true, rfl, upd_same, cls2, ty, kt, true, rfl, iteF ?_⟩
    refine ⟨_, rfl, _, _, rfl, (sq.same s1).len, _, rfl, rfl, _, rfl, ?_⟩
    have el : decide (V.int ((r.map V.bl).length : Nat) = V.int (r.length : Nat)) = true := decide_eq_true (by rw [List.length_map])
    rw [el]
    refine iteF ?_
    have fin : ∀ (D : Addr) (H' : Hp), Same (upd H q (.tup [.ty "list", .ty "tuple"])) H' → H' D = some (.lst ((List.range (r.map V.bl).length).map fun _ => V.bl true)) →
        ∃ (b : Addr) (bs : List Bool), [V.ref D] = [V.ref b] ∧ SqL K H' b (bs.map V.bl) ∧ Q (.bl (bs.all id)) H' := by
      intro D H' s2 hD
      refine ⟨D, List.replicate r.length true, rfl, SqL.of ?_, ?_⟩
      · rw [hD, range_const, List.length_map, List.map_replicate]
      · rw [show (List.replicate r.length true).all id = true by simp]
        exact k H' (s1.trans s2)
    have el : ∀ (i : Nat) (x : V) (H' : Hp) (Q' : VK), (r.map V.bl)[i]? = some x → (∀ H4, Same H' H4 → Q' (.bl true) H4) →
        tCB (rIsi K) (tCons (tVar 2) (tCons (tC (.ty "bool")) tNil)) ((wipe [some (V.ref a), some (.int r.length), none] [2]).set 2 (some x)) H' Q' := by
      intro i x H' Q' hx q
      rw [List.getElem?_map] at hx
      cases e : r[i]? with
      | none => rw [e] at hx; cases hx
      | some v =>
        rw [e] at hx
        cases hx
        exact ⟨_, rfl, .bl v, .ty "bool", _, _, true, rfl, .ty "bool", .base (.bl v), kit_ty (by decide +kernel), q H' (Same.refl H')⟩
    have few' : (r.map V.bl).length < sizeLine := by rw [List.length_map, sizeLine_eq]; omega
    rcases sq.same s1 with hl | ht
    · exact .inl ⟨_, rfl, a, rfl, ⟨_, SqL.of hl⟩, fun D hD => lcMap walk_list (fun _ => .bl true) few' hD (fun H' e => SqL.of (e _ _ hl)) (fun _ _ _ _ y => y.1) (fun i x H' Q' _ _ y q => el i x H' Q' y.2 q) (fin D)⟩
    · exact .inr ⟨_, rfl, a, rfl, ⟨_, SqT.of ht⟩, fun D hD => lcMap walk_tup (fun _ => .bl true) few' hD (fun H' e => SqT.of (e _ _ ht)) (fun _ _ _ _ y => y.1) (fun i x H' Q' _ _ y q => el i x H' Q' y.2 q) (fin D)⟩
theorem scAreSteps : FnScope ["value", "many", "last", "onward"] ["value", "many"] (defScope sAreSteps) := ⟨rfl, rfl, rfl, by decide +kernel, rfl, by decide +kernel, by decide +kernel⟩
theorem ok_areSteps {f f1 : Addr} {fd fd1 : FuncData} (F : Fun K "are_steps" "are_steps" sAreSteps f fd) (T : Txt mg) (G : FnOk P w K mg base CX0 3 f1 fd1 ["value", "many", "last"] spAreStates) (m1 : mg "are_states" = some (.ref f1)) (k1 : PySem.W.keepIn K (.ref f1) = true)
    (b1 : Binds K fd1 ["value", "many", "last"] []) : FnOk P w K mg base CX0 4 f fd ["value", "many"] spAreSteps := by
  refine F.ok scAreSteps (fun vs H Q E h => ?_) (fun cdv A outer s H vs Q E hr h => ?_)
  · obtain ⟨a, z, xs, tb, rfl, _⟩ := h
    rfl
  · obtain ⟨a, z, xs, tb, rfl, sq, rows, Z, Tb, k⟩ := h
    have nd := scAreSteps.nd
    have hp := Tb.pos
    have hf := Tb.few
    have hx := rows.1
    refine ⟨_, pss_cons (ps_if (PW.pt (pw_or (pt_not (pt_val (bIsiSq (by rfl) T.isi (by rfl) T.list (by rfl) T.tuple (pv 0)))) (pw_or1 (pt_cmpR op_eq (bLen (by rfl) T.len (pv 0)) pe_int (nomark _))))) (pss_one (ps_ret pe_bl)) pss_nil)
      (pss_cons (ps_set (i := 2) nd rfl (.inr rfl) (pe_op op_sub (bLen (by rfl) T.len (pv 0)) pe_int))
      (pss_one (ps_ret (pe_callB (cr_all rfl) (by rfl) T.all boot_all (pa_cons (pe_lc (own := [("onward", 3)]) (g := gName 3) (tt := tYes) rfl nd (PI_or (pi_list (pv 0)) (pi_tup (pv 0))) (blkOk_by (N := ["value", "many", "last", "onward"]) (sc := defScope sAreSteps) (by decide +kernel))
        (fun _ _ _ _ _ => pg_name (i := 3) nd rfl (Or.inl rfl)) (fun _ _ _ _ _ => pts_nil) (fun _ _ _ _ _ => pe_call G hr (by rfl) m1 k1 b1 .nil pass0 (pa_cons (pv 3) (pa_cons (pv 1) (pa_cons (pv 2) pa_nil))))) pa_nil))))), ?_⟩
    refine ⟨_, rfl, by show 2 ≤ sizeLine; decide, fun q hq => ?_⟩
    have s1 : Same H (upd H q (.tup [.ty "list", .ty "tuple"])) := Same.new hq
    obtain ⟨t, ty, kt⟩ := seqTy (K := K) (sq.same s1)
    refine ⟨.ref a, q, _, t, _, true, rfl, upd_same, cls2, ty, kt, true, rfl, iteF ?_⟩
    refine ⟨_, rfl, _, _, rfl, (sq.same s1).len, rfl, _, rfl, ?_⟩
    have el : decide (V.int (xs.length : Nat) = V.int 0) = false := decide_eq_false fun z => by
      have z' : ((xs.length : Nat) : Int) = 0 := V.int.inj z
      omega
    rw [el]
    refine iteF ?_
    refine ⟨_, rfl, _, _, rfl, (sq.same s1).len, _, _, rfl, rfl, ?_⟩
    have fin : ∀ (D : Addr) (H' : Hp), Same (upd H q (.tup [.ty "list", .ty "tuple"])) H' → H' D = some (.lst ((List.range xs.length).map fun _ => V.bl true)) →
        ∃ (b : Addr) (bs : List Bool), [V.ref D] = [V.ref b] ∧ SqL K H' b (bs.map V.bl) ∧ Q (.bl (bs.all id)) H' := by
      intro D H' s2 hD
      refine ⟨D, List.replicate xs.length true, rfl, SqL.of ?_, ?_⟩
      · rw [hD, range_const, List.map_replicate]
      · rw [show (List.replicate xs.length true).all id = true by simp]
        exact k H' (s1.trans s2)
    have el : ∀ (i : Nat) (x : V) (H' : Hp) (Q' : VK), Same (upd H q (.tup [.ty "list", .ty "tuple"])) H' → xs[i]? = some x → (∀ H4, Same H' H4 → Q' (.bl true) H4) →
        tCall spAreStates [] E0 (tCons (tVar 3) (tCons (tVar 1) (tCons (tVar 2) tNil))) ((wipe [some (V.ref a), some (.int z.length), some (.int ((xs.length : Nat) - 1)), none] [3]).set 3 (some x)) H' Q' := by
      intro i x H' Q' s2 hx' q
      have hi : i < tb.length := by
        have := (List.getElem?_eq_some_iff.mp hx').1
        omega
      obtain ⟨r, e1, e2⟩ := rows.2 i hi
      rw [e1] at hx'
      cases hx'
      obtain ⟨l1, l2⟩ := Tb.at_ hi
      have zf := Z.few
      refine ⟨_, rfl, _, rfl, _, rfl, r, tb.getD i [], ((tb.length : Nat) : Int) - 1, ?_, e2.same (s1.trans s2), by omega, fun v hv => ?_, q⟩
      · show [V.ref r, V.int (z.length : Nat), V.int ((xs.length : Nat) - 1)] = [V.ref r, V.int ((tb.getD i []).length : Nat), V.int ((tb.length : Nat) - 1)]
        rw [l1, hx]
      · have := l2 v hv
        omega
    have few' : xs.length < sizeLine := by rw [sizeLine_eq]; omega
    rcases sq.same s1 with hl | ht
    · exact .inl ⟨_, rfl, a, rfl, ⟨_, SqL.of hl⟩, fun D hD => lcMap walk_list (fun _ => .bl true) few' hD (fun H' e => SqL.of (e _ _ hl)) (fun _ _ _ _ y => y.1) (fun i x H' Q' _ e y q => el i x H' Q' e y.2 q) (fin D)⟩
    · exact .inr ⟨_, rfl, a, rfl, ⟨_, SqT.of ht⟩, fun D hD => lcMap walk_tup (fun _ => .bl true) few' hD (fun H' e => SqT.of (e _ _ ht)) (fun _ _ _ _ y => y.1) (fun i x H' Q' _ e y q => el i x H' Q' e y.2 q) (fin D)⟩
end
end Kx
set_option Elab.async false
set_option maxRecDepth 100000
set_option autoImplicit false
namespace Kx
open PySem L2 PySem.Spec PyProof.Rows Rg
/-! ### the machine's fields -/
theorem f12 : ¬ (("_signs" : Str) = "_steps") := by decide +kernel
theorem f13 : ¬ (("_signs" : Str) = "_told") := by decide +kernel
theorem f23 : ¬ (("_steps" : Str) = "_told") := by decide +kernel
def mf1 (z : Str) : List (Str × V) := putF "_signs" (.str z) []
def mf2 (z : Str) (st : Addr) : List (Str × V) := putF "_steps" (.ref st) (mf1 z)
def mf (z : Str) (st tt : Addr) : List (Str × V) := putF "_told" (.ref tt) (mf2 z st)
theorem mf1_len (z : Str) : (mf1 z).length < 1000 := by show 1 < 1000; decide
theorem mf2_eq (z : Str) (st : Addr) : mf2 z st = ([("_signs", V.str z), ("_steps", V.ref st)] : List (Str × V)) := by
  show (if ("_signs" : Str) = "_steps" then [(("_signs" : Str), V.ref st)] else (("_signs" : Str), V.str z) :: putF "_steps" (V.ref st) []) = ([("_signs", V.str z), ("_steps", V.ref st)] : List (Str × V))
  rw [if_neg f12]
  all_goals rfl
theorem mf2_len (z : Str) (st : Addr) : (mf2 z st).length < 1000 := by rw [mf2_eq]; show 2 < 1000; decide
theorem mf_signs (z : Str) (st tt : Addr) : (mf z st tt).lookup ("_signs" : Str) = some (.str z) := by
  unfold mf mf2 mf1
  rw [lookup_putF, if_neg f13, lookup_putF, if_neg f12, lookup_putF, if_pos rfl]
theorem mf_steps (z : Str) (st tt : Addr) : (mf z st tt).lookup ("_steps" : Str) = some (.ref st) := by
  unfold mf mf2
  rw [lookup_putF, if_neg f23, lookup_putF, if_pos rfl]
theorem mf_told (z : Str) (st tt : Addr) : (mf z st tt).lookup ("_told" : Str) = some (.ref tt) := by
  unfold mf
  rw [lookup_putF, if_pos rfl]
theorem mf_no (z : Str) (st tt : Addr) {m : Str} (h1 : ¬ m = "_signs") (h2 : ¬ m = "_steps") (h3 : ¬ m = "_told") : (mf z st tt).lookup m = none := by
  unfold mf mf2 mf1
  rw [lookup_putF, if_neg h3, lookup_putF, if_neg h2, lookup_putF, if_neg h1]
  all_goals rfl
/-- at p a machine: signs, steps, told -/
def Mach (C : Addr) (H : Hp) (p : Addr) (z : Str) (tb : List (List Int)) (mk : List Bool) : Prop := ∃ dx st tt, H p = some (.ins C dx (mf z st tt)) ∧ TupTab H st tb ∧ H tt = some (.tup (mk.map V.bl))
theorem Same.sq {H H' : Hp} (e : Same H H') {a : Addr} {xs : List V} (h : Sq H a xs) : Sq H' a xs := h.same e
theorem sq_ne {H : Hp} {a p C dx : Addr} {xs : List V} {fs : List (Str × V)} (h : Sq H a xs) (e : H p = some (.ins C dx fs)) : a ≠ p := by
  rintro rfl
  rcases h with h | h <;> (rw [h] at e; cases e)
theorem Sq.ext {H H' : Hp} {a p : Addr} {xs : List V} (h : Sq H a xs) (n : a ≠ p) (e : Ext1 p H H') : Sq H' a xs := h.elim (fun q => .inl (e _ _ n q)) fun q => .inr (e _ _ n q)
theorem Same.ext1 {H H' : Hp} (p : Addr) (e : Same H H') : Ext1 p H H' := fun b o _ q => e b o q

structure MT (K : PySem.W.Frag) (mg : Str → Option Value) (C : Addr) : Prop where
  cl : Cls K C
  n1 : NoAttr K C "_signs"
  n2 : NoAttr K C "_steps"
  n3 : NoAttr K C "_told"
  mgC : mg "Machine" = some (.ref C)

def rTup (K : PySem.W.Frag) : List V → Hp → VK → Prop := fun xs H Q => ∃ p ys, xs = [.ref p] ∧ ((SqL K H p ys ∧ ∀ l, H l = none → Q (.ref l) (upd H l (.tup ys))) ∨ (SqT K H p ys ∧ Q (.ref p) H))
theorem bTup {X : Cx} {e : Expr} {te : TE} {p pos : Pos} (hg : Gl X "tuple") (m : X.mg "tuple" = none) (he : PE X e te) (na : starEach [e] X.env = (false, eval e X.env) :: starEach [] X.env := by rfl) : PE X (.Call (.Name "tuple" p) [e] [] pos) (tCB (rTup X.K) (tCons te tNil)) :=
  pe_callTy call_tuple_of hg m (by decide +kernel) (pa_cons he pa_nil na) (he := na)
/-- tuple of a list or of a tuple, over a heap that only grows -/
theorem rTup_of {K : PySem.W.Frag} {H : Hp} {a : Addr} {xs : List V} {Q : VK} (h : Sq H a xs) (k : ∀ l H', Same H H' → (∀ b, H b ≠ none → H' b = H b) → H' l = some (.tup xs) → Q (.ref l) H') : rTup K [.ref a] H Q := by
  rcases h with h | h
  · exact ⟨a, xs, rfl, .inl ⟨SqL.of h, fun l hl => k l _ (Same.new hl) (fun b nb => upd_ne fun q => nb (q ▸ hl)) upd_same⟩⟩
  · exact ⟨a, xs, rfl, .inr ⟨SqT.of h, k a H (Same.refl H) (fun _ _ => rfl) h⟩⟩

def spInit (C : Addr) : Sp := fun vs H Q _ => ∃ (p dx a b : Addr) (z : Str) (xs : List V) (tb : List (List Int)) (mk : List Bool), vs = [.ref p, .str z, .ref a, .ref b] ∧ H p = some (.ins C dx []) ∧ Zok z ∧ Sq H a xs ∧ Rows (Sq H) xs tb ∧ Tab z tb ∧ Sq H b (mk.map V.bl) ∧ mk.length = tb.length ∧
  ∀ H', Ext1 p H H' → Mach C H' p z tb mk → Q .non H'
section
variable {P : Program} {w : World} {K : PySem.W.Frag} {mg : Str → Option Value} {base : Heap}
theorem scInit : FnScope ["self", "signs", "steps", "told", "onward"] ["self", "signs", "steps", "told"] (defScope sInit) := ⟨rfl, rfl, rfl, by decide +kernel, rfl, by decide +kernel, by decide +kernel⟩
theorem ok_init {C f f1 f2 f3 : Addr} {fd fd1 fd2 fd3 : FuncData} (F : Fun K "__init__" "Machine.__init__" sInit f fd) (T : Txt mg) (M : MT K mg C)
    (G1 : FnOk P w K mg base CX0 3 f1 fd1 ["value"] spCheckSigns) (m1 : mg "check_signs" = some (.ref f1)) (k1 : PySem.W.keepIn K (.ref f1) = true) (b1 : Binds K fd1 ["value"] [])
    (G2 : FnOk P w K mg base CX0 4 f2 fd2 ["value", "many"] spAreSteps) (m2 : mg "are_steps" = some (.ref f2)) (k2 : PySem.W.keepIn K (.ref f2) = true) (b2 : Binds K fd2 ["value", "many"] [])
    (G3 : FnOk P w K mg base CX0 1 f3 fd3 ["value", "many"] spAreAnswers) (m3 : mg "are_answers" = some (.ref f3)) (k3 : PySem.W.keepIn K (.ref f3) = true) (b3 : Binds K fd3 ["value", "many"] []) :
    FnOk P w K mg base CX0 5 f fd ["self", "signs", "steps", "told"] (spInit C) := by
  refine F.ok scInit (fun vs H Q E h => ?_) (fun cdv A outer s H vs Q E hr h => ?_)
  · obtain ⟨p, dx, a, b, z, xs, tb, mk, rfl, _⟩ := h
    rfl
  · obtain ⟨p, dx, a, b, z, xs, tb, mk, rfl, hp, Z, sa, rows, Tb, sb, ml, k⟩ := h
    have nd := scInit.nd
    have hr3 := hr.mono (show 3 ≤ 4 by decide)
    have hr1 := hr.mono (show 1 ≤ 4 by decide)
    refine ⟨_, pss_cons (ps_expr (pe_call G1 hr3 (by rfl) m1 k1 b1 .nil pass0 (pa_cons (pv 1) pa_nil)))
      (pss_cons (ps_if (pt_not (pt_val (pe_call G2 hr (by rfl) m2 k2 b2 .nil pass0 (pa_cons (pv 2) (pa_cons (bLen (by rfl) T.len (pv 1)) pa_nil))))) (pss_one ps_never) pss_nil)
      (pss_cons (ps_if (pt_not (pt_val (pe_call G3 hr1 (by rfl) m3 k3 b3 .nil pass0 (pa_cons (pv 3) (pa_cons (bLen (by rfl) T.len (pv 2)) pa_nil))))) (pss_one ps_never) pss_nil)
      (pss_cons (ps_fld (pv 0) (pv 1) rfl)
      (pss_cons (ps_fld (pv 0) (bTup (by rfl) T.tuple (pe_lc (own := [("onward", 4)]) (g := gName 4) (tt := tYes) (te := tCB (rTup K) (tCons (tVar 4) tNil)) rfl nd (PI_or (pi_list (pv 2)) (pi_tup (pv 2))) (blkOk_by (N := ["self", "signs", "steps", "told", "onward"]) (sc := defScope sInit) (by decide +kernel))
        (fun _ _ _ _ _ => pg_name (i := 4) nd rfl (Or.inl rfl)) (fun _ _ _ _ _ => pts_nil) (fun _ _ _ _ _ => bTup (by rfl) T.tuple (pv 4)))) rfl)
      (pss_one (ps_fld (pv 0) (bTup (by rfl) T.tuple (pv 3)) rfl)))))), ?_⟩
    have zf := Z.few
    have hx := rows.1
    refine ⟨_, rfl, z, rfl, Z, ?_⟩
    refine ⟨_, rfl, _, rfl, _, z.length, rfl, ⟨len_small (by omega), rfl⟩, a, z, xs, tb, rfl, sa, rows, Z, Tb, fun H1 s1 => ⟨true, rfl, iteF ?_⟩⟩
    refine ⟨_, rfl, _, rfl, _, _, rfl, (sa.same s1).len, b, mk, ?_, sb.same s1, by have := Tb.few; omega, fun H2 s2 => ⟨true, rfl, iteF ?_⟩⟩
    · rw [hx, ml]
      rfl
    have s02 : Same H H2 := Same.trans s1 s2
    have hp2 := s02 _ _ hp
    have na := sq_ne sa hp
    have nb := sq_ne sb hp
    refine ⟨_, rfl, _, rfl, p, C, dx, [], rfl, hp2, M.cl, M.n1, by show 0 < 1000; decide, ?_⟩
    have h3p : upd H2 p (.ins C dx (putF "_signs" (.str z) [])) p = some (.ins C dx (mf1 z)) := upd_same
    have x3 : Ext1 p H (upd H2 p (.ins C dx (putF "_signs" (.str z) []))) := Ext1.trans (Same.ext1 p s02) Ext1.put
    generalize upd H2 p (.ins C dx (putF "_signs" (.str z) [])) = H3 at h3p x3 ⊢
    have sa3 : Sq H3 a xs := sa.ext na x3
    have sb3 : Sq H3 b (mk.map V.bl) := sb.ext nb x3
    have rows3 : Rows (Sq H3) xs tb := rows.mono fun r ys h => h.ext (sq_ne h hp) x3
    have few' : xs.length < sizeLine := by have := Tb.few; rw [sizeLine_eq]; omega
    have rest : ∀ (D : Addr) (H' : Hp) (acc : List V), H3 D = none → H' D = some (.lst acc) → acc.length = xs.length → (Same H3 H' ∧ ∀ j, j < xs.length → ∃ r, acc[j]? = some (.ref r) ∧ H' r = some (.tup ((tb.getD j []).map V.int))) →
        rTup K [.ref D] H' fun y H5 => tVar 0 (L2.start ["self", "signs", "steps", "told", "onward"] [V.ref p, .str z, .ref a, .ref b]) H5 fun x H6 => ∃ a1 C dx fs, x = .ref a1 ∧ H6 a1 = some (.ins C dx fs) ∧ Cls K C ∧ NoAttr K C "_steps" ∧ fs.length < 1000 ∧
          sFld K (tVar 0) (tCB (rTup K) (tCons (tVar 3) tNil)) "_told" { nx := fun _ H' => Q .non H', rt := Q } (L2.start ["self", "signs", "steps", "told", "onward"] [V.ref p, .str z, .ref a, .ref b]) (upd H6 a1 (.ins C dx (putF "_steps" y fs))) := by
      intro D H' acc dn hD hl ⟨s4, hr4⟩
      refine rTup_of (.inl hD) fun st H5 s5 _ hst => ?_
      have p5 : H5 p = some (.ins C dx (mf1 z)) := s5 _ _ (s4 _ _ h3p)
      refine ⟨_, rfl, p, C, dx, _, rfl, p5, M.cl, M.n2, mf1_len z, ?_⟩
      refine ⟨_, rfl, ?_⟩
      dsimp only [tNil]
      refine rTup_of (xs := mk.map V.bl) ?_ fun tt H7 s7 _ htt => ?_
      · exact ((sb3.same s4).same s5).ext nb Ext1.put
      have p6 : H7 p = some (.ins C dx (mf2 z st)) := s7 _ _ upd_same
      refine ⟨_, rfl, p, C, dx, _, rfl, p6, M.cl, M.n3, mf2_len z st, ?_⟩
      have tp : ∀ {l : Addr} {ys : List V}, H5 l = some (.tup ys) → upd H7 p (.ins C dx (mf z st tt)) l = some (.tup ys) := fun {l ys} e => by
        have n : l ≠ p := by rintro rfl; rw [p5] at e; cases e
        rw [upd_ne n]
        refine s7 _ _ ?_
        rw [upd_ne n]; exact e
      refine k _ ?_ ⟨dx, st, tt, upd_same, ⟨acc, tp hst, hl.trans hx, fun j hj => ?_⟩, ?_⟩
      · exact Ext1.trans x3 (Ext1.trans (Same.ext1 p s4) (Ext1.trans (Same.ext1 p s5) (Ext1.trans Ext1.put (Ext1.trans (Same.ext1 p s7) Ext1.put))))
      · obtain ⟨r, e1, e2⟩ := hr4 j (by omega)
        exact ⟨r, e1, tp (s5 _ _ e2)⟩
      · have n : tt ≠ p := by rintro rfl; rw [p6] at htt; cases htt
        rw [upd_ne n]; exact htt
    have el : ∀ (D : Addr) (i : Nat) (x : V) (H' : Hp) (acc : List V) (Q' : VK), H3 D = none → xs[i]? = some x → H' D = some (.lst acc) → acc.length = i → (Same H3 H' ∧ ∀ j, j < i → ∃ r, acc[j]? = some (.ref r) ∧ H' r = some (.tup ((tb.getD j []).map V.int))) →
        (∀ y H4, H4 D = some (.lst acc) → (Same H3 (upd H4 D (.lst (acc ++ [y]))) ∧ ∀ j, j < i + 1 → ∃ r, (acc ++ [y])[j]? = some (.ref r) ∧ upd H4 D (.lst (acc ++ [y])) r = some (.tup ((tb.getD j []).map V.int))) → Q' y H4) →
        tCB (rTup K) (tCons (tVar 4) tNil) ((wipe (L2.start ["self", "signs", "steps", "told", "onward"] [V.ref p, .str z, .ref a, .ref b]) [4]).set 4 (some x)) H' Q' := by
      intro D i x H' acc Q' dn hxi hD hl ⟨s4, hr4⟩ q
      have hi : i < tb.length := by
        have := (List.getElem?_eq_some_iff.mp hxi).1
        omega
      obtain ⟨r, e1, e2⟩ := rows3.2 i hi
      rw [e1] at hxi
      cases hxi
      refine ⟨_, rfl, rTup_of (e2.same s4) fun l H5 s5 _ h5 => q _ H5 (s5 _ _ hD) ⟨Same.putNew dn (Same.trans s4 s5), fun j hj => ?_⟩⟩
      have nD : ∀ {c : Addr} {ys : List V}, H5 c = some (.tup ys) → c ≠ D := fun {c ys} e => by rintro rfl; rw [s5 _ _ hD] at e; cases e
      rcases Nat.lt_succ_iff_lt_or_eq.mp hj with hj | rfl
      · obtain ⟨r, e3, e4⟩ := hr4 j hj
        refine ⟨r, ?_, ?_⟩
        · rw [List.getElem?_append_left (by omega)]; exact e3
        · rw [upd_ne (nD (s5 _ _ e4))]; exact s5 _ _ e4
      · refine ⟨l, ?_, ?_⟩
        · rw [← hl]; simp
        · rw [upd_ne (nD h5)]; exact h5
    rcases sa3 with hl | ht
    · refine .inl ⟨_, rfl, a, rfl, ⟨_, SqL.of hl⟩, fun D hD => lcGen walk_list (fun i H' acc => Same H3 H' ∧ ∀ j, j < i → ∃ r, acc[j]? = some (.ref r) ∧ H' r = some (.tup ((tb.getD j []).map V.int))) few' ⟨Same.new hD, fun j hj => absurd hj (Nat.not_lt_zero _)⟩ (fun i H' acc _ q => SqL.of (q.1 _ _ hl)) (fun _ _ _ _ y => y.1)
        (fun i x H' acc Q' _ h1 h2 h3 y h4 => el D i x H' acc Q' hD y.2 h1 h2 h3 h4) (fun H' acc h1 h2 h3 => rest D H' acc hD h1 h2 h3)⟩
    · refine .inr ⟨_, rfl, a, rfl, ⟨_, SqT.of ht⟩, fun D hD => lcGen walk_tup (fun i H' acc => Same H3 H' ∧ ∀ j, j < i → ∃ r, acc[j]? = some (.ref r) ∧ H' r = some (.tup ((tb.getD j []).map V.int))) few' ⟨Same.new hD, fun j hj => absurd hj (Nat.not_lt_zero _)⟩ (fun i H' acc _ q => SqT.of (q.1 _ _ ht)) (fun _ _ _ _ y => y.1)
        (fun i x H' acc Q' _ h1 h2 h3 y h4 => el D i x H' acc Q' hD y.2 h1 h2 h3 h4) (fun H' acc h1 h2 h3 => rest D H' acc hD h1 h2 h3)⟩
end
end Kx
set_option Elab.async false
set_option maxRecDepth 100000
set_option autoImplicit false
namespace Kx
open PySem L2 PySem.Spec PyProof.Rows Rg
def spLen (C : Addr) : Sp := fun vs H Q _ => ∃ p z tb mk, vs = [.ref p] ∧ Mach C H p z tb mk ∧ Q (.int (tb.length : Nat)) H
def spState (C : Addr) : Sp := fun vs H Q _ => ∃ p z tb mk wd, vs = [.ref p, .str wd] ∧ Mach C H p z tb mk ∧ Zok z ∧ Tab z tb ∧ Word z wd ∧ wd.length ≤ 1000 ∧ Q (.int (runZ z tb 0 wd.cps.toList)) H
def spStep (C : Addr) : Sp := fun vs H Q _ => ∃ p z tb mk s wd, vs = [.ref p, .int s, .str wd] ∧ Mach C H p z tb mk ∧ Zok z ∧ Tab z tb ∧ 0 ≤ s ∧ s < tb.length ∧ Word z wd ∧ wd.length ≤ 1000 ∧ Q (.int (runZ z tb s wd.cps.toList)) H
def markZ (z : Str) (tb : List (List Int)) (mk : List Bool) (wd : Str) : Bool := mk.getD (runZ z tb 0 wd.cps.toList).toNat false
def spItem (C : Addr) : Sp := fun vs H Q _ => ∃ p z tb mk wd, vs = [.ref p, .str wd] ∧ Mach C H p z tb mk ∧ Zok z ∧ Tab z tb ∧ mk.length = tb.length ∧ Word z wd ∧ wd.length ≤ 1000 ∧ Q (.bl (markZ z tb mk wd)) H
section
variable {P : Program} {w : World} {K : PySem.W.Frag} {mg : Str → Option Value} {base : Heap}
theorem scSigns : FnScope ["self"] ["self"] (defScope sSigns) := ⟨rfl, rfl, rfl, by decide +kernel, rfl, by decide +kernel, by decide +kernel⟩
theorem ok_signs {C f : Addr} {fd : FuncData} (F : Fun K "signs" "Machine.signs" sSigns f fd) (M : MT K mg C) : FnOk P w K mg base CX0 1 f fd ["self"] (getSp C "_signs") := by
  refine F.ok scSigns (fun vs H Q E h => ?_) (fun cdv A outer s H vs Q E hr h => ?_)
  · obtain ⟨a, dx, fs, v, rfl, _⟩ := h
    rfl
  · obtain ⟨a, dx, fs, v, rfl, e, l, q⟩ := h
    exact ⟨_, pss_one (ps_ret (pe_fld (pv 0) rfl)), _, rfl, a, C, dx, fs, v, rfl, e, M.cl, M.n1, l, q⟩
theorem scSteps : FnScope ["self"] ["self"] (defScope sSteps) := ⟨rfl, rfl, rfl, by decide +kernel, rfl, by decide +kernel, by decide +kernel⟩
theorem ok_steps {C f : Addr} {fd : FuncData} (F : Fun K "steps" "Machine.steps" sSteps f fd) (M : MT K mg C) : FnOk P w K mg base CX0 1 f fd ["self"] (getSp C "_steps") := by
  refine F.ok scSteps (fun vs H Q E h => ?_) (fun cdv A outer s H vs Q E hr h => ?_)
  · obtain ⟨a, dx, fs, v, rfl, _⟩ := h
    rfl
  · obtain ⟨a, dx, fs, v, rfl, e, l, q⟩ := h
    exact ⟨_, pss_one (ps_ret (pe_fld (pv 0) rfl)), _, rfl, a, C, dx, fs, v, rfl, e, M.cl, M.n2, l, q⟩
theorem scTold : FnScope ["self"] ["self"] (defScope sTold) := ⟨rfl, rfl, rfl, by decide +kernel, rfl, by decide +kernel, by decide +kernel⟩
theorem ok_told {C f : Addr} {fd : FuncData} (F : Fun K "told" "Machine.told" sTold f fd) (M : MT K mg C) : FnOk P w K mg base CX0 1 f fd ["self"] (getSp C "_told") := by
  refine F.ok scTold (fun vs H Q E h => ?_) (fun cdv A outer s H vs Q E hr h => ?_)
  · obtain ⟨a, dx, fs, v, rfl, _⟩ := h
    rfl
  · obtain ⟨a, dx, fs, v, rfl, e, l, q⟩ := h
    exact ⟨_, pss_one (ps_ret (pe_fld (pv 0) rfl)), _, rfl, a, C, dx, fs, v, rfl, e, M.cl, M.n3, l, q⟩
theorem scLen : FnScope ["self"] ["self"] (defScope sLen) := ⟨rfl, rfl, rfl, by decide +kernel, rfl, by decide +kernel, by decide +kernel⟩
theorem ok_len {C f : Addr} {fd : FuncData} (F : Fun K "__len__" "Machine.__len__" sLen f fd) (T : Txt mg) (M : MT K mg C) : FnOk P w K mg base CX0 1 f fd ["self"] (spLen C) := by
  refine F.ok scLen (fun vs H Q E h => ?_) (fun cdv A outer s H vs Q E hr h => ?_)
  · obtain ⟨p, z, tb, mk, rfl, _⟩ := h
    rfl
  · obtain ⟨p, z, tb, mk, rfl, ⟨dx, st, tt, hp, ⟨xs, hs, rows⟩, ht⟩, q⟩ := h
    refine ⟨_, pss_one (ps_ret (bLen (by rfl) T.len (pe_fld (pv 0) rfl))), ?_⟩
    refine ⟨_, rfl, p, C, dx, _, _, rfl, hp, M.cl, M.n2, mf_steps _ _ _, _, _, rfl, Sq.len (.inr hs), ?_⟩
    rw [rows.1]
    exact q
theorem scState : FnScope ["self", "row"] ["self", "row"] (defScope sState) := ⟨rfl, rfl, rfl, by decide +kernel, rfl, by decide +kernel, by decide +kernel⟩
theorem ok_state {C f f1 f2 : Addr} {fd fd1 fd2 : FuncData} (F : Fun K "state" "Machine.state" sState f fd) (M : MT K mg C)
    (G1 : FnOk P w K mg base CX0 2 f1 fd1 ["signs", "value"] spWrong) (m1 : mg "check_row" = some (.ref f1)) (k1 : PySem.W.keepIn K (.ref f1) = true) (b1 : Binds K fd1 ["signs", "value"] [])
    (G2 : FnOk P w K mg base CX0 1 f2 fd2 ["signs", "steps", "state", "text"] spLedOn) (m2 : mg "led_on" = some (.ref f2)) (k2 : PySem.W.keepIn K (.ref f2) = true) (b2 : Binds K fd2 ["signs", "steps", "state", "text"] []) : FnOk P w K mg base CX0 3 f fd ["self", "row"] (spState C) := by
  refine F.ok scState (fun vs H Q E h => ?_) (fun cdv A outer s H vs Q E hr h => ?_)
  · obtain ⟨p, z, tb, mk, wd, rfl, _⟩ := h
    rfl
  · obtain ⟨p, z, tb, mk, wd, rfl, ⟨dx, st, tt, hp, hs, ht⟩, Z, Tb, hw, hl, q⟩ := h
    have hr1 := hr.mono (show 1 ≤ 2 by decide)
    have tp := Tb.pos
    refine ⟨_, pss_cons (ps_expr (pe_call G1 hr (by rfl) m1 k1 b1 .nil pass0 (pa_cons (pe_fld (pv 0) rfl) (pa_cons (pv 1) pa_nil))))
      (pss_one (ps_ret (pe_call G2 hr1 (by rfl) m2 k2 b2 .nil pass0 (pa_cons (pe_fld (pv 0) rfl) (pa_cons (pe_fld (pv 0) rfl) (pa_cons pe_int (pa_cons (pv 1) pa_nil))))))), ?_⟩
    refine ⟨_, rfl, p, C, dx, _, _, rfl, hp, M.cl, M.n1, mf_signs _ _ _, _, rfl, z, wd, rfl, hw, hl, ?_⟩
    exact ⟨_, rfl, p, C, dx, _, _, rfl, hp, M.cl, M.n1, mf_signs _ _ _, _, rfl, p, C, dx, _, _, rfl, hp, M.cl, M.n2, mf_steps _ _ _, _, rfl, z, st, tb, 0, wd, rfl, Z, Tb, hs, by decide, by omega, hw, q⟩
theorem scStep : FnScope ["self", "state", "text"] ["self", "state", "text"] (defScope sStep) := ⟨rfl, rfl, rfl, by decide +kernel, rfl, by decide +kernel, by decide +kernel⟩
theorem ok_step {C f f1 f2 f3 : Addr} {fd fd1 fd2 fd3 : FuncData} (F : Fun K "step" "Machine.step" sStep f fd) (T : Txt mg) (M : MT K mg C)
    (G1 : FnOk P w K mg base CX0 2 f1 fd1 ["signs", "value"] spWrong) (m1 : mg "check_row" = some (.ref f1)) (k1 : PySem.W.keepIn K (.ref f1) = true) (b1 : Binds K fd1 ["signs", "value"] [])
    (G2 : FnOk P w K mg base CX0 1 f2 fd2 ["signs", "steps", "state", "text"] spLedOn) (m2 : mg "led_on" = some (.ref f2)) (k2 : PySem.W.keepIn K (.ref f2) = true) (b2 : Binds K fd2 ["signs", "steps", "state", "text"] [])
    (G3 : FnOk P w K mg base CX0 2 f3 fd3 ["value", "low", "high"] spFromTo) (m3 : mg "is_from_to" = some (.ref f3)) (k3 : PySem.W.keepIn K (.ref f3) = true) (b3 : Binds K fd3 ["value", "low", "high"] []) : FnOk P w K mg base CX0 3 f fd ["self", "state", "text"] (spStep C) := by
  refine F.ok scStep (fun vs H Q E h => ?_) (fun cdv A outer s H vs Q E hr h => ?_)
  · obtain ⟨p, z, tb, mk, i, wd, rfl, _⟩ := h
    rfl
  · obtain ⟨p, z, tb, mk, i, wd, rfl, ⟨dx, st, tt, hp, hs, ht⟩, Z, Tb, i0, i1, hw, hl, q⟩ := h
    have hr1 := hr.mono (show 1 ≤ 2 by decide)
    have ⟨xs, hx, rows⟩ := id hs
    refine ⟨_, pss_cons (ps_if (pt_not (pt_val (pe_call G3 hr (by rfl) m3 k3 b3 .nil pass0 (pa_cons (pv 1) (pa_cons pe_int (pa_cons (pe_op op_sub (bLen (by rfl) T.len (pe_fld (pv 0) rfl)) pe_int) pa_nil)))))) (pss_one ps_never) pss_nil)
      (pss_cons (ps_expr (pe_call G1 hr (by rfl) m1 k1 b1 .nil pass0 (pa_cons (pe_fld (pv 0) rfl) (pa_cons (pv 2) pa_nil))))
      (pss_one (ps_ret (pe_call G2 hr1 (by rfl) m2 k2 b2 .nil pass0 (pa_cons (pe_fld (pv 0) rfl) (pa_cons (pe_fld (pv 0) rfl) (pa_cons (pv 1) (pa_cons (pv 2) pa_nil)))))))), ?_⟩
    refine ⟨_, rfl, _, rfl, p, C, dx, _, _, rfl, hp, M.cl, M.n2, mf_steps _ _ _, _, _, rfl, Sq.len (.inr hx), _, _, rfl, rfl, i, 0, _, rfl, ?_⟩
    have e1 : decide ((0 : Int) ≤ i) = true := decide_eq_true i0
    have e2 : decide (i ≤ ((xs.length : Nat) : Int) - 1) = true := decide_eq_true (by rw [rows.1]; omega)
    rw [e1, e2]
    refine ⟨_, rfl, iteF ?_⟩
    refine ⟨_, rfl, p, C, dx, _, _, rfl, hp, M.cl, M.n1, mf_signs _ _ _, _, rfl, z, wd, rfl, hw, hl, ?_⟩
    exact ⟨_, rfl, p, C, dx, _, _, rfl, hp, M.cl, M.n1, mf_signs _ _ _, _, rfl, p, C, dx, _, _, rfl, hp, M.cl, M.n2, mf_steps _ _ _, _, rfl, _, rfl, z, st, tb, i, wd, rfl, Z, Tb, hs, i0, i1, hw, q⟩
theorem scItem : FnScope ["self", "at"] ["self", "at"] (defScope sItem) := ⟨rfl, rfl, rfl, by decide +kernel, rfl, by decide +kernel, by decide +kernel⟩
theorem ok_item {C f f1 : Addr} {fd fd1 : FuncData} (F : Fun K "__getitem__" "Machine.__getitem__" sItem f fd) (M : MT K mg C)
    (G1 : FnOk P w K mg base CX0 3 f1 fd1 ["self", "row"] (spState C)) (m1 : Meth K C "state" f1) (b1 : Binds K fd1 ["self", "row"] []) : FnOk P w K mg base CX0 4 f fd ["self", "at"] (spItem C) := by
  refine F.ok scItem (fun vs H Q E h => ?_) (fun cdv A outer s H vs Q E hr h => ?_)
  · obtain ⟨p, z, tb, mk, wd, rfl, _⟩ := h
    rfl
  · obtain ⟨p, z, tb, mk, wd, rfl, m, Z, Tb, ml, hw, hl, q⟩ := h
    obtain ⟨dx, st, tt, hp, hs, ht⟩ := id m
    refine ⟨_, pss_one (ps_ret (pe_ix ix_tup (pe_fld (pv 0) rfl) (pe_meth (pv 0) M.cl m1 G1 hr b1 .nil pass0 (pa_cons (pv 1) pa_nil)) (fun _ _ => rfl))), ?_⟩
    refine ⟨_, rfl, p, C, dx, _, _, rfl, hp, M.cl, M.n3, mf_told _ _ _, _, rfl, p, dx, _, rfl, hp, mf_no _ _ _ (by decide +kernel) (by decide +kernel) (by decide +kernel), _, rfl, p, z, tb, mk, wd, rfl, m, Z, Tb, hw, hl, ?_⟩
    obtain ⟨r0, r1⟩ := runZ_ok Z Tb wd.cps.toList (s := 0) (by decide) (by have := Tb.pos; omega) hw
    refine ⟨tt, _, _, _, rfl, rfl, SqT.of ht, atI_int r0 ?_, q⟩
    unfold markZ
    have hb : (runZ z tb 0 wd.cps.toList).toNat < mk.length := by omega
    rw [List.getElem?_map, List.getD_eq_getElem?_getD, List.getElem?_eq_getElem hb]
    rfl
theorem scHas : FnScope ["self", "x"] ["self", "x"] (defScope sHas) := ⟨rfl, rfl, rfl, by decide +kernel, rfl, by decide +kernel, by decide +kernel⟩
theorem ok_has {C f f1 f2 : Addr} {fd fd1 fd2 : FuncData} (F : Fun K "__contains__" "Machine.__contains__" sHas f fd) (M : MT K mg C)
    (G1 : FnOk P w K mg base CX0 1 f1 fd1 ["signs", "value"] spWrong) (m1 : mg "wrong_at" = some (.ref f1)) (k1 : PySem.W.keepIn K (.ref f1) = true) (b1 : Binds K fd1 ["signs", "value"] [])
    (G2 : FnOk P w K mg base CX0 4 f2 fd2 ["self", "at"] (spItem C)) (a2 : PySem.W.findIn K (.ref C) "__getitem__" = some (some (.ref f2))) (i2 : PySem.W.fnIn K f2 = true) (n2 : PySem.W.isFn K (.ref f2) = true) (b2 : Binds K fd2 ["self", "at"] []) : FnOk P w K mg base CX0 6 f fd ["self", "x"] (spItem C) := by
  refine F.ok scHas (fun vs H Q E h => ?_) (fun cdv A outer s H vs Q E hr h => ?_)
  · obtain ⟨p, z, tb, mk, wd, rfl, _⟩ := h
    rfl
  · obtain ⟨p, z, tb, mk, wd, rfl, m, Z, Tb, ml, hw, hl, q⟩ := h
    obtain ⟨dx, st, tt, hp, hs, ht⟩ := id m
    have hr1 := hr.mono (show 1 ≤ 5 by decide)
    refine ⟨_, pss_one (ps_ret (pe_and (pe_cmp (pc_isN (pe_call G1 hr1 (by rfl) m1 k1 b1 .nil pass0 (pa_cons (pe_fld (pv 0) rfl) (pa_cons (pv 1) pa_nil))))) (pe_one (pe_item G2 hr b2 pass0 a2 i2 n2 (pv 0) (pv 1))))), ?_⟩
    refine ⟨_, rfl, p, C, dx, _, _, rfl, hp, M.cl, M.n1, mf_signs _ _ _, _, rfl, z, wd, rfl, hw, hl, ?_⟩
    refine ⟨true, rfl, iteT ⟨_, rfl, _, rfl, p, dx, _, rfl, hp, p, z, tb, mk, wd, rfl, m, Z, Tb, ml, hw, hl, q⟩⟩
end
end Kx
set_option Elab.async false
set_option maxRecDepth 100000
set_option autoImplicit false
/-! An error class of the program whose __init__ hands a text to the one above and keeps its fields. -/
namespace Er
open PySem L2 PySem.Spec PyProof.Rows PySem.Calls
abbrev veInit : String := "ValueError.__init__"
section
variable {prog : Program} {w : World} {A : Around} {E : Value → Shared → Prop} {K : PySem.W.Frag} {h : Heap} {g : Array GenState} {d : Drawn} {t : Nat} {os : OsState}
variable {nm q : Str} {C N : Addr} {bs bm : List Value} {sn : List Str} {sub : List Value} {ab : Bool} {col : Option Bool} {dd : Option Addr} {k0 k1 k2 k3 k5 : Option Value}
/-- the bound wrapper is called: the args are laid, else all stays -/
theorem wrapCall {u e t0 : Addr} {rest : List Value} {Q : Value → Shared → Prop} (hC : h.get? C = some (excClassObj nm q C N bs bm true sn sub ab col dd k0 k1 k2 k3 k5 "ValueError.__new__"))
    (hu : h.get? u = some (PySem.W.kxs_mw veInit e)) (he : h.get? e = some (PySem.HandSPX.excO C t0)) (few : rest.length ≤ sizeLine)
    (go : ∀ h' t1, (∀ b o, b ≠ e → h.get? b = some o → h'.get? b = some o) → h'.get? e = some (PySem.HandSPX.excO C t1) → Q .none ⟨h', g, d, t, os⟩) : wpAny (model prog w) A (call (.ref u) rest) Q E ⟨h, g, d, t, os⟩ := by
  refine wpAny_call (codeAny_of_tree ?_)
  show wpAny (model prog w) A.in1 (callAny (.ref u) ⟨rest, []⟩) _ _ _
  simp only [callAny]
  refine wpAny_bind (wpAny_load hu ?_)
  have k1' : (Value.type "method-wrapper" == Value.type "method" || Value.type "method-wrapper" == Value.type "builtin_function_or_method" || Value.type "method-wrapper" == Value.type "method-wrapper") = true := by decide
  simp only [k1', if_true]
  refine PySem.W.KFB.if_so (by decide) (wpAny_bind ?_)
  refine PySem.W.check_bound_init PySem.F.excBase_ValueError.toExcCallFacts hC he rfl (wpAny_bind (wpAny_pure (wpAny_pure ⟨plainId_quiet PySem.F.excBase_ValueError.init.plain _, codeAny_builtin PySem.F.excBase_ValueError.initEntry ?_⟩)))
  refine PySem.W.exc_init_tree (cls := .ref C) (t0 := t0) (dv := none) (c2 := .none) (c3 := .none) (b4 := .bool false) he few fun h' a b _ => go h' _ a b
/-- what is written of such a class, and of its __init__ at fI, whose cell is at cc, whose code at cda -/
structure ErrC (prog : Program) (K : PySem.W.Frag) (C fI cc cda : Addr) : Prop where
  cls : ∃ nm q N bs bm sn sub ab col dd k0 k1 k2 k3 k5, K.lookup C = some (excClassObj nm q C N bs bm true sn sub ab col dd k0 k1 k2 k3 k5 "ValueError.__new__") ∧ PySem.HandSPX.refsVE bm = true
  sup : PySem.W.ks_superIn K C C "__init__" = some (some (.builtin veInit))
  any_ : PySem.W.nsIn K cStatics "thirdparty.any" = some none
  ve : PySem.W.subIn K (.ref C) (.type "ValueError") = some true
  self_ : PySem.W.mroIn K C (.ref C) = some true
  cell : ∃ cl cld csl, K.lookup cc = some ⟨cl, cld, .cell (some (.ref C)), csl⟩
  code : ∃ ccl cdd vs ccs file tf, K.lookup cda = some ⟨ccl, cdd, .fields vs, ccs⟩ ∧ vs[2]? = some (.str file tf) ∧ ((prog.main.file : Str) == file) = true
  top : (prog.main.scope.names.lookup ("super" : Str)).isSome = false
/-- super().__init__("..") -/
theorem superLine {fI cc cda x L t0 : Addr} {fd : FuncData} {oc : Value} {od : Option Addr} {osl : Array (Option Value)} {ar : Arg} {m mg mb : Str → Option Value} {qual msg : Str} {scope : Scope} {body : List Stmt} {j : Nat} {p0 p1 p2 p3 p4 p5 : Pos} {pl : Sem Bool} {Q : Flow → Shared → Prop}
    (T : ErrC prog K C fI cc cda) (X : K.In h) (lk : K.lookup fI = some ⟨oc, od, .func fd, osl⟩) (hp : (fd.params.posonlyargs ++ fd.params.args).head? = some ar) (hks : scope.names.lookup ("super" : Str) = some .globalImplicit) (hkc : scope.names.lookup ("__class__" : Str) = some .free)
    (hka : scope.names.lookup ar.arg = some .local) (hk : scope.kind = .function) (hns : h.Ns L m) (hself : m ar.arg = some (.ref x)) (hx : h.get? x = some (PySem.HandSPX.excO C t0)) (gl : h.Ns mainGlobals mg) (gs : mg "super" = none) (bl : h.Ns builtinsNs mb) (bb : mb "super" = bootBuiltins "super")
    (go : ∀ h' tk t1, (∀ b o, b ≠ x → h.get? b = some o → h'.get? b = some o) → h'.get? x = some (PySem.HandSPX.excO C t1) → Q .next ⟨h', g, d, tk, os⟩)
    (he : eval (.Call (.Attribute (.Call (.Name "super" p0) [] [] p1) "__init__" p2) [.Constant (.str msg) j p3] [] p4) (PySem.W.ksEnv qual scope L fI (.ref cda) cc) = (do
        let ov ← attributeBase (.Call (.Name "super" p0) [] [] p1) "__init__" (PySem.W.ksEnv qual scope L fI (.ref cda) cc) (eval (.Call (.Name "super" p0) [] [] p1) (PySem.W.ksEnv qual scope L fI (.ref cda) cc))
        standAt p2.atName
        let (f, first) ← holding [ov] (getMethod ov "__init__" pl)
        callWith p4 f first (backTo p4 (starEach [.Constant (.str msg) j p3] (PySem.W.ksEnv qual scope L fI (.ref cda) cc))) []) := by rfl)
    (hi : interactive (PySem.W.ksEnv qual scope L fI (.ref cda) cc) = false := by rfl) (hsw : swapsWith (.Call (.Attribute (.Call (.Name "super" p0) [] [] p1) "__init__" p2) [.Constant (.str msg) j p3] [] p4) none p5.line (PySem.W.ksEnv qual scope L fI (.ref cda) cc) = pure false := by rfl) :
    _root_.PySem.wpAt (model prog w) A (.func body (PySem.W.ksEnv qual scope L fI (.ref cda) cc)) (exec (.Expr (.Call (.Attribute (.Call (.Name "super" p0) [] [] p1) "__init__" p2) [.Constant (.str msg) j p3] [] p4) p5) (PySem.W.ksEnv qual scope L fI (.ref cda) cc)) Q E ⟨h, g, d, t, os⟩ := by
  obtain ⟨nm, q, N, bs, bm, sn, sub, ab, col, dd, k0, k1, k2, k3, k5, hC, hbm⟩ := T.cls
  obtain ⟨ccl, cdd, vs, ccs, file, tf, hcode, hvs, hfile⟩ := T.code
  obtain ⟨cl, cld, csl, hcell⟩ := T.cell
  have hcd : ∃ cd, PySem.W.clsIn K C = some cd ∧ PySem.W.alongIn K "__init__" ((cd.mro.dropWhile (· != .ref C)).drop 1) = some (some (.builtin veInit)) := Option.bind_eq_some_iff.mp T.sup
  obtain ⟨cd, hcd, along⟩ := hcd
  have I0 : PySem.W.InstAt h x (PySem.HandSPX.excO C t0) C none := ⟨hx, rfl, rfl, trivial⟩
  have ne : x ≠ C := PySem.W.ks_ne X I0 hcd
  refine PySem.ks_wpAt_Expr_any (PySem.ks_wpAt_MethodCall (PySem.ks_wpAt_super_base (env := PySem.W.ksEnv qual scope L fI (.ref cda) cc) hks hkc (by decide) rfl (X _ _ lk) rfl hp rfl (X _ _ hcode) rfl hvs hfile T.top ?_) he) hi hsw
  refine PySem.W.ks_loadName_global hk hks (loadGlobal_builtin (env := PySem.W.ksEnv qual scope L fI (.ref cda) cc) gl gs bl (bb.trans (by decide +kernel : bootBuiltins "super" = some (.type "super"))) ⟨rfl, ?_⟩)
  refine wpAny_loadName_free hk hkc rfl ⟨_, X _ _ hcell, rfl⟩ (wpAny_loadName_local hk hka hns hself (PySem.ks_wpAny_isType_cls (X _ _ hC) rfl ⟨rfl, ?_⟩))
  refine PySem.ks_wpAny_call_super (X _ _ hC) rfl hx rfl (fun c e => by cases e) (PySem.W.looks_mroIn X T.self_) (fun h1 hso keep => ?_)
  have X1 := X.keeps keep
  have hx1 := keep _ _ hx
  have I1 : PySem.W.InstAt h1 x (PySem.HandSPX.excO C t0) C none := ⟨hx1, rfl, rfl, trivial⟩
  refine PySem.W.kxs_getMethod PySem.W.kxs_ValueError hso (PySem.W.looks_opaque X1 T.any_) (l₀ := cd.mro) (fun A Q E s k q => wpAny_bind (PySem.W.looks_clsIn X1 hcd A _ E s k (wpAny_pure q))) rfl X1 along (I1.type.andThen (PySem.W.looks_subIn X1 T.ve)) ne (by decide) ?_
  have hu : (h1.push (PySem.W.kxs_mw veInit x)).get? h1.objs.size = some (PySem.W.kxs_mw veInit x) := by heap_get
  have k2 : ∀ b o, h1.get? b = some o → (h1.push (PySem.W.kxs_mw veInit x)).get? b = some o := fun b o e => Heap.get?_push_of_some _ e
  refine PySem.W.kxs_callWith (i := veInit) (x := x) rfl (evalArgs_plain (spliced_cons (@Constant_str _ _ _ _ _ _ j p3 _ (spliced_nil ⟨hu, ?_⟩))))
  have keep2 : ∀ b o, h.get? b = some o → (h1.push (PySem.W.kxs_mw veInit x)).get? b = some o := fun b o e => k2 b o (keep b o e)
  refine wrapCall (X.keeps keep2 _ _ hC) hu (keep2 _ _ hx) (by show 1 ≤ sizeLine; decide) fun h' t1 k3 hx' => ?_
  exact (go h' _ t1 (fun b o n e => k3 b o n (keep2 b o e)) hx')
end
end Er
set_option Elab.async false
set_option maxRecDepth 100000
set_option autoImplicit false
namespace Er
open PySem L2 PySem.Spec PyProof.Rows PySem.Calls
/-! ### such an __init__ as a def of the hand's layer -/
theorem lookup_mem {α : Type} {x : Str} {u : α} : ∀ {l : List (Str × α)}, (l.map (·.1)).Nodup → (x, u) ∈ l → l.lookup x = some u
  | [], _, h => absurd h List.not_mem_nil
  | (y, v) :: r, nd, h => by
    rw [List.map_cons, List.nodup_cons] at nd
    rcases List.mem_cons.mp h with e | h'
    · cases e
      simp [List.lookup]
    · have ne : x ≠ y := by
        rintro rfl
        exact nd.1 (List.mem_map.mpr ⟨(_, u), h', rfl⟩)
      have e : (x == y) = false := by simpa using ne
      simp only [List.lookup, e]
      exact lookup_mem nd.2 h'
theorem zip_rev {ps : List Str} {us : List Value} {i : Nat} {x : Str} {u : Value} (nd : ps.Nodup) (l : us.length = ps.length) (h1 : ps[i]? = some x) (h2 : us[i]? = some u) : (ps.zip us).reverse.lookup x = some u := by
  refine lookup_mem ?_ (List.mem_reverse.mpr ?_)
  · rw [List.map_reverse, List.map_fst_zip (by omega)]
    unfold List.Nodup
    rw [List.pairwise_reverse]
    exact nd.imp fun h => h.symm
  · refine List.mem_of_getElem? (i := i) ?_
    rw [List.getElem?_zip_eq_some]
    exact ⟨h1, h2⟩
def exX (P : Program) (w : World) (K : PySem.W.Frag) (mg : Str → Option Value) (base : Heap) (N : List Str) (qual : Str) (scope : Scope) (f cda cc : Addr) (A : Around) (outer : List Env) (s : Shared) (H : Hp) : Cx where
  prog := P
  w := w
  K := K
  mg := mg
  base := base
  A := A.deeper (PySem.W.ksEnv qual scope s.heap.objs.size f (.ref cda) cc)
  N := N
  s_0 := s
  H_0 := H
  env := PySem.W.ksEnv qual scope s.heap.objs.size f (.ref cda) cc
  outer := outer
  stack := PySem.W.ksEnv qual scope s.heap.objs.size f (.ref cda) cc :: outer
  ex := []
  calm := true
  fn := fun _ => false
  pn := []
  xe := fun _ _ => False
/-- the scope of such an __init__ -/
structure ErrS (ps : List Str) (scope : Scope) : Prop where
  kind : scope.kind = .function
  nd : ps.Nodup
  par : ∀ x ∈ ps, scope.names.lookup x = some .local
  nocell : ∀ x ∈ scope.names, x.2 ≠ .cell
  sup : scope.names.lookup ("super" : Str) = some .globalImplicit
  cls : scope.names.lookup ("__class__" : Str) = some .free
  free : ∀ x, scope.names.lookup x = some .free → x = "__class__"
  self_ : ps[0]? = some ("self" : Str)
  co : scope.isCoroutine = false
  gen : scope.isGenerator = false
section
variable {P : Program} {w : World} {K : PySem.W.Frag} {mg : Str → Option Value} {base : Heap}
theorem start_inv {ps : List Str} {qual : Str} {scope : Scope} {C f cda cc : Addr} {A : Around} {outer : List Env} {s : Shared} {H : Hp} {us : List Value} {vs : List V} {h0 : Heap} {tk : Nat} (S : ErrS ps scope) (T : ErrC P K C f cc cda) (hd : A.handled = none) (e0 : Env0 P w K mg base A outer s H)
    (hl : vs.length = ps.length) (r : Vals vs us) (hns : h0.Ns s.heap.objs.size (fun x => (ps.zip us).reverse.lookup x)) (keep : ∀ b o, s.heap.get? b = some o → h0.get? b = some o) :
    Inv (exX P w K mg base ps qual scope f cda cc A outer s H) [] (L2.start ps vs) H { s with heap := h0, toks := tk } := by
  obtain ⟨cl, cld, csl, hcell⟩ := T.cell
  have bc := e0.mod.kin _ _ hcell
  have one : ∀ {x : Str} {c : Addr}, ([(("__class__" : Str), cc)] : List (Str × Addr)).lookup x = some c → x = "__class__" ∧ c = cc := by
    intro x c e
    by_cases q : x = "__class__"
    · subst q
      have z : some cc = some c := e
      exact ⟨rfl, (Option.some.inj z).symm⟩
    · have q2 : (x == ("__class__" : Str)) = false := by simpa using q
      simp [List.lookup, q2] at e
  have noex : ∀ b : Addr, b ∉ (exX P w K mg base ps qual scope f cda cc A outer s H).ex := fun b z => absurd (show b ∈ ([] : List Addr) from z) (by simp)
  refine ⟨⟨e0.mod, S.kind, rfl, rfl, Nat.le_refl _, fun x y c h1 h2 => ?_, fun x hx => ?_, fun x c z _ => absurd (show false = true from z) Bool.false_ne_true, fun _ => hd, Around.frames_deeper e0.frames, .inr ⟨rfl, rfl⟩, fun b z => absurd z (noex b), e0.bs, e0.bsz, fun b _ _ => noex b, fun b z => absurd z (noex b), e0.funs, e0.frf⟩,
    rfl, e0.bare, Un.kept keep, ⟨_, hns, fun i x v h1 h2 h3 => ?_⟩, fun x c h => ?_, e0.hok.fresh (Nat.le_refl _), fun x c h => ?_, fun p hp => absurd (show p ∈ ([] : List (Addr × Obj)) from hp) (by simp), e0.hok.kept keep, ?_⟩
  · exact (one h1).1.trans (one h2).1.symm
  · have hx' : scope.names.lookup x = some .cell ∨ scope.names.lookup x = some .free := hx
    rcases hx' with z | z
    · exact absurd rfl (S.nocell _ (PySem.mem_of_lookup z))
    · refine ⟨cc, ?_⟩
      show ([(("__class__" : Str), cc)] : List (Str × Addr)).lookup x = some cc
      rw [S.free x z]
      rfl
  · have hi : i < vs.length := by
      have q := (List.getElem?_eq_some_iff.mp h1).1
      have q : i < ps.length := q
      omega
    have ha : vs[i]? = some v := by
      unfold L2.start at h2
      rw [List.getElem?_append_left (by simpa using hi), List.getElem?_map] at h2
      cases e : vs[i]? with
      | none => rw [e] at h2; cases h2
      | some a => rw [e] at h2; cases h2; rfl
    obtain ⟨u, hu, rv⟩ := r.get ha
    have hp : ps[i]? = some x := h1
    exact ⟨u, rv, .inl ⟨S.par x (List.mem_of_getElem? hp), zip_rev S.nd (r.length.symm.trans hl) hp hu⟩⟩
  · obtain ⟨_, rfl⟩ := one h
    exact ⟨_, _, keep _ _ (e0.bs _ _ bc).1, rfl⟩
  · obtain ⟨_, rfl⟩ := one h
    exact (e0.bs _ _ bc).2
  · unfold L2.start
    show _ = ps.length
    rw [List.length_append, List.length_map, List.length_replicate]
    omega
end
end Er
set_option Elab.async false
set_option maxRecDepth 100000
set_option autoImplicit false
namespace Er
open PySem L2 PySem.Spec PyProof.Rows PySem.Calls
section
variable {P : Program} {w : World} {K : PySem.W.Frag} {mg : Str → Option Value} {base : Heap}
theorem ok_err {ps : List Str} {name qual msg : Str} {params : Arguments} {body rest : List Stmt} {scope : Scope} {C f cda cc : Addr} {oc dV kV doc pm ct : Value} {od an : Option Addr} {osl : Array (Option Value)} {ar : Arg} {sp : Sp} {j : Nat} {p0 p1 p2 p3 p4 p5 : Pos} {pl : Sem Bool}
    (T : ErrC P K C f cc cda) (S : ErrS ps scope) (lk : K.lookup f = some ⟨oc, od, .func (PySem.W.ksFn name qual params body scope dV kV doc pm an (.ref cda) ct cc), osl⟩) (hcd : PySem.W.codeIn K (.ref cda) qual = true) (gs : mg "super" = none)
    (hp : (params.posonlyargs ++ params.args).head? = some ar) (har : ar.arg = "self") (hb : body = .Expr (.Call (.Attribute (.Call (.Name "super" p0) [] [] p1) "__init__" p2) [.Constant (.str msg) j p3] [] p4) p5 :: rest)
    (len : ∀ vs H Q E, sp vs H Q E → vs.length = ps.length) (first : ∀ vs H Q E, sp vs H Q E → ∃ a ws, vs = .ref a :: ws ∧ H a = some (exo a C none))
    (hbody : ∀ (A : Around) (outer : List Env) (s : Shared) (H : Hp) (vs : List V) (Q : VK) (E : XK), sp vs H Q E →
      ∃ t, PSs (exX P w K mg base ps qual scope f cda cc A outer s H) rest t ∧ t { nx := fun _ H' => Q .non H', rt := Q } (L2.start ps vs) H)
    (he : ∀ L, eval (.Call (.Attribute (.Call (.Name "super" p0) [] [] p1) "__init__" p2) [.Constant (.str msg) j p3] [] p4) (PySem.W.ksEnv qual scope L f (.ref cda) cc) = (do
        let ov ← attributeBase (.Call (.Name "super" p0) [] [] p1) "__init__" (PySem.W.ksEnv qual scope L f (.ref cda) cc) (eval (.Call (.Name "super" p0) [] [] p1) (PySem.W.ksEnv qual scope L f (.ref cda) cc))
        standAt p2.atName
        let (g, first) ← holding [ov] (getMethod ov "__init__" pl)
        callWith p4 g first (backTo p4 (starEach [.Constant (.str msg) j p3] (PySem.W.ksEnv qual scope L f (.ref cda) cc))) []))
    (hi : ∀ L, interactive (PySem.W.ksEnv qual scope L f (.ref cda) cc) = false) (hsw : ∀ L, swapsWith (.Call (.Attribute (.Call (.Name "super" p0) [] [] p1) "__init__" p2) [.Constant (.str msg) j p3] [] p4) none p5.line (PySem.W.ksEnv qual scope L f (.ref cda) cc) = pure false) :
    FnOk P w K mg base CX0 1 f (PySem.W.ksFn name qual params body scope dV kV doc pm an (.ref cda) ct cc) ps sp := by
  refine ⟨len, fun A outer s H args us vs Q E hr e0 hbind r hsp => ?_⟩
  obtain ⟨a, ws, ev, ea⟩ := first _ _ _ _ hsp
  have there : ∀ b o, base.get? b = some o → s.heap.get? b = some o := fun b o e => (e0.bs b o e).1
  have KX : K.In s.heap := e0.mod.kin.keeps there
  have hl := len _ _ _ _ hsp
  refine ks_codeAny_call_defAt hr.depth (KX _ _ lk) rfl (e0.mod.nolimit.keeps there) (PySem.W.codeRec_of KX hcd) rfl hbind S.nocell (fun x hx => S.par _ (List.of_mem_zip hx).1) (fun h0 hns keep => ?_) S.co S.gen S.kind
  have I0 := start_inv (w := w) (qual := qual) (tk := s.toks + (ps.zip us).length) S T hr.hd e0 hl r hns keep
  obtain ⟨t1, ho⟩ := exo_at I0.hok ea
  obtain ⟨t, ht, q⟩ := hbody A outer s H _ Q E hsp
  obtain ⟨mb, hmb, hbb⟩ := e0.mod.blt
  have old : ∀ b o, base.get? b = some o → h0.get? b = some o := fun b o e => keep b o (there b o e)
  have hs0 : (ps.zip us).reverse.lookup ar.arg = some (.ref a) := by
    rw [har]
    subst ev
    cases r with
    | cons r0 r1 =>
      obtain rfl : _ = Value.ref a := r0
      refine zip_rev (i := 0) S.nd ?_ S.self_ rfl
      rw [List.length_cons, ← r1.length]
      exact hl
  have hka : scope.names.lookup ar.arg = some .local := by
    rw [har]
    exact S.par _ (List.mem_of_getElem? S.self_)
  rw [hb]
  refine ks_wpAt_execs_cons ?_
  refine superLine T (e0.mod.kin.keeps old) lk hp S.sup S.cls hka S.kind hns hs0 ho (e0.mod.glob.keeps old) gs (hmb.keeps old) (hbb _ (by decide)) (fun h' tk t2 k3 hx => ?_) (he _) (hi _) (hsw _)
  have J := I0.write (t' := tk) (x := a) (e := a) (o := exo a C none) (by rw [ea]; exact True.intro) (.inl rfl) k3 ⟨_, hx⟩ (exo_ok hx)
  have eu : upd H a (exo a C none) = H := by
    funext b
    by_cases z : b = a
    · rw [z, upd_same, ea]
    · rw [upd_ne z]
  rw [eu] at J
  refine wpAt_of_wpAny (wpAny_mono (ht.run [] _ _ H _ J q) (fun fl s2 out => ?_) fun _ _ z => False.elim z)
  cases fl with
  | ret u => obtain ⟨v, _, H2, J2, rv, q2⟩ := out; exact ⟨v, H2, J2.os, J2.bare, J2.base, J2.hok, rv, q2⟩
  | next => obtain ⟨_, H2, J2, q2⟩ := out; exact ⟨V.non, H2, J2.os, J2.bare, J2.base, J2.hok, rfl, q2⟩
  | brk => obtain ⟨_, _, _, q2⟩ := out; exact q2.elim
  | cont => obtain ⟨_, _, _, q2⟩ := out; exact q2.elim
end
end Er
set_option Elab.async false
set_option maxRecDepth 100000
set_option autoImplicit false
namespace Er
open PySem L2 PySem.Spec PyProof.Rows PySem.Calls
/-- self.f = p behind the text -/
def spErr1 (C : Addr) (f : Str) : Sp := fun vs H Q _ => ∃ a v, vs = [.ref a, v] ∧ H a = some (exo a C none) ∧ ∀ dx, H dx = none → dx ≠ a → Q .non (upd (upd H dx (exd dx [(f, v)])) a (exo a C (some dx)))
def spErr2 (C : Addr) (f g : Str) : Sp := fun vs H Q _ => ∃ a v u, vs = [.ref a, v, u] ∧ H a = some (exo a C none) ∧ ∀ dx, H dx = none → dx ≠ a → Q .non (upd (upd (upd H dx (exd dx [(f, v)])) a (exo a C (some dx))) dx (exd dx [(g, u), (f, v)]))
section
variable {P : Program} {w : World} {K : PySem.W.Frag} {mg : Str → Option Value} {base : Heap}
theorem rest1 {p f qual : Str} {scope : Scope} {C fi cda cc : Addr} {q1 q2 q3 q4 : Pos} (S : ErrS ["self", p] scope) (O : OexC K C) (no : PySem.W.findIn K (.ref C) f = some none) (d1 : (p == ("__debug__" : Str)) = false) (d2 : (p == ("__classdict__" : Str)) = false)
    (A : Around) (outer : List Env) (s : Shared) (H : Hp) (vs : List V) (Q : VK) (E : XK) (h : spErr1 C f vs H Q E) :
    ∃ t, PSs (exX P w K mg base ["self", p] qual scope fi cda cc A outer s H) [.Assign [.Attribute (.Name "self" q1) f q2] (.Name p q3) q4] t ∧ t { nx := fun _ H' => Q .non H', rt := Q } (L2.start ["self", p] vs) H := by
  obtain ⟨a, v, rfl, ea, k⟩ := h
  refine ⟨_, pss_one (ps_ost (pe_var (i := 0) (x := "self") rfl (.inl (S.par _ (by simp)))) (pe_var (i := 1) (x := p) rfl (.inl (S.par _ (by simp))) d1 d2)), ?_⟩
  exact ⟨_, rfl, _, rfl, a, C, rfl, O, no, .inl ⟨ea, fun dx n ne => k dx n ne⟩⟩
theorem rest2 {p p' f g qual : Str} {scope : Scope} {C fi cda cc : Addr} {q1 q2 q3 q4 r1 r2 r3 r4 : Pos} (S : ErrS ["self", p, p'] scope) (O : OexC K C) (no : PySem.W.findIn K (.ref C) f = some none) (no' : PySem.W.findIn K (.ref C) g = some none) (d1 : (p == ("__debug__" : Str)) = false) (d2 : (p == ("__classdict__" : Str)) = false) (d3 : (p' == ("__debug__" : Str)) = false) (d4 : (p' == ("__classdict__" : Str)) = false)
    (A : Around) (outer : List Env) (s : Shared) (H : Hp) (vs : List V) (Q : VK) (E : XK) (h : spErr2 C f g vs H Q E) :
    ∃ t, PSs (exX P w K mg base ["self", p, p'] qual scope fi cda cc A outer s H) [.Assign [.Attribute (.Name "self" q1) f q2] (.Name p q3) q4, .Assign [.Attribute (.Name "self" r1) g r2] (.Name p' r3) r4] t ∧ t { nx := fun _ H' => Q .non H', rt := Q } (L2.start ["self", p, p'] vs) H := by
  obtain ⟨a, v, u, rfl, ea, k⟩ := h
  refine ⟨_, pss_cons (ps_ost (pe_var (i := 0) (x := "self") rfl (.inl (S.par _ (by simp)))) (pe_var (i := 1) (x := p) rfl (.inl (S.par _ (by simp))) d1 d2)) (pss_one (ps_ost (pe_var (i := 0) (x := "self") rfl (.inl (S.par _ (by simp)))) (pe_var (i := 2) (x := p') rfl (.inl (S.par _ (by simp))) d3 d4))), ?_⟩
  refine ⟨_, rfl, _, rfl, a, C, rfl, O, no, .inl ⟨ea, fun dx n ne => ?_⟩⟩
  refine ⟨_, rfl, _, rfl, a, C, rfl, O, no', .inr ⟨dx, _, upd_same, ?_, by show 1 ≤ 900; decide, k dx n ne⟩⟩
  rw [upd_ne ne, upd_same]
end

/-! ### raise C(e) -/
/-- the exception's own dict alone is left in sight -/
theorem left1 {H : Hp} {a d C : Addr} {fs gs : List (Str × V)} (na : H a = none) (o : Option Addr) : upd (del (upd (upd (upd H a (exo a C none)) d (exd d gs)) a (exo a C o)) a) d (.xd fs) = upd H d (.xd fs) := by
  funext b
  by_cases hd : b = d
  · rw [hd, upd_same, upd_same]
  rw [upd_ne hd, upd_ne hd]
  by_cases ha : b = a
  · rw [ha, del_same, na]
  · rw [del_ne ha, upd_ne ha, upd_ne hd, upd_ne ha]
def tRaise1 (C : Addr) (f : Str) (W : WX) (te : TE) : TS := fun _ σ H => te σ H fun v H1 => ∀ d, H1 d = none → W (.ref C) (some d) σ (upd H1 d (.xd [(f, v)]))
/-- a reading, closed upwards -/
def up (te : TE) : TE := fun σ H Q => ∃ R : V → Hp → Prop, te σ H R ∧ ∀ v H1, R v H1 → Q v H1
section
variable {X : Cx}
theorem pe_up {e : Expr} {te : TE} (he : PE X e te) : PE X e (up te) := ⟨fun pins s σ H Q I ⟨R, h, m⟩ => wpAny_mono (he.run pins s σ H R I h) (fun u s1 ⟨v, H1, I1, r, q⟩ => ⟨v, H1, I1, r, m v H1 q⟩) fun _ _ z => z⟩
theorem ps_raise1 {x f : Str} {C fi : Addr} {k : Nat} {fd : FuncData} {ps : List Str} {e : Expr} {te : TE} {W : WX} {p pos pos2 : Pos} (hc : X.calm = true) (tk : Takes X W) (O : OexC X.K C) (iC : PySem.W.findIn X.K (.ref C) "__init__" = some (some (.ref fi))) (tI : PySem.W.typeIn X.K (.ref fi) = some (.type "function"))
    (F : FnOk X.prog X.w X.K X.mg X.base CX0 k fi fd ps (spErr1 C f)) (hr : Room (k + 1) X.A) (hb : Binds X.K fd ps []) (hg : Gl X x) (hm : X.mg x = some (.ref C)) (he : PE X e te) (hdb : (x == ("__debug__" : Str)) = false := by decide)
    (hs : starEach [e] X.env = (false, eval e X.env) :: starEach [] X.env := by rfl) : PS X (.Raise (some (.Call (.Name x p) [e] [] pos)) none pos2) (tRaise1 C f W te) := by
  have R := ps_raise (pos := pos2) hc tk (pmk_oex (p := p) (pos := pos) O iC tI F hr hb .nil pass0 hg hm (pa_cons (pe_up he) pa_nil hs) hdb hs)
  refine ⟨fun pins s σ H D I h => R.run pins s σ H D I ?_⟩
  refine ⟨_, h, fun v H1 q => ⟨by show 1 ≤ 1000; decide, fun a na => ⟨a, v, rfl, upd_same, fun d nd ne => ⟨rfl, d, [(f, v)], upd_same, ?_, ?_, ?_⟩⟩⟩⟩
  · rw [upd_ne ne, upd_same]
  · rw [upd_ne ne] at nd; exact nd
  · rw [upd_ne ne] at nd
    rw [left1 na]
    exact q d nd
end
end Er
set_option Elab.async false
set_option maxRecDepth 100000
set_option autoImplicit false
/-! try: .. except G as n: y = n, and y is looked at behind it: the error stays in sight. -/
namespace Er
open PySem L2 PySem.Spec PyProof.Rows PySem.Calls
/-- at a: a caught error of the class cls, with the dict d -/
def keptE (cls : Value) (d : Option Addr) (a : Addr) : HO := .ext fun h => ∃ (oe : Obj) (vs : Array Value), h.get? a = some oe ∧ Zc cls d oe ∧ oe.data = .fields vs
section
variable {X : Cx} {pins : List (Addr × Obj)} {σ : L2.St} {H : Hp} {s : Shared}
theorem kept_ok {P : Program} {w : World} {G : Hp} {h : Heap} {a : Addr} {cls : Value} {d : Option Addr} {oe : Obj} {vs : Array Value} (e : h.get? a = some oe) (z : Zc cls d oe) (dd : oe.data = .fields vs) : ObjOk P w G h a (keptE cls d a) :=
  ⟨⟨oe, vs, e, z, dd⟩, ⟨oe, e⟩, fun h1 h2 ⟨o1, v1, e1, z1, d1⟩ k => ⟨o1, v1, k _ e1, z1, d1⟩⟩
/-- an object of none of the tracked ones, made behind the entry, comes into sight -/
theorem track {a : Addr} {o : HO} {ob : Obj} {vs : Array Value} (I : Inv X pins σ H s) (hx : X.ex = []) (old : X.s_0.heap.get? a = none) (na : H a = none) (nl : a ≠ X.env.locals) (ha : s.heap.get? a = some ob) (hd : ob.data = .fields vs) (np : ∀ p ∈ X.pn ++ pins, p.1 ≠ a)
    (new : ObjOk X.prog X.w (upd H a o) s.heap a o) : Inv X pins σ (upd H a o) s := by
  have off : ∀ {b : Addr} {u : HO}, H b = some u → upd H a o b = some u := fun {b u} e => by rw [upd_ne (ne_of_none e na)]; exact e
  refine ⟨I.ok, I.os, I.bare, ⟨I.base.keep, I.base.slot, fun b u e n x => ?_, I.base.there, fun b xs e => off (I.base.tups b xs e), fun b u v e => off (I.base.frzs b u v e), fun b ps e => ?_⟩, I.loc, I.cell, ?_, fun x c e => ?_, fun p hp => ?_, I.hok.laidN (fun b u e => e) na new, I.len⟩
  · have ne : b ≠ a := by
      rintro rfl
      rw [old] at e; cases e
    rw [upd_ne ne]
    exact I.base.free b u e n x
  · obtain ⟨more, q⟩ := I.base.tbls b ps e
    exact ⟨more, off q⟩
  · rw [upd_ne nl.symm]; exact I.free
  · have ne : c ≠ a := by
      rintro rfl
      obtain ⟨v, oc, e1, e2⟩ := I.cell x c e
      rw [ha] at e1
      cases e1
      rw [hd] at e2; cases e2
    rw [upd_ne ne]; exact I.freeC x c e
  · obtain ⟨q1, q2, q3⟩ := I.pin p hp
    exact ⟨q1, by rw [upd_ne (np p hp)]; exact q2, q3⟩
end
end Er
set_option Elab.async false
set_option maxRecDepth 100000
set_option autoImplicit false
namespace Er
open PySem L2 PySem.Spec PyProof.Rows PySem.Calls
/-- what 'except G as n: y = n' wishes of an error of the body: i is n's slot, j is y's -/
def wKeep (K : PySem.W.Frag) (c : Value) (i j m : Nat) (Wout : WX) (D : Ends) : WX := fun cls d σ H =>
  ∃ b, PySem.W.exmOne K cls c = some b ∧ (b = true → σ.length = m → ∀ a, H a = none → D.nx (((σ.set i (some (.ref a))).set j (some (.ref a))).set i none) (upd H a (keptE cls d a))) ∧ (b = false → Wout cls d σ H)
section
variable {X : Cx} {x n y : Str} {c : Value} {i j : Nat} {body : List Stmt} {np yp np2 sp pos pos' : Pos} {tb : WX → TS} {Wout : WX}
theorem ps_try_keep (hs : X.stack = X.env :: X.outer) (hf : X.env.frame = some X.env.locals) (hex : X.ex = []) (hN : X.N.Nodup) (hi : X.N[i]? = some n) (hj : X.N[j]? = some y) (hln : X.env.kindOf n = some .local) (hly : X.env.kindOf y = some .local) (hc : Names X x c) (tk : Takes X Wout)
    (hdn : (n == ("__debug__" : Str)) = false) (hcn : (n == ("__classdict__" : Str)) = false) (hsw : swapsWith (.Name n np2) (some (.Name y yp)) sp.line X.env = pure false)
    (hb : ∀ (W : WX) (pn : List (Addr × Obj)) (xe : Value → Shared → Prop), Takes (X.tr pn xe) W → PassesOwn (model X.prog X.w) X.A X.env xe → PSs (X.tr pn xe) body (tb W)) :
    PS X (.Try body [.ExceptHandler (some (.Name x np)) (some n) [.Assign [.Name y yp] (.Name n np2) sp] pos'] [] [] pos) (fun D σ H => tb (wKeep X.K c i j X.N.length Wout D) D σ H) := by
  constructor
  intro pins s σ H D I h
  have fine := I.ok
  have frames : X.A.frames = some (X.env :: X.outer) := fine.frames.trans (congrArg some hs)
  have run := (hb (wKeep X.K c i j X.N.length Wout D) (X.pn ++ pins) (fun e s₁ => wpAny (model X.prog X.w) X.A (noteFrame e X.env) (fun _ s₂ => wpAny (model X.prog X.w) X.A (setFlight e none) (fun _ s₃ =>
    wpAny (model X.prog X.w) X.A (handleBy e X.env [.ExceptHandler (some (.Name x np)) (some n) [.Assign [.Name y yp] (.Name n np2) sp] pos']) (SP X pins D) X.xe s₃) X.xe s₂) X.xe s₁) ?hit PassesOwn.looking).run [] s σ H D (I.toTry _) h
  case hit =>
    rintro u s' ⟨a, B, sI, pins1, σ1, H1, cls, d, rfl, J0, ground, up0, sky0, na, os, ag, b, test, yes, no⟩
    have J : Inv X pins σ1 H1 sI := J0.ofTry fine
    have sky : Sky B (X.env :: X.outer) a (Zc cls d) X.env.locals s'.heap := hs ▸ sky0
    show wpAny (model X.prog X.w) X.A (noteFrame (.ref a) X.env) _ _ _
    refine Sky.land Zc.steady frames hf sky fun g3 fly3 up3 => ?_
    have J3 : Inv X pins σ1 H1 { s' with heap := g3 } := J.landed ground fly3.1 (up0.trans up3) os ag
    obtain ⟨o3, v3, e3, z3, d3⟩ := fly3.there
    have away : a ∉ frs (X.env :: X.outer) := fun mem => by
      obtain ⟨_, o, e, no_⟩ := fly3.2.2.1.mem mem
      rw [e3] at e; cases e
      exact no_ _ d3
    have awayL : a ≠ X.env.locals := fun z => away (List.mem_filterMap.mpr ⟨X.env, List.mem_cons_self, hf.trans (congrArg some z.symm)⟩)
    have awayF : a ∉ X.fs := fun mem => by
      obtain ⟨e, m1, m2⟩ := List.mem_filterMap.mp mem
      exact away (List.mem_filterMap.mpr ⟨e, List.mem_cons_of_mem _ m1, m2⟩)
    -- the error is younger than the entry
    have young : sI.heap.get? a = none := by
      cases q : sI.heap.get? a with
      | none => rfl
      | some o =>
        have qB := ground a o q (by rw [hs]; exact away)
        rw [fly3.2.1] at qB; cases qB
    have entry : X.s_0.heap.get? a = none := by
      cases q : X.s_0.heap.get? a with
      | none => rfl
      | some o =>
        obtain ⟨o', q'⟩ := J.base.there a o q (by rw [hex]; exact List.not_mem_nil)
        rw [young] at q'; cases q'
    have apart : ∀ p ∈ X.pn ++ pins, p.1 ≠ a := fun p hp z => by
      have q := (J.pin p hp).1
      rw [z, young] at q; cases q
    have S3 := J3.suite e3 d3 na awayL awayF
    refine wpAny_handleBy_cons (codeAny_handlers_test ?_) (by intro q; cases q)
    have LT : PySem.W.Looks (model X.prog X.w) g3 (typeOf (.ref a)) cls := fun _ _ _ _ k q => wpAny_typeOf_ref (k _ _ e3) (by rw [z3.1]; exact q)
    have LM := PySem.W.exm_one (M := model X.prog X.w) J3.kIn LT test
    have named : ∀ {Q : Value → Shared → Prop} {E : Value → Shared → Prop}, Q c { s' with heap := g3 } → wpAny (model X.prog X.w) (X.A.mark (some (.ref a))) (eval (.Name x np) X.env) Q E { s' with heap := g3 } := fun {Q E} q => by
      rcases hc with ⟨hg, hdbg, hm | ⟨hm, hv, hnn⟩⟩
      · exact ld_glob (X := X.suite a ((a, o3) :: (X.pn ++ pins))) S3 hg hm q hdbg
      · exact ld_blt (X := X.suite a ((a, o3) :: (X.pn ++ pins))) S3 hg hm hv q hnn hdbg
    refine named (LM.here ?_)
    cases b with
    | true =>
      refine codeAny_handlers_suite_as (HandSPX.lands_againZ fly3 fun g4 fly4 up4 => ?_)
      have J4 : Inv X pins σ1 H1 { s' with heap := g4 } := J.landed ground fly4.1 ((up0.trans up3).trans up4) os ag
      obtain ⟨o4, v4, e4, z4, d4⟩ := fly4.there
      have S4 := J4.suite e4 d4 na awayL awayF
      refine store_ok (X := X.suite a ((a, o4) :: (X.pn ++ pins))) (v := .ref a) S4 hN hi (.inl hln) rfl (fun s5 S5 => ?_) (.inr hln)
      have il : i < σ1.length := by
        rw [S4.len]
        exact (List.getElem?_eq_some_iff.mp hi).1
      have one := pss_one (X := X.suite a ((a, o4) :: (X.pn ++ pins))) (ps_set (pos := sp) (pos' := yp) (i := j) hN hj (.inl hly) (pe_var (i := i) (pos := np2) hi (.inl hln) hdn hcn) hsw (.inr hly))
      refine wpAny_mono (one.run [] s5 _ H1 { nx := fun σ' H' => σ' = (σ1.set i (some (.ref a))).set j (some (.ref a)) ∧ H' = H1, rt := fun _ _ => False } S5 ⟨.ref a, by rw [List.getElem?_set_self il], rfl, rfl⟩) (fun fl s6 got => ?_) (fun _ _ z => False.elim z)
      cases fl with
      | next =>
        obtain ⟨_, _, S6, rfl, rfl⟩ := got
        have there := (S6.pin (a, o4) (List.mem_append_left _ List.mem_cons_self)).1
        exact gone_ok (track (S6.unsuite fine) hex entry na awayL there d4 apart (kept_ok there z4 d4)) hN hi hln fun s7 J7 => ⟨_, _, J7, yes rfl S4.len a na⟩
      | ret u => obtain ⟨_, _, _, _, _, z⟩ := got; exact z.elim
      | brk => obtain ⟨_, _, _, z⟩ := got; exact z.elim
      | cont => obtain ⟨_, _, _, z⟩ := got; exact z.elim
    | false =>
      show wpAny (model X.prog X.w) X.A (handleBy (.ref a) X.env []) _ _ _
      refine wpAny_handleBy_nil ?_
      obtain ⟨_, _, _, oe, vs, T, oT, us, q1, q2, q3, q4, q5⟩ := id fly3
      unfold PySem.passOn
      refine wpAny_bind (wpAny_field q1 q3 q4 ?_)
      rw [if_neg (by simp)]
      have out : wpAny (model X.prog X.w) X.A (setFlight (.ref a) X.env.frame) (fun _ s4 => wpAny (model X.prog X.w) X.A (throw (.ref a) : Sem Flow) (SP X pins D) X.xe s4) X.xe { s' with heap := g3 } := by
        rw [hf]
        exact HandSPX.setFlight_upZ fly3 fun g4 held up4 => wpAny_throw (tk _ _ ⟨a, B, sI, pins, σ1, H1, cls, d, rfl, J, ground, (up0.trans up3).trans up4, .inr (.inr (by rw [hs]; exact held)), na, os, ag, no rfl⟩)
      first
        | exact wpAny_bind (wpAny_pure (wpAny_bind out))
        | exact wpAny_bind out
  refine wpAny_Try_except (wpAny_mono run (fun f s1 got => ?_) fun e s1 he => he)
  cases f with
  | next => obtain ⟨σ', H', J', q⟩ := got; exact wpAny_execs_nil ⟨σ', H', J'.ofTry fine, q⟩
  | brk => obtain ⟨σ', H', J', q⟩ := got; exact ⟨σ', H', J'.ofTry fine, q⟩
  | cont => obtain ⟨σ', H', J', q⟩ := got; exact ⟨σ', H', J'.ofTry fine, q⟩
  | ret u => obtain ⟨v, σ', H', J', r, q⟩ := got; exact ⟨v, σ', H', J'.ofTry fine, r, q⟩
end
end Er
set_option Elab.async false
set_option maxRecDepth 100000
set_option autoImplicit false
namespace Er
open PySem L2 PySem.Spec PyProof.Rows PySem.Calls
/-- what is written of a class of errors, so that its errors may be asked what they are -/
structure KeptC (K : PySem.W.Frag) (C : Addr) : Prop where
  xf : XfC K C
  cls : (PySem.W.clsIn K C).isSome = true
  at_ : PySem.W.findIn K (.ref C) "__class__" = some (some (.builtin "object.__class__"))
  get : PySem.W.specialIn K (.builtin "object.__class__") "__get__" = some (some (.builtin "getset_descriptor.__get__"))
  tak : PySem.W.takesIn K (.builtin "object.__class__") = some true
  obj : PySem.W.mroIn K C (.type "object") = some true
/-- at a: such an error, its fields fs -/
def KeptAt (H : Hp) (a C d : Addr) (fs : List (Str × V)) : Prop := H a = some (keptE (.ref C) (some d) a) ∧ H d = some (.xd fs)
def rIsErr (K : PySem.W.Frag) : List V → Hp → VK → Prop := fun xs H Q => ∃ (a C d : Addr) (fs : List (Str × V)) (c : V) (cv : Value) (b : Bool), xs = [.ref a, c] ∧ KeptAt H a C d fs ∧ KeptC K C ∧ ClsV c cv ∧ PySem.W.kitOne K (.ref C) cv = some b ∧ Q (.bl b) H
section
variable {X : Cx} {pins : List (Addr × Obj)} {σ : L2.St} {H : Hp} {s : Shared}
theorem inst_of {a C d : Addr} {fs : List (Str × V)} (I : Inv X pins σ H s) (k : KeptAt H a C d fs) : ∃ (oe od : Obj) (mA : Str → Option Value), PySem.W.InstAt s.heap a oe C (some od) ∧ (∀ f, PySem.W.lookIn f od = some (mA f)) ∧ ∀ f, RelO (fs.lookup f) (mA f) := by
  have oa := I.hok a _ k.1
  obtain ⟨⟨oe, vs, ha, hz, hd⟩, _, _⟩ := oa
  have hx : ObjOk X.prog X.w H s.heap d (.xd fs) := I.hok d _ k.2
  obtain ⟨mA, hns, hr⟩ := hx
  obtain ⟨od, ho, hl⟩ := lookIn_ns hns
  exact ⟨oe, od, mA, ⟨ha, hz.1, by unfold PySem.W.notCls; rw [hd] <;> rfl, by rw [hz.2]; exact ho⟩, hl, hr⟩
theorem call_isErr : CallR X (.builtin "isinstance") (rIsErr X.K) := by
  rintro pins s σ H xs us Q I r ⟨a, C, d, fs, c, cv, b, rfl, k, T, kc, e, q⟩
  obtain ⟨u1, u2, rfl, r1, r2⟩ := vals2 r
  obtain rfl : u1 = Value.ref a := r1
  have e2 := kc.eq r2
  subst e2
  obtain ⟨oe, od, mA, J, _, _⟩ := inst_of I k
  exact PySem.W.kia_one (PySem.W.kitx_exc (ox := oe) (od := some od) T.cls T.xf.ga T.xf.gg T.xf.exC T.at_ T.get T.tak T.obj) I.kIn J e (fun z => by cases z) fun tk => ⟨.bl b, H, I.tok tk, rfl, q⟩
/-- e.f, e such an error -/
def tKf (K : PySem.W.Frag) (f : Str) (te : TE) : TE := fun σ H Q => te σ H fun x H1 => ∃ a C d fs v, x = .ref a ∧ KeptAt H1 a C d fs ∧ XfC K C ∧ PySem.W.findIn K (.ref C) f = some none ∧ fs.lookup f = some v ∧ Q v H1
theorem pe_kf {e : Expr} {te : TE} {f : Str} {pos : Pos} (he : PE X e te) (hb : attributeBase e f X.env (eval e X.env) = eval e X.env := by rfl) : PE X (.Attribute e f pos) (tKf X.K f te) := by
  refine ⟨fun pins s σ H Q I h => attr_of hb (thn (he.run pins s σ H _ I h) ?_)⟩
  rintro u s1 ⟨x, H1, I1, rx, a, C, d, fs, v, rfl, k, T, no, l, q⟩
  obtain rfl : u = Value.ref a := rx
  obtain ⟨oe, od, mA, J, look, rel⟩ := inst_of I1 k
  obtain ⟨z, hz, rz⟩ := RelO.some_of (v := v) (o := mA f) (by rw [← l]; exact rel f)
  exact HandSPX.exc_get I1.kIn J T.ga T.gg T.exC (PySem.W.findObj_own T.hdC no rfl (by rw [look, hz])) (handed_of rz) ⟨v, H1, I1.tok _, rz, q⟩
end
end Er
set_option Elab.async false
set_option maxRecDepth 100000
set_option autoImplicit false
/-! _law_heard of k19: the lambda that it gets is asked, what it raises is looked at. -/
namespace Kr
open PySem L2 PySem.Spec PyProof.Rows Er LamX
def topL (i : Nat) : Stmt := PySem.Challenge.pw_rowgames_k19_rows_refused.main.body.getD i (.Pass ⟨0, 0, 0, 0⟩)
abbrev sHeard : Stmt := topL 49
/-- the classes of errors that are named, and what they are of one another -/
structure HearC (K : PySem.W.Frag) (mg : Str → Option Value) (G0 G1 G2 G3 G4 : Addr) : Prop where
  g0 : mg "GameError" = some (.ref G0)
  g1 : mg "BadNumber" = some (.ref G1)
  g2 : mg "BadInput" = some (.ref G2)
  g3 : mg "BadRow" = some (.ref G3)
  g4 : mg "BadMachine" = some (.ref G4)
  k3 : KeptC K G3
  k4 : KeptC K G4
  e3 : PySem.W.exmOne K (.ref G3) (.ref G0) = some true
  e4 : PySem.W.exmOne K (.ref G4) (.ref G0) = some true
  n31 : PySem.W.kitOne K (.ref G3) (.ref G1) = some false
  n41 : PySem.W.kitOne K (.ref G4) (.ref G1) = some false
  n32 : PySem.W.kitOne K (.ref G3) (.ref G2) = some true
  n42 : PySem.W.kitOne K (.ref G4) (.ref G2) = some true
  n33 : PySem.W.kitOne K (.ref G3) (.ref G3) = some true
  n43 : PySem.W.kitOne K (.ref G4) (.ref G3) = some false
  n34 : PySem.W.kitOne K (.ref G3) (.ref G4) = some false
  n44 : PySem.W.kitOne K (.ref G4) (.ref G4) = some true
  f3 : PySem.W.findIn K (.ref G3) "at" = some none
  f4 : PySem.W.findIn K (.ref G4) "part" = some none
  isi : mg "isinstance" = none
/-- the error that is heard: (its word, its field) is told -/
def hears (G3 G4 : Addr) (Q : VK) : XK := fun cls d H' => ∃ (C dd : Addr) (wd : Str) (v : V), cls = .ref C ∧ d = some dd ∧ ((C = G3 ∧ H' dd = some (.xd [("at", v)]) ∧ wd = "row") ∨ (C = G4 ∧ H' dd = some (.xd [("part", v)]) ∧ wd = "machine")) ∧
  ∀ H'' q, Same H' H'' → H'' q = some (.tup [.str wd, v]) → Q (.ref q) H''
def TTheard (G3 G4 : Addr) : (XK → Hp → VK → Prop) → Hp → VK → Prop := fun tl H Q => ∀ Qn : VK, tl (hears G3 G4 Q) H Qn
theorem bIsE {X : Cx} {e : Expr} {te : TE} {c : Addr} {x : Str} {p p1 pos : Pos} (hg : Gl X "isinstance") (m : X.mg "isinstance" = none) (he : PE X e te) (g : Gl X x) (m1 : X.mg x = some (.ref c)) (hdb : (x == ("__debug__" : Str)) = false := by decide)
    (na : starEach [e, .Name x p1] X.env = (false, eval e X.env) :: starEach [.Name x p1] X.env := by rfl) (nb : starEach [.Name x p1] X.env = (false, eval (.Name x p1) X.env) :: starEach [] X.env := by rfl) (hpl : (backTo pos (starEach [.Name x p1] X.env)).any (·.1) = false := by rfl) :
    PE X (.Call (.Name "isinstance" p) [e, .Name x p1] [] pos) (tCB (rIsErr X.K) (tCons te (tCons (tC (.ref c)) tNil))) :=
  pe_callB call_isErr hg m boot_isinstance (pa_cons he (pa_cons (pe_glob (v := .ref c) g m1 rfl hdb) pa_nil nb) na) (he := na) (hpl := hpl)
abbrev nHeard : List Str := ["_law_ask", "_law_caught", "error"]
theorem scHeard : FnScope nHeard ["_law_ask"] (defScope sHeard) := ⟨rfl, rfl, rfl, by decide +kernel, rfl, by decide +kernel, by decide +kernel⟩
section
variable {X : Cx}
theorem heard_gives {g : Addr} {cdg : Value} {q : Str} {G0 G1 G2 G3 G4 : Addr} (T : HearC X.K X.mg G0 G1 G2 G3 G4) : GivesTo X nHeard "_law_heard" (defScope sHeard) g cdg (defBody sHeard) "_law_ask" q (TTheard G3 G4) := by
  intro f c' s H Q tl act hc h
  have nd := scHeard.nd
  refine ⟨_, pss_cons (ps_set (i := 1) nd rfl (.inl rfl) pe_non) (pss_cons (ps_try_keep (i := 2) (j := 1) (c := .ref G0) (Wout := fun _ _ _ _ => False) (tb := fun W D σ H => ∃ Ech : XK, (∀ cls d σ' H', Ech cls d H' → W cls d σ' H') ∧ σ[0]? = some (some (.ref f)) ∧ H c' = some (CodeO c' q) ∧ tl Ech H (fun _ H' => D.nx σ H'))
      rfl rfl rfl nd rfl rfl rfl rfl ⟨rfl, by decide, .inl T.g0⟩ L2.takes0 (by decide) (by decide) rfl (fun W pn xe tk _ => ?_))
    (pss_cons (ps_if (PW.pt (pw_or (pt_val (bIsE (by rfl) T.isi (pv 1) (by rfl) T.g1)) (pw_or1 (pt_not (pt_val (bIsE (by rfl) T.isi (pv 1) (by rfl) T.g2)))))) (pss_one (ps_ret pe_str)) pss_nil)
    (pss_cons (ps_if (pt_val (bIsE (by rfl) T.isi (pv 1) (by rfl) T.g3)) (pss_one (ps_ret (pe_ifExp (pt_val (bIsE (by rfl) T.isi (pv 1) (by rfl) T.g4)) pe_str (pe_tup (pa_cons pe_str (pa_cons (pe_kf (pv 1)) pa_nil)))))) pss_nil)
    (pss_one (ps_ret (pe_ifExp (pt_val (bIsE (by rfl) T.isi (pv 1) (by rfl) T.g4)) (pe_tup (pa_cons pe_str (pa_cons (pe_kf (pv 1)) pa_nil))) pe_str)))))), ?_⟩
  · refine ⟨fun pins s' σ H' D I h' => ?_⟩
    obtain ⟨Ech, hW, h1, h2, h3⟩ := h'
    exact (pss_one (ps_expr (act W pn xe Ech _ _ tk hW))).run pins s' σ H' D I ⟨h1, h2, h3⟩
  · refine ⟨hears G3 G4 Q, ?_, rfl, hc, h _⟩
    rintro cls d σ' H' ⟨C, dd, wd, v, rfl, rfl, hcase, k⟩
    have e0 : PySem.W.exmOne X.K (.ref C) (.ref G0) = some true := by
      rcases hcase with ⟨rfl, _⟩ | ⟨rfl, _⟩
      · exact T.e3
      · exact T.e4
    refine ⟨true, e0, fun _ hlen a na => ?_, fun z => nomatch z⟩
    obtain ⟨x0, x1, x2, rfl⟩ : ∃ x0 x1 x2, σ' = [x0, x1, x2] := by
      match σ', hlen with
      | [x0, x1, x2], _ => exact ⟨x0, x1, x2, rfl⟩
    rcases hcase with ⟨rfl, hd, rfl⟩ | ⟨rfl, hd, rfl⟩
    · have kept : KeptAt (upd H' a (keptE (.ref C) (some dd) a)) a C dd [("at", v)] := ⟨upd_same, by rw [upd_ne (ne_of_none hd na)]; exact hd⟩
      have s1 : Same H' (upd H' a (keptE (.ref C) (some dd) a)) := fun b o e => by rw [upd_ne (ne_of_none e na)]; exact e
      refine ⟨_, rfl, a, C, dd, _, .ref G1, .ref G1, false, rfl, kept, T.k3, .own _, T.n31, _, rfl, ?_⟩
      refine iteF ⟨_, rfl, a, C, dd, _, .ref G2, .ref G2, true, rfl, kept, T.k3, .own _, T.n32, _, rfl, iteF ?_⟩
      refine ⟨_, rfl, a, C, dd, _, .ref C, .ref C, true, rfl, kept, T.k3, .own _, T.n33, _, rfl, iteT ?_⟩
      refine ⟨_, rfl, a, C, dd, _, .ref G4, .ref G4, false, rfl, kept, T.k3, .own _, T.n34, _, rfl, iteF ?_⟩
      refine ⟨_, rfl, a, C, dd, _, v, rfl, kept, T.k3.xf, T.f3, rfl, by show 2 ≤ sizeLine; decide, fun q hq => ?_⟩
      exact k _ q (fun b o e => by rw [upd_ne (ne_of_none (s1 _ _ e) hq)]; exact s1 _ _ e) upd_same
    · have kept : KeptAt (upd H' a (keptE (.ref C) (some dd) a)) a C dd [("part", v)] := ⟨upd_same, by rw [upd_ne (ne_of_none hd na)]; exact hd⟩
      have s1 : Same H' (upd H' a (keptE (.ref C) (some dd) a)) := fun b o e => by rw [upd_ne (ne_of_none e na)]; exact e
      refine ⟨_, rfl, a, C, dd, _, .ref G1, .ref G1, false, rfl, kept, T.k4, .own _, T.n41, _, rfl, ?_⟩
      refine iteF ⟨_, rfl, a, C, dd, _, .ref G2, .ref G2, true, rfl, kept, T.k4, .own _, T.n42, _, rfl, iteF ?_⟩
      refine ⟨_, rfl, a, C, dd, _, .ref G3, .ref G3, false, rfl, kept, T.k4, .own _, T.n43, _, rfl, iteF ?_⟩
      refine ⟨_, rfl, a, C, dd, _, .ref C, .ref C, true, rfl, kept, T.k4, .own _, T.n44, _, rfl, iteT ?_⟩
      refine ⟨_, rfl, a, C, dd, _, v, rfl, kept, T.k4.xf, T.f4, rfl, by show 2 ≤ sizeLine; decide, fun q hq => ?_⟩
      exact k _ q (fun b o e => by rw [upd_ne (ne_of_none (s1 _ _ e) hq)]; exact s1 _ _ e) upd_same
end
end Kr
set_option Elab.async false
set_option maxRecDepth 100000
set_option autoImplicit false
/-! What is no row, no state: the program's checks raise. -/
namespace Kx
open PySem L2 PySem.Spec PyProof.Rows Rg Er
/-- a class of errors with one field, as a raise wants it -/
structure ErrB (P : Program) (w : World) (K : PySem.W.Frag) (mg : Str → Option Value) (base : Heap) (x f : Str) (C : Addr) : Prop where
  O : OexC K C
  mgC : mg x = some (.ref C)
  init : ∃ fi fd ps, PySem.W.findIn K (.ref C) "__init__" = some (some (.ref fi)) ∧ PySem.W.typeIn K (.ref fi) = some (.type "function") ∧ FnOk P w K mg base CX0 1 fi fd ps (spErr1 C f) ∧ Binds K fd ps []
/-- x is no row of the signs z: i is told -/
def Bad (K : PySem.W.Frag) (H : Hp) (z : Str) (x : V) (i : Int) : Prop :=
  (∃ wd : Str, x = .str wd ∧ wd.length ≤ 1000 ∧ Txt.lstripChars wd z ≠ Str.empty ∧ (Txt.lstripChars wd z).length ≤ 1000 ∧ i = (wd.length : Nat) - ((Txt.lstripChars wd z).length : Nat)) ∨ (∃ t, TyX K H x t ∧ PySem.W.kitOne K t (.type "str") = some false ∧ i = 0)
def spWrongB (K : PySem.W.Frag) : Sp := fun vs H Q _ => ∃ (z : Str) (x : V) (i : Int), vs = [.str z, x] ∧ Bad K H z x i ∧ Q (.int i) H
def raised (C : Addr) (f : Str) (v : V) (E : XK) (H : Hp) : Prop := ∀ d, H d = none → E (.ref C) (some d) (upd H d (.xd [(f, v)]))
def spCheckB (K : PySem.W.Frag) (C : Addr) : Sp := fun vs H _ E => ∃ (z : Str) (x : V) (i : Int), vs = [.str z, x] ∧ Bad K H z x i ∧ raised C "at" (.int i) E H
def spStateB (K : PySem.W.Frag) (M C : Addr) : Sp := fun vs H _ E => ∃ p z tb mk x i, vs = [.ref p, x] ∧ Mach M H p z tb mk ∧ Bad K H z x i ∧ raised C "at" (.int i) E H
section
variable {P : Program} {w : World} {K : PySem.W.Frag} {mg : Str → Option Value} {base : Heap}
theorem ok_wrongB {f : Addr} {fd : FuncData} (F : L2.Fun K "wrong_at" "wrong_at" sWrong f fd) (T : Txt mg) (mS : mg "str" = none) : FnOk P w K mg base CX0 1 f fd ["signs", "value"] (spWrongB K) := by
  refine F.ok scWrong (fun vs H Q E h => ?_) (fun cdv A outer s H vs Q E hr h => ?_)
  · obtain ⟨z, x, i, rfl, _⟩ := h
    rfl
  · obtain ⟨z, x, i, rfl, bad, k⟩ := h
    have nd := scWrong.nd
    refine ⟨_, pss_cons (ps_if (pt_not (pt_val (bIsi (by rfl) T.isi (pv 1) (pe_bltn (v := .ty "str") (by rfl) mS (by decide +kernel) rfl)))) (pss_one (ps_ret pe_int)) pss_nil)
      (pss_cons (ps_set (i := 2) nd rfl (.inl rfl) (pe_bm PySem.F.plainAttrs_str PySem.F.slot_str_lstrip PySem.F.type_str_lstrip mt_lstripChars (pv 1) (pa_cons (pv 0) pa_nil)))
      (pss_cons (ps_if (pt_cmpR op_eq (pv 2) pe_str (nomark _)) (pss_one (ps_ret pe_non)) pss_nil) (pss_one (ps_ret (pe_op op_sub (bLen (by rfl) T.len (pv 1)) (bLen (by rfl) T.len (pv 2))))))), ?_⟩
    rcases bad with ⟨wd, rfl, hl, ne, hl2, rfl⟩ | ⟨t, ty, no, rfl⟩
    · refine ⟨_, rfl, .str wd, .ty "str", _, _, true, rfl, .ty "str", .base (.str wd), kit_ty (by decide +kernel), true, rfl, iteF ?_⟩
      refine ⟨_, rfl, rfl, _, rfl, wd, z, rfl, rfl, len_small hl, ?_⟩
      refine ⟨_, rfl, rfl, _, rfl, ?_⟩
      have e : decide (V.str (Txt.lstripChars wd z) = V.str "") = false := decide_eq_false fun q => ne (V.str.inj q)
      rw [e]
      exact iteF ⟨_, rfl, _, wd.length, rfl, ⟨len_small hl, rfl⟩, _, rfl, _, (Txt.lstripChars wd z).length, rfl, ⟨len_small hl2, rfl⟩, _, _, rfl, rfl, k⟩
    · exact ⟨_, rfl, x, .ty "str", _, _, false, rfl, .ty "str", ty, no, _, rfl, iteT k⟩
theorem ok_checkB {f f1 C : Addr} {fd fd1 : FuncData} (F : L2.Fun K "check_row" "check_row" sCheckRow f fd) (G : FnOk P w K mg base CX0 1 f1 fd1 ["signs", "value"] (spWrongB K)) (m1 : mg "wrong_at" = some (.ref f1)) (k1 : PySem.W.keepIn K (.ref f1) = true)
    (b1 : L2.Binds K fd1 ["signs", "value"] []) (R : ErrB P w K mg base "BadRow" "at" C) : FnOk P w K mg base (L2.CX P w) 3 f fd ["signs", "value"] (spCheckB K C) := by
  obtain ⟨fi, fdi, psi, r1, r2, r3, r4⟩ := R.init
  refine F.okX scCheckRow (fun vs H Q E h => ?_) (fun cdv A outer s H vs Q E hr h => ?_)
  · obtain ⟨z, x, i, rfl, _⟩ := h
    rfl
  · obtain ⟨z, x, i, rfl, bad, k⟩ := h
    have nd := scCheckRow.nd
    have tk := takes_of (X := cxOf (L2.CX P w) P w K mg base ["signs", "value", "at"] "check_row" (defScope sCheckRow) f cdv A outer s H E) rfl rfl rfl rfl
    refine ⟨_, pss_cons (ps_set (i := 2) nd rfl (.inl rfl) (pe_call G (hr.mono (by decide)) (by rfl) m1 k1 b1 .nil pass0 (pa_cons (pv 0) (pa_cons (pv 1) pa_nil)))) (pss_one (ps_if (pt_cmp (pc_notN (pv 2))) (pss_one (ps_raise1 rfl tk R.O r1 r2 r3 hr r4 (by rfl) R.mgC (pv 2))) pss_nil)), ?_⟩
    exact ⟨_, rfl, _, rfl, z, x, i, rfl, bad, _, rfl, _, rfl, iteT ⟨_, rfl, k⟩⟩
end
end Kx
set_option Elab.async false
set_option maxRecDepth 100000
set_option autoImplicit false
namespace Kx
open PySem L2 PySem.Spec PyProof.Rows Rg Er
/-- x is no state below many -/
def NoState (K : PySem.W.Frag) (H : Hp) (x : V) (many : Nat) : Prop := (∃ i : Int, x = .int i ∧ (i < 0 ∨ (many : Int) ≤ i)) ∨ (∃ t b, TyX K H x t ∧ PySem.W.kitOne K t (.type "int") = some b ∧ (b = true → PySem.W.kitOne K t (.type "bool") = some true))
def spFromToN (K : PySem.W.Frag) : Sp := fun vs H Q _ => ∃ (x : V) (many : Nat), vs = [x, .int 0, .int ((many : Int) - 1)] ∧ NoState K H x many ∧ Q (.bl false) H
def spStepB (K : PySem.W.Frag) (M C : Addr) : Sp := fun vs H _ E => ∃ p z tb mk s x i, vs = [.ref p, .int s, x] ∧ Mach M H p z tb mk ∧ 0 ≤ s ∧ s < tb.length ∧ Bad K H z x i ∧ raised C "at" (.int i) E H
def spStepN (K : PySem.W.Frag) (M C : Addr) : Sp := fun vs H _ E => ∃ p z tb mk x y, vs = [.ref p, x, y] ∧ Mach M H p z tb mk ∧ NoState K H x tb.length ∧ raised C "part" (.str "state") E H
def spHasB (K : PySem.W.Frag) (M : Addr) : Sp := fun vs H Q _ => ∃ p z tb mk x i, vs = [.ref p, x] ∧ Mach M H p z tb mk ∧ Bad K H z x i ∧ Q (.bl false) H
section
variable {P : Program} {w : World} {K : PySem.W.Frag} {mg : Str → Option Value} {base : Heap}
theorem ok_fromToN {f : Addr} {fd : FuncData} (F : L2.Fun K "is_from_to" "is_from_to" sFromTo f fd) (T : Txt mg) (mI : mg "int" = none) (mB : mg "bool" = none) : FnOk P w K mg base CX0 2 f fd ["value", "low", "high"] (spFromToN K) := by
  refine F.ok scFromTo (fun vs H Q E h => ?_) (fun cdv A outer s H vs Q E hr h => ?_)
  · obtain ⟨x, n, rfl, _⟩ := h
    rfl
  · obtain ⟨x, n, rfl, no, k⟩ := h
    rcases no with ⟨i, rfl, out⟩ | ⟨t, b, ty, h1, h2⟩
    · refine ⟨_, pss_one (ps_ret (pe_and (bIsi (by rfl) T.isi (pv 0) (pe_bltn (v := .ty "int") (by rfl) mI (by decide +kernel) rfl)) (pe_and (pe_not (bIsi (by rfl) T.isi (pv 0) (pe_bltn (v := .ty "bool") (by rfl) mB (by decide +kernel) rfl))) (pe_one (pe_chain op_le op_le (pv 1) (pv 0) (pv 2)))))), ?_⟩
      refine ⟨_, rfl, .int i, .ty "int", _, _, true, rfl, .ty "int", .base (.int i), kit_ty (by decide +kernel), true, rfl, iteT ⟨_, rfl, .int i, .ty "bool", _, _, false, rfl, .ty "bool", .base (.int i), kit_ty (by decide +kernel), false, rfl, true, rfl, iteT ⟨_, rfl, _, rfl, _, _, rfl, rfl, _, rfl, ?_⟩⟩⟩
      by_cases q : (0 : Int) ≤ i
      · rw [if_pos (decide_eq_true q)]
        refine ⟨_, rfl, _, _, rfl, rfl, ?_⟩
        show Q (V.bl (decide (i ≤ (n : Int) - 1))) H
        rw [decide_eq_false (show ¬ i ≤ (n : Int) - 1 by omega)]
        exact k
      · rw [if_neg (by simpa using q)]
        exact k
    · refine ⟨_, pss_one (ps_ret (pe_and (bIsi (by rfl) T.isi (pv 0) (pe_bltn (v := .ty "int") (by rfl) mI (by decide +kernel) rfl)) (pe_and (pe_not (bIsi (by rfl) T.isi (pv 0) (pe_bltn (v := .ty "bool") (by rfl) mB (by decide +kernel) rfl))) (pe_one (pe_chain op_le op_le (pv 1) (pv 0) (pv 2)))))), ?_⟩
      refine ⟨_, rfl, x, .ty "int", _, _, b, rfl, .ty "int", ty, h1, b, rfl, ?_⟩
      cases b with
      | false => exact iteF k
      | true => exact iteT ⟨_, rfl, x, .ty "bool", _, _, true, rfl, .ty "bool", ty, h2 rfl, true, rfl, false, rfl, iteF k⟩
theorem ok_stateB {C CR f f1 : Addr} {fd fd1 : FuncData} (F : L2.Fun K "state" "Machine.state" sState f fd) (M : MT K mg C) (G1 : FnOk P w K mg base (L2.CX P w) 3 f1 fd1 ["signs", "value"] (spCheckB K CR)) (m1 : mg "check_row" = some (.ref f1)) (k1 : PySem.W.keepIn K (.ref f1) = true) (b1 : L2.Binds K fd1 ["signs", "value"] []) :
    FnOk P w K mg base (L2.CX P w) 4 f fd ["self", "row"] (spStateB K C CR) := by
  refine F.okX scState (fun vs H Q E h => ?_) (fun cdv A outer s H vs Q E hr h => ?_)
  · obtain ⟨p, z, tb, mk, x, i, rfl, _⟩ := h
    rfl
  · obtain ⟨p, z, tb, mk, x, i, rfl, ⟨dx, st, tt, hp, _⟩, bad, k⟩ := h
    have tk := takes_of (X := cxOf (L2.CX P w) P w K mg base ["self", "row"] "Machine.state" (defScope sState) f cdv A outer s H E) rfl rfl rfl rfl
    refine ⟨_, pss_cons (ps_expr (pe_call G1 hr (by rfl) m1 k1 b1 .nil (passes_call tk fun _ _ _ _ h => h) (pa_cons (pe_fld (pv 0) rfl) (pa_cons (pv 1) pa_nil)))) (pss_one ps_never), ?_⟩
    exact ⟨_, rfl, p, C, dx, _, _, rfl, hp, M.cl, M.n1, mf_signs _ _ _, _, rfl, z, x, i, rfl, bad, k⟩
theorem ok_itemB {C CR f f1 : Addr} {fd fd1 : FuncData} (F : L2.Fun K "__getitem__" "Machine.__getitem__" sItem f fd) (M : MT K mg C) (G1 : FnOk P w K mg base (L2.CX P w) 4 f1 fd1 ["self", "row"] (spStateB K C CR)) (m1 : Meth K C "state" f1) (b1 : L2.Binds K fd1 ["self", "row"] []) :
    FnOk P w K mg base (L2.CX P w) 5 f fd ["self", "at"] (spStateB K C CR) := by
  refine F.okX scItem (fun vs H Q E h => ?_) (fun cdv A outer s H vs Q E hr h => ?_)
  · obtain ⟨p, z, tb, mk, x, i, rfl, _⟩ := h
    rfl
  · obtain ⟨p, z, tb, mk, x, i, rfl, m, bad, k⟩ := h
    obtain ⟨dx, st, tt, hp, _⟩ := id m
    have tk := takes_of (X := cxOf (L2.CX P w) P w K mg base ["self", "at"] "Machine.__getitem__" (defScope sItem) f cdv A outer s H E) rfl rfl rfl rfl
    refine ⟨_, pss_one (ps_ret (pe_ix ix_tup (pe_fld (pv 0) rfl) (pe_meth (pv 0) M.cl m1 G1 hr b1 .nil (passes_call tk fun _ _ _ _ h => h) (pa_cons (pv 1) pa_nil)) (fun _ _ => rfl))), ?_⟩
    exact ⟨_, rfl, p, C, dx, _, _, rfl, hp, M.cl, M.n3, mf_told _ _ _, _, rfl, p, dx, _, rfl, hp, mf_no _ _ _ (by decide +kernel) (by decide +kernel) (by decide +kernel), _, rfl, p, z, tb, mk, x, i, rfl, m, bad, k⟩
theorem ok_stepB {C CR f f1 f3 : Addr} {fd fd1 fd3 : FuncData} (F : L2.Fun K "step" "Machine.step" sStep f fd) (T : Txt mg) (M : MT K mg C) (G1 : FnOk P w K mg base (L2.CX P w) 3 f1 fd1 ["signs", "value"] (spCheckB K CR)) (m1 : mg "check_row" = some (.ref f1)) (k1 : PySem.W.keepIn K (.ref f1) = true) (b1 : L2.Binds K fd1 ["signs", "value"] [])
    (G3 : FnOk P w K mg base CX0 2 f3 fd3 ["value", "low", "high"] spFromTo) (m3 : mg "is_from_to" = some (.ref f3)) (k3 : PySem.W.keepIn K (.ref f3) = true) (b3 : L2.Binds K fd3 ["value", "low", "high"] []) : FnOk P w K mg base (L2.CX P w) 4 f fd ["self", "state", "text"] (spStepB K C CR) := by
  refine F.okX scStep (fun vs H Q E h => ?_) (fun cdv A outer s H vs Q E hr h => ?_)
  · obtain ⟨p, z, tb, mk, i, x, j, rfl, _⟩ := h
    rfl
  · obtain ⟨p, z, tb, mk, i, x, j, rfl, ⟨dx, st, tt, hp, ⟨xs, hx, rows⟩, _⟩, i0, i1, bad, k⟩ := h
    have tk := takes_of (X := cxOf (L2.CX P w) P w K mg base ["self", "state", "text"] "Machine.step" (defScope sStep) f cdv A outer s H E) rfl rfl rfl rfl
    refine ⟨_, pss_cons (ps_if (pt_not (pt_val (pe_call G3 (hr.mono (by decide)) (by rfl) m3 k3 b3 .nil pass0 (pa_cons (pv 1) (pa_cons pe_int (pa_cons (pe_op op_sub (bLen (by rfl) T.len (pe_fld (pv 0) rfl)) pe_int) pa_nil)))))) (pss_one ps_never) pss_nil)
      (pss_cons (ps_expr (pe_call G1 hr (by rfl) m1 k1 b1 .nil (passes_call tk fun _ _ _ _ h => h) (pa_cons (pe_fld (pv 0) rfl) (pa_cons (pv 2) pa_nil)))) (pss_one ps_never)), ?_⟩
    refine ⟨_, rfl, _, rfl, p, C, dx, _, _, rfl, hp, M.cl, M.n2, mf_steps _ _ _, _, _, rfl, Sq.len (.inr hx), _, _, rfl, rfl, i, 0, _, rfl, ?_⟩
    have e1 : decide ((0 : Int) ≤ i) = true := decide_eq_true i0
    have e2 : decide (i ≤ ((xs.length : Nat) : Int) - 1) = true := decide_eq_true (by rw [rows.1]; omega)
    rw [e1, e2]
    exact ⟨_, rfl, iteF ⟨_, rfl, p, C, dx, _, _, rfl, hp, M.cl, M.n1, mf_signs _ _ _, _, rfl, z, x, j, rfl, bad, k⟩⟩
theorem ok_stepN {C CM f f3 : Addr} {fd fd3 : FuncData} (F : L2.Fun K "step" "Machine.step" sStep f fd) (T : Txt mg) (M : MT K mg C) (R : ErrB P w K mg base "BadMachine" "part" CM)
    (G3 : FnOk P w K mg base CX0 2 f3 fd3 ["value", "low", "high"] (spFromToN K)) (m3 : mg "is_from_to" = some (.ref f3)) (k3 : PySem.W.keepIn K (.ref f3) = true) (b3 : L2.Binds K fd3 ["value", "low", "high"] []) : FnOk P w K mg base (L2.CX P w) 4 f fd ["self", "state", "text"] (spStepN K C CM) := by
  obtain ⟨fi, fdi, psi, r1, r2, r3, r4⟩ := R.init
  refine F.okX scStep (fun vs H Q E h => ?_) (fun cdv A outer s H vs Q E hr h => ?_)
  · obtain ⟨p, z, tb, mk, x, y, rfl, _⟩ := h
    rfl
  · obtain ⟨p, z, tb, mk, x, y, rfl, ⟨dx, st, tt, hp, ⟨xs, hx, rows⟩, _⟩, no, k⟩ := h
    have tk := takes_of (X := cxOf (L2.CX P w) P w K mg base ["self", "state", "text"] "Machine.step" (defScope sStep) f cdv A outer s H E) rfl rfl rfl rfl
    refine ⟨_, pss_cons (ps_if (pt_not (pt_val (pe_call G3 (hr.mono (by decide)) (by rfl) m3 k3 b3 .nil pass0 (pa_cons (pv 1) (pa_cons pe_int (pa_cons (pe_op op_sub (bLen (by rfl) T.len (pe_fld (pv 0) rfl)) pe_int) pa_nil)))))) (pss_one (ps_raise1 rfl tk R.O r1 r2 r3 (hr.mono (by decide)) r4 (by rfl) R.mgC pe_str)) pss_nil)
      (pss_cons ps_never (pss_one ps_never)), ?_⟩
    refine ⟨_, rfl, _, rfl, p, C, dx, _, _, rfl, hp, M.cl, M.n2, mf_steps _ _ _, _, _, rfl, Sq.len (.inr hx), _, _, rfl, rfl, x, tb.length, ?_, no, false, rfl, iteT k⟩
    rw [rows.1]
    rfl
theorem ok_hasB {C f f1 : Addr} {fd fd1 : FuncData} (F : L2.Fun K "__contains__" "Machine.__contains__" sHas f fd) (M : MT K mg C) (G1 : FnOk P w K mg base CX0 1 f1 fd1 ["signs", "value"] (spWrongB K)) (m1 : mg "wrong_at" = some (.ref f1)) (k1 : PySem.W.keepIn K (.ref f1) = true) (b1 : L2.Binds K fd1 ["signs", "value"] [])
    {f2 : Addr} {fd2 : FuncData} (G2 : FnOk P w K mg base CX0 4 f2 fd2 ["self", "at"] (spItem C)) (a2 : PySem.W.findIn K (.ref C) "__getitem__" = some (some (.ref f2))) (i2 : PySem.W.fnIn K f2 = true) (n2 : PySem.W.isFn K (.ref f2) = true) (b2 : L2.Binds K fd2 ["self", "at"] []) : FnOk P w K mg base CX0 6 f fd ["self", "x"] (spHasB K C) := by
  refine F.ok scHas (fun vs H Q E h => ?_) (fun cdv A outer s H vs Q E hr h => ?_)
  · obtain ⟨p, z, tb, mk, x, i, rfl, _⟩ := h
    rfl
  · obtain ⟨p, z, tb, mk, x, i, rfl, ⟨dx, st, tt, hp, _⟩, bad, k⟩ := h
    refine ⟨_, pss_one (ps_ret (pe_and (pe_cmp (pc_isN (pe_call G1 (hr.mono (by decide)) (by rfl) m1 k1 b1 .nil pass0 (pa_cons (pe_fld (pv 0) rfl) (pa_cons (pv 1) pa_nil))))) (pe_one (pe_item G2 hr b2 pass0 a2 i2 n2 (pv 0) (pv 1))))), ?_⟩
    exact ⟨_, rfl, p, C, dx, _, _, rfl, hp, M.cl, M.n1, mf_signs _ _ _, _, rfl, z, x, i, rfl, bad, false, rfl, iteF k⟩
end
end Kx
set_option Elab.async false
set_option maxRecDepth 100000
set_option autoImplicit false
namespace Kx
open PySem L2 PySem.Spec PyProof.Rows Rg
abbrev sLetters : Stmt := top 46
abbrev sPlan : Stmt := top 47
abbrev sWord : Stmt := top 48
abbrev sLaw : Stmt := top 52

/-! ### the pen at p, its cells at c; all else grows -/
def Ink (c p : Addr) (n : Nat) (H H' : Hp) : Prop := Ext1 p H H' ∧ PenAt c n H' p
theorem PenAt.ne1 {c p q : Addr} {n : Nat} {H : Hp} (h : PenAt c n H p) (e : H q = none) : q ≠ p := by
  rintro rfl
  obtain ⟨ns, a, g, h1, _⟩ := h
  rw [h1] at e; cases e
theorem PenAt.ne2 {c p q : Addr} {n : Nat} {H : Hp} (h : PenAt c n H p) (e : H q = none) : q ≠ c := by
  rintro rfl
  obtain ⟨ns, a, g, _, h2, _⟩ := h
  rw [h2] at e; cases e
theorem PenAt.put {c p q : Addr} {n : Nat} {H : Hp} {o : HO} (h : PenAt c n H p) (n1 : q ≠ p) (n2 : q ≠ c) : PenAt c n (upd H q o) p := by
  obtain ⟨ns, a, g, h1, h2, h3⟩ := h
  exact ⟨ns, a, g, by rw [upd_ne n1.symm]; exact h1, by rw [upd_ne n2.symm]; exact h2, h3⟩
theorem Ink.start {c p : Addr} {n : Nat} {H : Hp} (h : PenAt c n H p) : Ink c p n H H := ⟨Ext1.refl p H, h⟩
theorem Ink.trans {c p : Addr} {n m : Nat} {H H1 H2 : Hp} (a : Ink c p n H H1) (b : Ink c p m H1 H2) : Ink c p m H H2 := ⟨Ext1.trans a.1 b.1, b.2⟩
theorem Ink.same {c p : Addr} {n : Nat} {H H1 H2 : Hp} (a : Ink c p n H H1) (b : Same H1 H2) : Ink c p n H H2 := ⟨Ext1.trans a.1 (Same.ext1 p b), a.2.ext b⟩
theorem Ink.new {c p q : Addr} {n : Nat} {H H1 : Hp} {o : HO} (a : Ink c p n H H1) (e : H1 q = none) : Ink c p n H (upd H1 q o) := a.same (Same.new e)
theorem Ink.mono {c p : Addr} {n m : Nat} {H H1 : Hp} (a : Ink c p n H H1) (l : n ≤ m) : Ink c p m H H1 := ⟨a.1, a.2.mono l⟩
/-- what is new to H may change: H grows all the same -/
theorem Ext1.putNew {p q : Addr} {H H1 : Hp} {o : HO} (a : Ext1 p H H1) (e : H q = none) : Ext1 p H (upd H1 q o) := fun b u n z => by rw [upd_ne (ne_of_none z e)]; exact a b u n z
theorem Ink.putNew {c p q : Addr} {n k : Nat} {H H1 : Hp} {o : HO} (a : Ink c p n H H1) (s : PenAt c k H p) (e : H q = none) : Ink c p n H (upd H1 q o) := ⟨a.1.putNew e, a.2.put (s.ne1 e) (s.ne2 e)⟩

/-! ### _law_pen -/
def spPen (K : PySem.W.Frag) : Sp := fun vs H Q _ => ∃ (a : Addr) (ns : List Int), vs = [.ref a] ∧ SqL K H a (ns.map V.int) ∧ ns.length ≤ 63 ∧ ∀ c p H', Same H H' → PenAt c 0 H' p → Q (.ref p) H'
theorem bList {X : Cx} {e : Expr} {te : TE} {p pos : Pos} (hg : Gl X "list") (m : X.mg "list" = none) (he : PE X e te) (na : starEach [e] X.env = (false, eval e X.env) :: starEach [] X.env := by rfl) :
    PE X (.Call (.Name "list" p) [e] [] pos) (tCB (fun xs H Q => ∃ p ys, xs = [.ref p] ∧ (SqL X.K H p ys ∨ SqT X.K H p ys) ∧ ∀ l, H l = none → Q (.ref l) (upd H l (.lst ys))) (tCons te tNil)) :=
  pe_callTy call_list_of hg m (by decide +kernel) (pa_cons he pa_nil na) (he := na)
section
variable {P : Program} {w : World} {K : PySem.W.Frag} {mg : Str → Option Value} {base : Heap}
theorem scPen : FnScope ["_law_script"] ["_law_script"] (defScope sPen) := ⟨rfl, rfl, rfl, by decide +kernel, rfl, by decide +kernel, by decide +kernel⟩
theorem ok_pen {f : Addr} {fd : FuncData} (F : Fun K "_law_pen" "_law_pen" sPen f fd) (T : Txt mg) : FnOk P w K mg base CX0 1 f fd ["_law_script"] (spPen K) := by
  refine F.ok scPen (fun vs H Q E h => ?_) (fun cdv A outer s H vs Q E hr h => ?_)
  · obtain ⟨a, ns, rfl, _⟩ := h
    rfl
  · obtain ⟨a, ns, rfl, hs, hl, k⟩ := h
    refine ⟨_, pss_one (ps_ret (pe_lst (pa_cons (bList (by rfl) T.list (pe_slice sl_list (pv 0) po_none (po_some pe_int))) (pa_cons pe_int (pa_cons pe_int pa_nil))))), ?_⟩
    refine ⟨_, rfl, _, rfl, a, _, rfl, hs, fun q hq => ?_⟩
    have e : cutV (ns.map V.int) none (some 63) = ns.map V.int := by
      unfold cutV
      rw [show HT.sIx (ns.map V.int).length 0 none = 0 from rfl, show HT.sIx (ns.map V.int).length (ns.map V.int).length (some 63) = min 63 (ns.map V.int).length from HT.sIx_nat _ _ 63, List.drop_zero, Nat.sub_zero]
      exact List.take_of_length_le (by rw [List.length_map]; omega)
    rw [e]
    refine ⟨q, _, rfl, .inl (SqL.of upd_same), fun c hc => ⟨by show 3 ≤ sizeLine; decide, fun p hp => ?_⟩⟩
    have cp : c ≠ p := by rintro rfl; rw [upd_same] at hp; cases hp
    refine k c p _ ?_ ⟨ns, 0, 0, upd_same, by rw [upd_ne cp, upd_same], cp, hl, by decide, by decide⟩
    exact Same.trans (Same.new hq) (Same.trans (Same.new hc) (Same.new hp))

/-! ### _law_pick, _law_letters -/
theorem ix_or {X : Cx} {r1 r2 : R2} (h1 : IxR X r1) (h2 : IxR X r2) : IxR X (fun x y H Q => r1 x y H Q ∨ r2 x y H Q) := fun a b pins s σ H x y v u Q I rx ry h hs => h.elim (fun h => h1 a b pins s σ H x y v u Q I rx ry h hs) (fun h => h2 a b pins s σ H x y v u Q I rx ry h hs)
def spPick : Sp := fun vs H Q _ => ∃ (c p : Addr) (n : Nat), n ≤ 1000000 ∧ PenAt c n H p ∧
  ((∃ a xs, vs = [.ref p, .ref a] ∧ a ≠ p ∧ H a = some (.lst xs) ∧ 0 < xs.length ∧ xs.length ≤ 1000 ∧ ∀ v H', v ∈ xs → PenAt c (n + 1) H' p → Ext1 p H H' → Q v H') ∨
  (∃ z : Str, vs = [.ref p, .str z] ∧ 0 < z.length ∧ z.length ≤ 1000 ∧ ∀ d H', d ∈ z.cps.toList → PenAt c (n + 1) H' p → Ext1 p H H' → Q (.str ⟨#[d]⟩) H'))
theorem atI_some {α : Type} {xs : List α} {i : Int} (i0 : 0 ≤ i) (i1 : i < xs.length) : ∃ v, v ∈ xs ∧ atI xs i = some v := by
  have h : i.toNat < xs.length := by omega
  exact ⟨xs[i.toNat], List.getElem_mem h, atI_int i0 (List.getElem?_eq_getElem h)⟩
theorem scPick : FnScope ["_law_pen_here", "_law_some"] ["_law_pen_here", "_law_some"] (defScope sPick) := ⟨rfl, rfl, rfl, by decide +kernel, rfl, by decide +kernel, by decide +kernel⟩
theorem ok_pick {f f1 : Addr} {fd fd1 : FuncData} (F : Fun K "_law_pick" "_law_pick" sPick f fd) (T : Txt mg) (G : FnOk P w K mg base CX0 1 f1 fd1 ["_law_pen_here", "_law_many"] spDraw) (m1 : mg "_law_draw" = some (.ref f1)) (k1 : PySem.W.keepIn K (.ref f1) = true)
    (b1 : Binds K fd1 ["_law_pen_here", "_law_many"] []) : FnOk P w K mg base CX0 2 f fd ["_law_pen_here", "_law_some"] spPick := by
  refine F.ok scPick (fun vs H Q E h => ?_) (fun cdv A outer s H vs Q E hr h => ?_)
  · obtain ⟨c, p, n, _, _, ⟨a, xs, rfl, _⟩ | ⟨z, rfl, _⟩⟩ := h <;> rfl
  · obtain ⟨c, p, n, nb, pen, h⟩ := h
    refine ⟨_, pss_one (ps_ret (pe_ix (ix_or ix_list ix_str) (pv 1) (pe_call G hr (by rfl) m1 k1 b1 .nil pass0 (pa_cons (pv 0) (pa_cons (bLen (by rfl) T.len (pv 1)) pa_nil))) (fun _ _ => rfl))), ?_⟩
    rcases h with ⟨a, xs, rfl, ap, ha, l0, l1, k⟩ | ⟨z, rfl, l0, l1, k⟩
    · refine ⟨_, rfl, _, rfl, _, rfl, _, _, rfl, Sq.len (.inl ha), c, p, _, n, rfl, by omega, by omega, nb, pen, fun r H' r0 r1 pen' x => ?_⟩
      obtain ⟨v, hv, e⟩ := atI_some r0 r1
      exact .inl ⟨a, xs, r, v, rfl, rfl, SqL.of (x _ _ ap ha), e, k v H' hv pen' x⟩
    · refine ⟨_, rfl, _, rfl, _, rfl, _, z.length, rfl, ⟨len_small l1, rfl⟩, c, p, _, n, rfl, by omega, by omega, nb, pen, fun r H' r0 r1 pen' x => ?_⟩
      obtain ⟨v, hv, e⟩ := atI_some (xs := z.cps.toList) r0 (by rw [Array.length_toList]; exact r1)
      exact .inr ⟨z, r, v, rfl, rfl, len_small l1, e, k v H' hv pen' x⟩
def spLetters : Sp := fun vs H Q _ => ∃ (c p : Addr) (n : Nat), vs = [.ref p] ∧ n ≤ 1000000 ∧ PenAt c n H p ∧ ∀ z H', z ∈ five → Ink c p (n + 1) H H' → Q (.str z) H'
theorem scLetters : FnScope ["_law_pen_here"] ["_law_pen_here"] (defScope sLetters) := ⟨rfl, rfl, rfl, by decide +kernel, rfl, by decide +kernel, by decide +kernel⟩
theorem ok_letters {f f1 : Addr} {fd fd1 : FuncData} (F : Fun K "_law_letters" "_law_letters" sLetters f fd) (G : FnOk P w K mg base CX0 2 f1 fd1 ["_law_pen_here", "_law_some"] spPick) (m1 : mg "_law_pick" = some (.ref f1)) (k1 : PySem.W.keepIn K (.ref f1) = true)
    (b1 : Binds K fd1 ["_law_pen_here", "_law_some"] []) : FnOk P w K mg base CX0 3 f fd ["_law_pen_here"] spLetters := by
  refine F.ok scLetters (fun vs H Q E h => ?_) (fun cdv A outer s H vs Q E hr h => ?_)
  · obtain ⟨c, p, n, rfl, _⟩ := h
    rfl
  · obtain ⟨c, p, n, rfl, nb, pen, k⟩ := h
    refine ⟨_, pss_one (ps_ret (pe_call G hr (by rfl) m1 k1 b1 .nil pass0 (pa_cons (pv 0) (pa_cons (pe_lst (pa_cons pe_str (pa_cons pe_str (pa_cons pe_str (pa_cons pe_str (pa_cons pe_str (pa_cons pe_str pa_nil))))))) pa_nil)))), ?_⟩
    refine ⟨_, rfl, by show 6 ≤ sizeLine; decide, fun q hq => ⟨c, p, n, nb, pen.new hq, .inl ⟨q, _, rfl, pen.ne1 hq, upd_same, by decide, by decide, fun v H' hv pen' x => ?_⟩⟩⟩
    have i1 : Ink c p (n + 1) H H' := ⟨Ext1.trans (Ext1.new hq) x, pen'⟩
    simp only [List.mem_cons, List.not_mem_nil, or_false] at hv
    rcases hv with rfl | rfl | rfl | rfl | rfl | rfl <;> exact k _ _ (by decide) i1

/-! ### _law_spot -/
/-- at a a table as lists, beside the pen -/
def LTab (p : Addr) (H : Hp) (a : Addr) (tb : List (List Int)) : Prop := a ≠ p ∧ ∃ xs, H a = some (.lst xs) ∧ Rows (fun r ys => r ≠ p ∧ H r = some (.lst ys)) xs tb
theorem LTab.ext {p a : Addr} {H H' : Hp} {tb : List (List Int)} (h : LTab p H a tb) (e : Ext1 p H H') : LTab p H' a tb := by
  obtain ⟨n, xs, h1, h2⟩ := h
  exact ⟨n, xs, e _ _ n h1, h2.mono fun r ys q => ⟨q.1, e _ _ q.1 q.2⟩⟩
end
end Kx
set_option Elab.async false
set_option maxRecDepth 100000
set_option autoImplicit false
namespace Kx
open PySem L2 PySem.Spec PyProof.Rows Rg
theorem joinL_one : ∀ cs : List Nat, TL.joinL [] (cs.map fun d => [d]) = cs
  | [] => rfl
  | [_] => rfl
  | a :: b :: r => by
    have e := joinL_one (b :: r)
    show [a] ++ ([] ++ TL.joinL [] ((b :: r).map fun d => [d])) = a :: b :: r
    rw [e]
    rfl
theorem join_one (cs : List Nat) : Txt.join ("" : Str) (cs.map fun d => (⟨#[d]⟩ : Str)) = ⟨cs.toArray⟩ := by
  have e := SX.join_S [] (cs.map fun d => [d])
  rw [joinL_one, List.map_map] at e
  exact e
theorem sum_one : ∀ cs : List Nat, ((cs.map fun d => (⟨#[d]⟩ : Str)).map (·.length)).sum = cs.length
  | [] => rfl
  | a :: r => by
    rw [List.map_cons, List.map_cons, List.sum_cons, sum_one r, List.length_cons]
    show 1 + r.length = _
    omega
def spWord : Sp := fun vs H Q _ => ∃ (c p : Addr) (n : Nat) (z : Str) (b : Int), vs = [.ref p, .str z, .int b] ∧ n ≤ 900000 ∧ PenAt c n H p ∧ Zok z ∧ 0 ≤ b ∧ b ≤ 40 ∧ ∀ (wd : Str) H', Word z wd → wd.length ≤ 40 → Ink c p (n + 41) H H' → Q (.str wd) H'
section
variable {P : Program} {w : World} {K : PySem.W.Frag} {mg : Str → Option Value} {base : Heap}
theorem scWord : FnScope ["_law_pen_here", "_law_letters_here", "_law_bound", "_law_k"] ["_law_pen_here", "_law_letters_here", "_law_bound"] (defScope sWord) := ⟨rfl, rfl, rfl, by decide +kernel, rfl, by decide +kernel, by decide +kernel⟩
theorem ok_word {f f1 f2 : Addr} {fd fd1 fd2 : FuncData} (F : Fun K "_law_word" "_law_word" sWord f fd) (T : Txt mg)
    (G1 : FnOk P w K mg base CX0 1 f1 fd1 ["_law_pen_here", "_law_many"] spDraw) (m1 : mg "_law_draw" = some (.ref f1)) (k1 : PySem.W.keepIn K (.ref f1) = true) (b1 : Binds K fd1 ["_law_pen_here", "_law_many"] [])
    (G2 : FnOk P w K mg base CX0 2 f2 fd2 ["_law_pen_here", "_law_some"] spPick) (m2 : mg "_law_pick" = some (.ref f2)) (k2 : PySem.W.keepIn K (.ref f2) = true) (b2 : Binds K fd2 ["_law_pen_here", "_law_some"] []) :
    FnOk P w K mg base CX0 3 f fd ["_law_pen_here", "_law_letters_here", "_law_bound"] spWord := by
  refine F.ok scWord (fun vs H Q E h => ?_) (fun cdv A outer s H vs Q E hr h => ?_)
  · obtain ⟨c, p, n, z, b, rfl, _⟩ := h
    rfl
  · obtain ⟨c, p, n, z, b, rfl, nb, pen, Z, b0, b1', k⟩ := h
    have nd := scWord.nd
    have hr1 := hr.mono (show 1 ≤ 2 by decide)
    have zf := Z.few
    refine ⟨_, pss_one (ps_ret (pe_join pe_str (pe_lc (own := [("_law_k", 3)]) (g := gName 3) (tt := tYes) rfl nd
      (pi_range1 (by rfl) T.range (pa_cons (pe_call G1 hr1 (by rfl) m1 k1 b1 .nil pass0 (pa_cons (pv 0) (pa_cons (pe_op op_add (pv 2) pe_int) pa_nil))) pa_nil)) (blkOk_by (N := ["_law_pen_here", "_law_letters_here", "_law_bound", "_law_k"]) (sc := defScope sWord) (by decide +kernel))
        (fun _ _ _ _ _ => pg_name (i := 3) nd rfl (Or.inl rfl)) (fun _ _ _ _ _ => pts_nil) (fun _ _ _ _ _ => pe_call G2 hr (by rfl) m2 k2 b2 .nil pass0 (pa_cons (pv 0) (pa_cons (pv 1) pa_nil)))))), ?_⟩
    refine ⟨⟨_, rfl⟩, _, rfl, _, rfl, _, _, rfl, rfl, c, p, _, n, rfl, by omega, by omega, by omega, pen, fun r H1 r0 r1 pen1 x1 => ⟨r, rfl, by omega, by omega, fun D hD => ?_⟩⟩
    have hn : r.toNat ≤ 40 := by omega
    refine lcGen walk_range (fun i H' acc => Ink c p (n + 1 + i) H1 H' ∧ ∃ cs : List Nat, acc = cs.map (fun d => V.str ⟨#[d]⟩) ∧ ∀ d ∈ cs, d ∈ z.cps.toList) (by rw [sizeLine_eq]; omega) ⟨(Ink.start pen1).putNew pen1 hD, [], rfl, fun d hd => absurd hd (List.not_mem_nil)⟩ (fun _ _ _ _ _ => trivial) (fun _ _ _ _ y => y.1) ?_ ?_
    · rintro i x H' acc Q' hi hDl hl ⟨ink, cs, rfl, sub⟩ y q
      refine ⟨_, rfl, _, rfl, c, p, n + 1 + i, by omega, ink.2, .inr ⟨z, rfl, Z.pos, by omega, fun d H4 hd pen4 x4 => q _ H4 (x4 _ _ (pen1.ne1 hD) hDl) ⟨(Ink.trans ink ⟨x4, pen4⟩).putNew pen1 hD, cs ++ [d], by simp, fun e he => ?_⟩⟩⟩
      rcases List.mem_append.mp he with he | he
      · exact sub e he
      · rw [List.mem_singleton.mp he]; exact hd
    · rintro H' acc hDl hl ⟨ink, cs, rfl, sub⟩
      have hlen : cs.length = r.toNat := by rw [List.length_map] at hl; exact hl
      refine ⟨_, D, cs.map fun d => ⟨#[d]⟩, rfl, rfl, .inl (SqL.of (by rw [List.map_map]; exact hDl)), ?_, ?_⟩
      · rw [sum_one, List.length_map]
        show cs.length + cs.length * 0 ≤ 16777216
        omega
      · rw [join_one]
        refine k _ _ (fun d hd => sub d (by simpa using hd)) (by show cs.toArray.size ≤ 40; rw [List.size_toArray]; omega) ⟨Ext1.trans x1 ink.1, ink.2.mono (by omega)⟩
end
end Kx
set_option Elab.async false
set_option maxRecDepth 100000
set_option autoImplicit false
namespace Kx
open PySem L2 PySem.Spec PyProof.Rows Rg
theorem Rows.snoc {R : Addr → List V → Prop} {xs : List V} {tb : List (List Int)} {a : Addr} {row : List Int} (h : Rows R xs tb) (r : R a (row.map V.int)) : Rows R (xs ++ [.ref a]) (tb ++ [row]) := by
  refine ⟨by rw [List.length_append, List.length_append, h.1] <;> rfl, fun i hi => ?_⟩
  rw [List.length_append, List.length_singleton] at hi
  rcases Nat.lt_succ_iff_lt_or_eq.mp hi with hi | rfl
  · obtain ⟨b, e, q⟩ := h.2 i hi
    refine ⟨b, by rw [List.getElem?_append_left (by rw [h.1]; exact hi)]; exact e, ?_⟩
    rw [List.getD_eq_getElem?_getD, List.getElem?_append_left hi, ← List.getD_eq_getElem?_getD]
    exact q
  · refine ⟨a, by rw [List.getElem?_append_right (by rw [h.1] <;> exact Nat.le_refl _), h.1, Nat.sub_self] <;> rfl, ?_⟩
    rw [List.getD_eq_getElem?_getD, List.getElem?_append_right (Nat.le_refl _), Nat.sub_self]
    exact r
theorem Rows.nil {R : Addr → List V → Prop} : Rows R [] [] := ⟨rfl, fun _ h => absurd h (Nat.not_lt_zero _)⟩
def spPlan : Sp := fun vs H Q _ => ∃ (c p : Addr) (n : Nat) (z : Str) (b : Int), vs = [.ref p, .str z, .int b] ∧ 0 < b ∧ b ≤ 8 ∧ n ≤ 900000 ∧ PenAt c n H p ∧ Zok z ∧
  ∀ (t a b : Addr) (tb : List (List Int)) (mk : List Bool) (H' : Hp), H' t = some (.tup [.ref a, .ref b]) → LTab p H' a tb → Tab z tb → b ≠ p → H' b = some (.lst (mk.map V.bl)) → mk.length = tb.length → Ink c p (n + 41) H H' → Q (.ref t) H'
section
variable {P : Program} {w : World} {K : PySem.W.Frag} {mg : Str → Option Value} {base : Heap}
def plScope : Scope := { kind := .function, names := [(".0", .local), ("_law_spot", .local), ("_law_letters_here", .cell), ("_law_many", .cell), ("_law_pen_here", .cell)], isGenerator := false, isCoroutine := false }
abbrev nPlan : List Str := ["_law_pen_here", "_law_letters_here", "_law_bound", "_law_many", "_law_table", "_law_letter", "_law_spot"]
theorem scPlan : FnScope nPlan ["_law_pen_here", "_law_letters_here", "_law_bound"] (defScope sPlan) := ⟨rfl, rfl, rfl, by decide +kernel, rfl, by decide +kernel, by decide +kernel⟩
theorem ok_plan {f f1 : Addr} {fd fd1 : FuncData} (F : Fun K "_law_plan" "_law_plan" sPlan f fd) (T : Txt mg)
    (G1 : FnOk P w K mg base CX0 1 f1 fd1 ["_law_pen_here", "_law_many"] spDraw) (m1 : mg "_law_draw" = some (.ref f1)) (k1 : PySem.W.keepIn K (.ref f1) = true) (b1 : Binds K fd1 ["_law_pen_here", "_law_many"] []) :
    FnOk P w K mg base CX0 2 f fd ["_law_pen_here", "_law_letters_here", "_law_bound"] spPlan := by
  refine F.ok scPlan (fun vs H Q E h => ?_) (fun cdv A outer s H vs Q E hr h => ?_)
  · obtain ⟨c, p, n, z, b, rfl, _⟩ := h
    rfl
  · obtain ⟨c, p, n, z, bd, rfl, bd0, bd8, nb, pen, Z, k⟩ := h
    have nd := scPlan.nd
    have zf := Z.few
    refine ⟨_, pss_cons (ps_set (i := 3) nd rfl (.inr rfl) (pe_op op_add pe_int (pe_call G1 hr (by rfl) m1 k1 b1 .nil pass0 (pa_cons (pv 0) (pa_cons (pv 2) pa_nil)))))
      (pss_cons (ps_setLc (i := 4) (own := [("_law_spot", 6)]) (g := gName 6) (tt := tYes) (te := tLc (iStr (tVar 1)) (gName 5) tYes (tCall spDraw [] E0 (tCons (tVar 0) (tCons (tVar 3) tNil))) [5]) rfl nd rfl rfl rfl (pi_range1 (by rfl) T.range (pa_cons (pv 3) pa_nil))
          (blkOk_by (N := nPlan) (sc := defScope sPlan) (by decide +kernel)) (fun _ _ _ _ _ => pg_name (i := 6) nd rfl (Or.inl rfl)) (fun _ _ _ _ _ => pts_nil)
          (fun _ _ _ _ _ => pe_lc (own := [("_law_letter", 5)]) (g := gName 5) (tt := tYes) rfl nd (pi_str (pv 1)) (blkOk_by (N := nPlan) (sc := plScope) (by decide +kernel)) (fun _ _ _ _ _ => pg_name (i := 5) nd rfl (Or.inl rfl)) (fun _ _ _ _ _ => pts_nil)
            (fun _ _ _ _ _ => pe_call G1 hr (by rfl) m1 k1 b1 .nil pass0 (pa_cons (pv 0) (pa_cons (pv 3) pa_nil)))))
      (pss_one (ps_ret (pe_tup (pa_cons (pv 4) (pa_cons (pe_lc (own := [("_law_spot", 6)]) (g := gName 6) (tt := tYes) rfl nd (pi_range1 (by rfl) T.range (pa_cons (pv 3) pa_nil))
          (blkOk_by (N := nPlan) (sc := defScope sPlan) (by decide +kernel)) (fun _ _ _ _ _ => pg_name (i := 6) nd rfl (Or.inl rfl)) (fun _ _ _ _ _ => pts_nil)
          (fun _ _ _ _ _ => pe_cmpR op_eq (pe_call G1 hr (by rfl) m1 k1 b1 .nil pass0 (pa_cons (pv 0) (pa_cons pe_int pa_nil))) pe_int (nomark _))) pa_nil)))))), ?_⟩
    refine ⟨_, rfl, _, rfl, c, p, bd, n, rfl, bd0, by omega, by omega, pen, fun r H0 r0 r1 pen0 x0 => ⟨_, _, rfl, rfl, ?_⟩⟩
    have hm0 : 0 < 1 + r := by omega
    have hm8 : 1 + r ≤ 8 := by omega
    have hn : (1 + r).toNat ≤ 8 := by omega
    have hmN : (((1 + r).toNat : Nat) : Int) = (1 + r) := by omega
    refine ⟨_, rfl, (1 + r), rfl, by omega, by omega, fun D hD => ?_⟩
    refine lcGen walk_range (fun i H' acc => Ink c p (n + 1 + 4 * i) H0 H' ∧ ∃ tb : List (List Int), tb.length = i ∧ (∀ row ∈ tb, row.length = z.length ∧ ∀ v ∈ row, 0 ≤ v ∧ v < (1 + r)) ∧ Rows (fun a ys => a ≠ p ∧ a ≠ D ∧ H' a = some (.lst ys)) acc tb) (by rw [sizeLine_eq]; omega)
      ⟨(Ink.start pen0).putNew pen0 hD, [], rfl, fun d hd => absurd hd (List.not_mem_nil), Rows.nil⟩ (fun _ _ _ _ _ => trivial) (fun _ _ _ _ y => y.1) ?_ ?_
    · rintro i x H' acc Q' hi hDl hl ⟨ink, tb, tl, wide, rows⟩ y q
      refine ⟨_, rfl, z, rfl, fun D2 hD2 => ?_⟩
      have d2p := ink.2.ne1 hD2
      have d2D : D2 ≠ D := by rintro rfl; rw [hDl] at hD2; cases hD2
      have dp := pen0.ne1 hD
      refine lcGen walk_str (fun j H4 acc2 => Ink c p (n + 1 + 4 * i + j) H' H4 ∧ ∃ row : List Int, acc2 = row.map V.int ∧ ∀ v ∈ row, 0 ≤ v ∧ v < (1 + r)) (by show z.length < sizeLine; rw [sizeLine_eq]; omega) ⟨(Ink.start ink.2).putNew ink.2 hD2, [], rfl, fun d hd => absurd hd (List.not_mem_nil)⟩ (fun _ _ _ _ _ => trivial) (fun _ _ _ _ y => y.1) ?_ ?_
      · rintro j x2 H4 acc2 Q2 hj hD2l hl2 ⟨ink2, row, rfl, sub⟩ y2 q2
        have hj' : j < z.length := hj
        refine ⟨_, rfl, _, rfl, c, p, (1 + r), n + 1 + 4 * i + j, rfl, hm0, by omega, by omega, ink2.2, fun v H5 v0 v1 pen5 x5 => q2 _ H5 (x5 _ _ d2p hD2l) ⟨(Ink.trans ink2 ⟨x5, pen5⟩).putNew ink.2 hD2, row ++ [v], by simp, fun u hu => ?_⟩⟩
        rcases List.mem_append.mp hu with hu | hu
        · exact sub u hu
        · rw [List.mem_singleton.mp hu]; exact ⟨v0, v1⟩
      · rintro H4 acc2 hD2l hl2 ⟨ink2, row, rfl, sub⟩
        rw [List.length_map] at hl2
        have hl2' : row.length = z.length := hl2
        refine q (.ref D2) H4 (ink2.1 _ _ dp hDl) ⟨((Ink.trans ink ink2).mono (by show _ + z.length ≤ _; omega)).putNew pen0 hD, tb ++ [row], by rw [List.length_append, tl] <;> rfl, fun rw' hr => ?_, Rows.snoc (rows.mono fun a ys h => ⟨h.1, h.2.1, ?_⟩) ⟨d2p, d2D, ?_⟩⟩
        · rcases List.mem_append.mp hr with hr | hr
          · exact wide rw' hr
          · rw [List.mem_singleton.mp hr]; exact ⟨hl2', sub⟩
        · rw [upd_ne h.2.1]; exact ink2.1 _ _ h.1 h.2.2
        · rw [upd_ne d2D]; exact hD2l
    · rintro H1 acc hDl hl ⟨ink, tb, tl, wide, rows⟩
      have dp := pen0.ne1 hD
      have ink1 : Ink c p (n + 33) H H1 := ⟨Ext1.trans x0 ink.1, ink.2.mono (by omega)⟩
      have tab : Tab z tb := ⟨by omega, by omega, fun row hr => ⟨(wide row hr).1, fun v hv => by have := (wide row hr).2 v hv; omega⟩⟩
      refine ⟨_, rfl, _, rfl, (1 + r), rfl, by omega, by omega, fun B hB => ?_⟩
      have bp := ink1.2.ne1 hB
      have bD : B ≠ D := by rintro rfl; rw [hDl] at hB; cases hB
      refine lcGen walk_range (fun i H' acc2 => Ink c p (n + 33 + i) H1 H' ∧ ∃ mk : List Bool, acc2 = mk.map V.bl) (by rw [sizeLine_eq]; omega) ⟨(Ink.start ink1.2).putNew ink1.2 hB, [], rfl⟩ (fun _ _ _ _ _ => trivial) (fun _ _ _ _ y => y.1) ?_ ?_
      · rintro i x H' acc2 Q' hi hBl hl2 ⟨ink2, mk, rfl⟩ y q
        refine ⟨_, rfl, c, p, 2, n + 33 + i, rfl, by decide, by decide, by omega, ink2.2, fun v H5 v0 v1 pen5 x5 => ?_⟩
        exact ⟨rfl, q _ H5 (x5 _ _ bp hBl) ⟨(Ink.trans ink2 ⟨x5, pen5⟩).putNew ink1.2 hB, mk ++ [decide (V.int v = V.int 0)], by simp⟩⟩
      · rintro H2 acc2 hBl hl2 ⟨ink2, mk, rfl⟩
        rw [List.length_map] at hl2
        refine ⟨by show 2 ≤ sizeLine; decide, fun t ht => ?_⟩
        have tD : t ≠ D := by rintro rfl; rw [ink2.1 _ _ dp hDl] at ht; cases ht
        have tB : t ≠ B := by rintro rfl; rw [hBl] at ht; cases ht
        have i3 : Ext1 p H1 (upd H2 t (.tup [.ref D, .ref B])) := Ext1.trans ink2.1 (Ext1.new ht)
        refine k t D B tb mk _ upd_same ⟨dp, acc, i3 _ _ dp hDl, rows.mono fun a ys h => ⟨h.1, i3 _ _ h.1 h.2.2⟩⟩ tab bp (by rw [upd_ne tB.symm]; exact hBl) (by omega) ⟨Ext1.trans ink1.1 i3, ?_⟩
        exact (ink2.2.mono (by omega)).new ht
end
end Kx
set_option Elab.async false
set_option maxRecDepth 100000
set_option autoImplicit false
namespace Kx
open PySem L2 PySem.Spec PyProof.Rows Rg
/-! ### keywords -/
theorem kbMk {K : PySem.W.Frag} {x qual : Str} {st : Stmt} {f : Addr} {fd : FuncData} {ps ks : List Str} {n : Nat} {g : List Value → List Value → List Value} {gV : List V → List V → List V} (F : L2.Fun K x qual st f fd)
    (h : ∀ (kV doc pm : Value) (an : Option Addr) (cdv ct : Value) (us ws : List Value), us.length = n → ws.length = ks.length → bindArgs (PySem.W.fnOf x qual (defArgs st) (defBody st) (defScope st) .none kV doc pm an cdv ct) ⟨us, ks.zip ws⟩ = pure (ps.zip (g us ws)))
    (rel : ∀ {vs : List V} {us : List Value} {zs : List V} {ws : List Value}, Vals vs us → Vals zs ws → Vals (gV vs zs) (g us ws)) : KBn K fd ps n ks g gV := by
  obtain ⟨oc, od, kV, doc, pm, an, cdv, ct, osl, rfl, lk, hcd⟩ := F.ex
  exact ⟨fun s us ws _ l1 l2 => .of_eq (h kV doc pm an cdv ct us ws l1 l2), rel⟩
theorem vapp {vs : List V} {us : List Value} {zs : List V} {ws : List Value} (a : Vals vs us) (b : Vals zs ws) : Vals (vs ++ zs) (us ++ ws) := by
  induction a with
  | nil => exact b
  | cons r _ ih => exact .cons r ih
theorem vrev {vs : List V} {us : List Value} (a : Vals vs us) : Vals vs.reverse us.reverse := by
  induction a with
  | nil => exact .nil
  | cons r _ ih => rw [List.reverse_cons, List.reverse_cons]; exact vapp ih (.cons r .nil)

/-! ### what stays with a machine -/
theorem Mach.keep {C q : Addr} {H H' : Hp} {z : Str} {tb : List (List Int)} {mk : List Bool} (h : Mach C H q z tb mk) (e : ∀ b o, H b = some o → (∀ xs, o ≠ .lst xs) → H' b = some o) : Mach C H' q z tb mk := by
  obtain ⟨dx, st, tt, h1, ⟨xs, h2, h3⟩, h4⟩ := h
  exact ⟨dx, st, tt, e _ _ h1 (fun _ z => nomatch z), ⟨xs, e _ _ h2 (fun _ z => nomatch z), h3.mono fun a ys q => e _ _ q (fun _ z => nomatch z)⟩, e _ _ h4 (fun _ z => nomatch z)⟩
theorem Mach.put {C q a : Addr} {H : Hp} {o : HO} {xs : List V} {z : Str} {tb : List (List Int)} {mk : List Bool} (h : Mach C H q z tb mk) (l : H a = some (.lst xs)) : Mach C (upd H a o) q z tb mk :=
  h.keep fun b u e n => by
    rw [upd_ne]
    · exact e
    · rintro rfl
      rw [l] at e
      exact n xs (Option.some.inj e).symm
theorem Mach.same {C q : Addr} {H H' : Hp} {z : Str} {tb : List (List Int)} {mk : List Bool} (h : Mach C H q z tb mk) (e : Same H H') : Mach C H' q z tb mk := h.keep fun b u q _ => e b u q
theorem Mach.ink {C c p q : Addr} {n m : Nat} {H H' : Hp} {z : Str} {tb : List (List Int)} {mk : List Bool} (h : Mach C H q z tb mk) (pen : PenAt c m H p) (i : Ink c p n H H') : Mach C H' q z tb mk := h.keep fun b u e k => i.1 b u (by
    rintro rfl
    obtain ⟨ns, a, g, h1, _⟩ := pen
    rw [h1] at e
    exact k _ (Option.some.inj e).symm) e
theorem Ink.free {c p q : Addr} {n m : Nat} {H H' : Hp} (i : Ink c p n H H') (pen : PenAt c m H p) (e : H' q = none) : H q = none := by
  cases z : H q with
  | none => rfl
  | some o =>
    rw [i.1 q o (i.2.ne1 e) z] at e
    cases e

/-! ### rows laid anew -/
def LcW (J : It) (v : Nat) (te : TE) (σ : L2.St) (H1 : Hp) (D : Addr) (Qd : Hp → Prop) : Prop := ∃ W : Nat → Nat → Hp → Prop, (∃ m, W 0 m (upd H1 D (.lst []))) ∧ ∀ i m H, W i m H →
      (J.stop i H ∧ Qd H) ∨ (J.go i H ∧ ∃ Nx : Hp → Prop, (∀ H', Nx H' → ∃ m', m' < m ∧ W (i + 1) m' H') ∧ ∀ x H', J.yld i H x H' → gName v x (wipe σ [v]) H' fun σ2 H2 => wipe σ2 [v] = wipe σ [v] ∧ tYes σ2 H2 fun b H3 =>
        if b = true then te σ2 H3 fun y H4 => ∃ acc, H4 D = some (.lst acc) ∧ acc.length < sizeLine ∧ Nx (upd H4 D (.lst (acc ++ [y]))) else Nx H3)
def rLst (K : PySem.W.Frag) : List V → Hp → VK → Prop := fun xs H Q => ∃ p ys, xs = [.ref p] ∧ (SqL K H p ys ∨ SqT K H p ys) ∧ ∀ l, H l = none → Q (.ref l) (upd H l (.lst ys))
theorem bLst {X : Cx} {e : Expr} {te : TE} {p pos : Pos} (hg : Gl X "list") (m : X.mg "list" = none) (he : PE X e te) (na : starEach [e] X.env = (false, eval e X.env) :: starEach [] X.env := by rfl) :
    PE X (.Call (.Name "list" p) [e] [] pos) (tCB (rLst X.K) (tCons te tNil)) := bList hg m he na
/-- rows of a list, each told by what a copy's maker makes: f tells its kind -/
theorem lcRows {K : PySem.W.Frag} {a : Addr} {xs : List V} {tb : List (List Int)} {v : Nat} {te : TE} {σ : L2.St} {H1 : Hp} {D : Addr} {Qd : Hp → Prop} (f : List V → HO) (hD : H1 D = none) (ha : H1 a = some (.lst xs)) (rows : Rows (fun r ys => H1 r = some (.lst ys)) xs tb) (few : tb.length ≤ 8)
    (el : ∀ (r : Addr) (ys : List V) (H' : Hp) (Q : VK), H' r = some (.lst ys) → (∀ l, H' l = none → Q (.ref l) (upd H' l (f ys))) → te ((wipe σ [v]).set v (some (.ref r))) H' Q)
    (hd : ∀ H' acc, Same H1 H' → H' D = some (.lst acc) → Rows (fun l ys => l ≠ D ∧ H1 l = none ∧ H' l = some (f ys)) acc tb → Qd H') : LcW (Itl K a) v te σ H1 D Qd := by
  have hx := rows.1
  refine lcGen walk_list (fun i H' acc => Same H1 H' ∧ ∀ j, j < i → ∃ r, acc[j]? = some (.ref r) ∧ r ≠ D ∧ H1 r = none ∧ H' r = some (f ((tb.getD j []).map V.int))) (by rw [sizeLine_eq]; omega) ⟨Same.new hD, fun j hj => absurd hj (Nat.not_lt_zero _)⟩
    (fun i H' acc _ q => SqL.of (q.1 _ _ ha)) (fun _ _ _ _ y => y.1) ?_ (fun H' acc h1 h2 h3 => hd H' acc h3.1 h1 ⟨by omega, fun j hj => h3.2 j (by omega)⟩)
  rintro i x H' acc Q' hi hDl hl ⟨s4, hr4⟩ y q
  obtain ⟨r, e1, e2⟩ := rows.2 i (by omega)
  have e3 := y.2
  rw [e1] at e3
  cases e3
  refine el r _ H' Q' (s4 _ _ e2) (fun l hl5 => ?_)
  have nD : l ≠ D := (ne_of_none hDl hl5).symm
  have s5 : Same H' (upd H' l (f ((tb.getD i []).map V.int))) := Same.new hl5
  refine q _ _ (s5 _ _ hDl) ⟨Same.putNew hD (Same.trans s4 s5), fun j hj => ?_⟩
  rcases Nat.lt_succ_iff_lt_or_eq.mp hj with hj | rfl
  · obtain ⟨r', e4, e5, e6, e7⟩ := hr4 j hj
    refine ⟨r', ?_, e5, e6, ?_⟩
    · rw [List.getElem?_append_left (by omega)]; exact e4
    · rw [upd_ne e5]; exact s5 _ _ e7
  · refine ⟨l, ?_, nD, Same.free s4 hl5, ?_⟩
    · rw [← hl]; simp
    · rw [upd_ne nD]; exact upd_same
end Kx
set_option Elab.async false
set_option maxRecDepth 100000
set_option autoImplicit false
namespace Kx
open PySem L2 PySem.Spec PyProof.Rows Rg
/-! ### data that repr may tell -/
structure Tame (d : PyData) (h w : Nat) : Prop where
  sh : d.showable = true
  hd : d.hasDict = false
  dp : d.depth ≤ h
  ls : d.leavesShort 13 = true
  wt : d.weight ≤ w
structure Tames (ds : List PyData) (h w : Nat) : Prop where
  sh : PyData.showableAll ds = true
  hd : PyData.hasDictAll ds = false
  dp : PyData.depthAll ds ≤ h
  ls : PyData.leavesShortAll 13 ds = true
  wt : PyData.weightAll ds ≤ w
theorem Tames.nil {h w : Nat} : Tames [] h w := ⟨rfl, rfl, Nat.zero_le _, rfl, Nat.zero_le _⟩
theorem Tames.cons {d : PyData} {ds : List PyData} {h w1 w2 w : Nat} (a : Tame d h w1) (b : Tames ds h w2) (e : w1 + 1 + w2 ≤ w) : Tames (d :: ds) h w := by
  refine ⟨?_, ?_, ?_, ?_, ?_⟩
  · simp only [PyData.showableAll, a.sh, b.sh, Bool.and_self]
  · simp only [PyData.hasDictAll, a.hd, b.hd, Bool.or_self]
  · simp only [PyData.depthAll]; exact Nat.max_le.mpr ⟨a.dp, b.dp⟩
  · simp only [PyData.leavesShortAll, a.ls, b.ls, Bool.and_self]
  · simp only [PyData.weightAll]
    have := a.wt
    have := b.wt
    omega
theorem Tames.all {h w : Nat} : ∀ {ds : List PyData} {W : Nat}, (∀ d ∈ ds, Tame d h w) → ds.length * (w + 1) ≤ W → Tames ds h W
  | [], _, _, _ => .nil
  | d :: r, W, t, e => by
    rw [List.length_cons, Nat.succ_mul] at e
    exact Tames.cons (t d List.mem_cons_self) (Tames.all (fun x hx => t x (List.mem_cons_of_mem _ hx)) (Nat.le_refl _)) (by omega)
theorem Tame.list {ds : List PyData} {h w : Nat} (a : Tames ds h w) : Tame (.list ds) (h + 1) w := ⟨by simp only [PyData.showable, a.sh], by simp only [PyData.hasDict, a.hd], by simp only [PyData.depth]; have := a.dp; omega, by simp only [PyData.leavesShort, a.ls], by simp only [PyData.weight]; exact a.wt⟩
theorem Tame.tup {ds : List PyData} {h w : Nat} (a : Tames ds h w) : Tame (.tuple ds) (h + 1) w := ⟨by simp only [PyData.showable, a.sh], by simp only [PyData.hasDict, a.hd], by simp only [PyData.depth]; have := a.dp; omega, by simp only [PyData.leavesShort, a.ls], by simp only [PyData.weight]; exact a.wt⟩
theorem Tame.mono {d : PyData} {h w h' w' : Nat} (a : Tame d h w) (e1 : h ≤ h') (e2 : w ≤ w') : Tame d h' w' := ⟨a.sh, a.hd, Nat.le_trans a.dp e1, a.ls, Nat.le_trans a.wt e2⟩
theorem Tame.bool (b : Bool) {h w : Nat} : Tame (.bool b) h w := ⟨by simp only [PyData.showable], by simp only [PyData.hasDict], by simp only [PyData.depth]; exact Nat.zero_le _, by simp only [PyData.leavesShort], by simp only [PyData.weight]; exact Nat.zero_le _⟩
theorem Tame.int {i : Int} {h w : Nat} (i0 : 0 ≤ i) (i1 : i < 1000) (e : 10 ≤ w) : Tame (.int i) h w := by
  have l : i.natAbs.log2 < 10 := by
    by_cases z : i.natAbs = 0
    · rw [z]; decide
    · exact (Nat.log2_lt z).mpr (by omega)
  refine ⟨?_, by simp only [PyData.hasDict], by simp only [PyData.depth]; exact Nat.zero_le _, ?_, ?_⟩
  · simp only [PyData.showable, decide_eq_true_eq]; omega
  · simp only [PyData.leavesShort, decide_eq_true_eq]; exact PyData.shown_int_le (by omega)
  · simp only [PyData.weight]
    split <;> omega
theorem Tame.text {z : Str} {h w : Nat} (m : z ∈ five) (e : 4 ≤ w) : Tame (.str z) h w := by
  refine ⟨by simp only [PyData.showable], by simp only [PyData.hasDict], by simp only [PyData.depth]; exact Nat.zero_le _, ?_, ?_⟩
  · have q : five.all (fun z => (PyData.str z).leavesShort 13) = true := by decide +kernel
    exact List.all_eq_true.mp q z m
  · simp only [PyData.weight]
    exact Nat.le_trans (zok m).few e
theorem Tame.fits {d : PyData} {h w : Nat} (a : Tame d h w) (e : w ≤ 1048576) : d.shown.length ≤ sizeLine := PyData.shown_fits (B := 13) (by decide) (by decide) a.ls (Nat.le_trans a.wt e)
theorem rRepr_of {K : PySem.W.Frag} {H : Hp} {a : Addr} {d : PyData} {h w : Nat} {Q : VK} (r : Rp K H (.ref a) d) (t : Tame d h w) (e1 : h ≤ 20) (e2 : w ≤ 1048576) (k : Q (.str d.shown) H) : rRepr K [.ref a] H Q := ⟨a, d, rfl, r, t.sh, t.hd, Nat.le_trans t.dp e1, t.fits e2, k⟩

/-! ### reading what stands in the heap -/
def rowD (r : List Int) : PyData := .tuple (r.map PyData.int)
theorem pairAt {α β : Type} {F : α → β → Prop} : ∀ {xs : List α} {ys : List β}, xs.length = ys.length → (∀ (i : Nat) (x : α) (y : β), xs[i]? = some x → ys[i]? = some y → F x y) → Paired F xs ys
  | [], [], _, _ => .nil
  | x :: xs, y :: ys, e, f => .cons (f 0 x y rfl rfl) (pairAt (by simpa using e) fun i a b h1 h2 => f (i + 1) a b (by simpa using h1) (by simpa using h2))
theorem rpInts {K : PySem.W.Frag} {H : Hp} : ∀ ns : List Int, Paired (Rp K H) (ns.map V.int) (ns.map PyData.int)
  | [] => .nil
  | n :: r => .cons (.int n) (rpInts r)
theorem rpBools {K : PySem.W.Frag} {H : Hp} : ∀ ns : List Bool, Paired (Rp K H) (ns.map V.bl) (ns.map PyData.bool)
  | [] => .nil
  | n :: r => .cons (.bl n) (rpBools r)
theorem rpRows {K : PySem.W.Frag} {H : Hp} {xs : List V} {tb : List (List Int)} (h : Rows (fun r ys => H r = some (.tup ys)) xs tb) : Paired (Rp K H) xs (tb.map rowD) := by
  refine pairAt (by rw [List.length_map]; exact h.1) fun i x y h1 h2 => ?_
  rw [List.getElem?_map] at h2
  cases e : tb[i]? with
  | none => rw [e] at h2; cases h2
  | some r =>
    rw [e] at h2
    cases h2
    obtain ⟨a, e1, e2⟩ := h.2 i (List.getElem?_eq_some_iff.mp e).1
    rw [e1] at h1
    cases h1
    rw [List.getD_eq_getElem?_getD, e] at e2
    exact .tup (SqT.of e2) (rpInts r)
def dueD (z : Str) (tb : List (List Int)) (mk : List Bool) : PyData := .list [.str z, .tuple (tb.map rowD), .tuple (mk.map PyData.bool), .int (tb.length : Nat)]
theorem tame_due {z : Str} {tb : List (List Int)} {mk : List Bool} (m : z ∈ five) (Tb : Tab z tb) (ml : mk.length = tb.length) : Tame (dueD z tb mk) 3 1000 := by
  have few := Tb.few
  have zf := (zok m).few
  refine .list (.cons (w1 := 4) (w2 := 900) (.text m (Nat.le_refl _)) (.cons (w1 := 500) (w2 := 300) (.tup (h := 1) (.all (w := 50) (fun d hd => ?_) ?_)) (.cons (w1 := 100) (w2 := 50) (.tup (h := 1) (.all (w := 0) (fun d hd => ?_) ?_)) (.cons (w1 := 10) (w2 := 0) (.int (by omega) (by omega) (Nat.le_refl _)) .nil (by decide)) (by decide)) (by decide)) (by decide))
  · obtain ⟨r, hr, rfl⟩ := List.mem_map.mp hd
    obtain ⟨l, v⟩ := Tb.row r hr
    refine .tup (h := 0) (.all (w := 10) (fun d hd => ?_) (by rw [List.length_map]; omega))
    obtain ⟨i, hi, rfl⟩ := List.mem_map.mp hd
    have := v i hi
    exact .int (by omega) (by omega) (Nat.le_refl _)
  · rw [List.length_map]; omega
  · obtain ⟨i, hi, rfl⟩ := List.mem_map.mp hd
    exact .bool i
  · rw [List.length_map]; omega
theorem rp_due {K : PySem.W.Frag} {a s1 s2 : Addr} {H : Hp} {z : Str} {xs : List V} {tb : List (List Int)} {mk : List Bool} (h1 : H s1 = some (.tup xs)) (rows : Rows (fun r ys => H r = some (.tup ys)) xs tb) (h2 : H s2 = some (.tup (mk.map V.bl))) (h3 : H a = some (.lst [.str z, .ref s1, .ref s2, .int (tb.length : Nat)])) : Rp K H (.ref a) (dueD z tb mk) :=
  .lst (SqL.of h3) (.cons (.str z) (.cons (.tup (SqT.of h1) (rpRows rows)) (.cons (.tup (SqT.of h2) (rpBools mk)) (.cons (.int _) .nil))))
end Kx
set_option Elab.async false
set_option maxRecDepth 100000
set_option autoImplicit false
namespace Kx
open PySem L2 PySem.Spec PyProof.Rows Rg Er
/-! ### a word, then a sign that is none, then more -/
theorem lstrip_odd {z a s b : Str} {c : Nat} (ha : Word z a) (hs : s.cps.toList = [c]) (hc : c ∉ z.cps.toList) : Txt.lstripChars (a ++ s ++ b) z = s ++ b := by
  have el : (a ++ s ++ b).cps.toList = a.cps.toList ++ (c :: b.cps.toList) := by
    rw [Str.cps_append, Array.toList_append, Str.cps_append, Array.toList_append, hs, List.append_assoc]
    rfl
  have pc : z.cps.contains c = false := by
    rw [Bool.eq_false_iff]
    intro q
    exact hc (by simpa using q)
  have e : (a ++ s ++ b).cps.toList.takeWhile z.cps.contains = a.cps.toList := by
    rw [el, List.takeWhile_append_of_pos (fun d hd => by have := ha d hd; simpa using this), List.takeWhile_cons, pc]
    simp
  have lo : stripLo z.cps.contains true (a ++ s ++ b) = a.cps.size := by unfold stripLo; simp [e]
  have len : (a ++ s ++ b).length = a.cps.size + (s ++ b).length := by
    show (a ++ s ++ b).cps.size = a.cps.size + (s ++ b).cps.size
    rw [Str.cps_append, Str.cps_append, Str.cps_append, Array.size_append, Array.size_append, Array.size_append, Nat.add_assoc]
  show Txt.stripBy z.cps.contains true false (a ++ s ++ b) = s ++ b
  unfold Txt.stripBy stripSame stripped
  rw [lo]
  have hi : stripHi z.cps.contains false (a ++ s ++ b) a.cps.size = (a ++ s ++ b).length := rfl
  rw [hi]
  have cut : (⟨(a ++ s ++ b).cps.extract a.cps.size (a ++ s ++ b).length⟩ : Str) = s ++ b := by
    refine TL.ext_tl ?_
    show ((a ++ s ++ b).cps.extract a.cps.size (a ++ s ++ b).length).toList = (s ++ b).cps.toList
    rw [Array.toList_extract, el, Str.cps_append, Array.toList_append, hs]
    show ((a.cps.toList ++ (c :: b.cps.toList)).drop a.cps.size).take ((a ++ s ++ b).length - a.cps.size) = [c] ++ b.cps.toList
    have l2 : (s ++ b).length = (c :: b.cps.toList).length := by
      show (s ++ b).cps.size = _
      rw [Str.cps_append, Array.size_append, ← Array.length_toList (xs := s.cps), hs, ← Array.length_toList (xs := b.cps)]
      simp
      omega
    rw [show a.cps.size = a.cps.toList.length by simp, List.drop_left, len, l2, show a.cps.size = a.cps.toList.length by simp, Nat.add_sub_cancel_left, List.take_length]
    rfl
  have pos : 0 < (s ++ b).length := by
    show 0 < (s ++ b).cps.size
    rw [Str.cps_append, Array.size_append, ← Array.length_toList (xs := s.cps), hs]
    simp
    omega
  split
  · rename_i q
    have q0 : a.cps.toList = [] := by
      have z0 : a.cps.size = 0 := by simpa using (Bool.and_eq_true_iff.mp q).1
      exact List.eq_nil_of_length_eq_zero (by simpa using z0)
    refine TL.ext_tl ?_
    show (a ++ s ++ b).cps.toList = (s ++ b).cps.toList
    rw [el, q0, Str.cps_append, Array.toList_append, hs]
    rfl
  · exact cut
end Kx
set_option Elab.async false
set_option maxRecDepth 100000
set_option autoImplicit false
namespace Kx
open PySem L2 PySem.Spec PyProof.Rows Rg Er
abbrev sOdd : Stmt := top 50
abbrev sIn : Stmt := top 51
/-- all but the pen and the tables of code stays -/
def Ext2 (p : Addr) (H H' : Hp) : Prop := ∀ b o, b ≠ p → (∀ ps, o ≠ .tbl ps) → H b = some o → H' b = some o
theorem Ext2.of {p : Addr} {H H' : Hp} (e : Ext1 p H H') : Ext2 p H H' := fun b o n _ q => e b o n q
theorem Ext2.trans {p : Addr} {H H1 H2 : Hp} (a : Ext2 p H H1) (b : Ext2 p H1 H2) : Ext2 p H H2 := fun c o n t e => b c o n t (a c o n t e)
/-- x is no row of z, now and at each heap behind: i is told -/
def BadS (K : PySem.W.Frag) (p : Addr) (H : Hp) (z : Str) (x : V) (i : Int) : Prop := ∀ H', Ext2 p H H' → Bad K H' z x i
theorem BadS.mono {K : PySem.W.Frag} {p : Addr} {H H' : Hp} {z : Str} {x : V} {i : Int} (h : BadS K p H z x i) (e : Ext2 p H H') : BadS K p H' z x i := fun H2 e2 => h H2 (e.trans e2)
def signsNo (z : Str) : List Str := ["q", "X", " ", "1", "-", "\n", Txt.upper ⟨#[z.cps.toList.getD 0 0]⟩]
theorem signsNo_facts : five.all (fun z => (signsNo z).all fun s => decide (s.cps.toList = [s.cps.toList.getD 0 0]) && decide (s.cps.toList.getD 0 0 ∉ z.cps.toList)) = true := by decide +kernel
theorem signNo {z s : Str} (hz : z ∈ five) (h : s ∈ signsNo z) : ∃ c, s.cps.toList = [c] ∧ c ∉ z.cps.toList := by
  have q := List.all_eq_true.mp (List.all_eq_true.mp signsNo_facts z hz) s h
  rw [Bool.and_eq_true] at q
  exact ⟨_, of_decide_eq_true q.1, of_decide_eq_true q.2⟩
def spOdd (K : PySem.W.Frag) : Sp := fun vs H Q _ => ∃ (c p : Addr) (n : Nat) (z : Str), vs = [.ref p, .str z] ∧ n ≤ 800000 ∧ PenAt c n H p ∧ z ∈ five ∧ ∀ t x i H', H' t = some (.tup [x, .int i]) → BadS K p H' z x i → 0 ≤ i → i < 1000 → Ink c p (n + 50) H H' → Q (.ref t) H'
section
variable {P : Program} {w : World} {K : PySem.W.Frag} {mg : Str → Option Value} {base : Heap}
abbrev nOdd : List Str := ["_law_pen_here", "_law_letters_here", "_law_ahead", "_law_sign", "_law_behind"]
theorem scOdd : FnScope nOdd ["_law_pen_here", "_law_letters_here"] (defScope sOdd) := ⟨rfl, rfl, rfl, by decide +kernel, rfl, by decide +kernel, by decide +kernel⟩
theorem ok_odd {f f1 f2 f3 : Addr} {fd fd1 fd2 fd3 : FuncData} (F : L2.Fun K "_law_odd_word" "_law_odd_word" sOdd f fd) (T : Txt mg)
    (G1 : FnOk P w K mg base CX0 1 f1 fd1 ["_law_pen_here", "_law_many"] spDraw) (m1 : mg "_law_draw" = some (.ref f1)) (k1 : PySem.W.keepIn K (.ref f1) = true) (b1 : L2.Binds K fd1 ["_law_pen_here", "_law_many"] [])
    (G2 : FnOk P w K mg base CX0 2 f2 fd2 ["_law_pen_here", "_law_some"] spPick) (m2 : mg "_law_pick" = some (.ref f2)) (k2 : PySem.W.keepIn K (.ref f2) = true) (b2 : L2.Binds K fd2 ["_law_pen_here", "_law_some"] [])
    (G3 : FnOk P w K mg base CX0 3 f3 fd3 ["_law_pen_here", "_law_letters_here", "_law_bound"] spWord) (m3 : mg "_law_word" = some (.ref f3)) (k3 : PySem.W.keepIn K (.ref f3) = true) (b3 : L2.Binds K fd3 ["_law_pen_here", "_law_letters_here", "_law_bound"] []) :
    FnOk P w K mg base CX0 4 f fd ["_law_pen_here", "_law_letters_here"] (spOdd K) := by
  refine F.ok scOdd (fun vs H Q E h => ?_) (fun cdv A outer s H vs Q E hr h => ?_)
  · obtain ⟨c, p, n, z, rfl, _⟩ := h
    rfl
  · obtain ⟨c, p, n, z, rfl, nb, pen, z5, k⟩ := h
    have nd := scOdd.nd
    have Z := zok z5
    have zf := Z.few
    have hr1 := hr.mono (show 1 ≤ 3 by decide)
    have hr2 := hr.mono (show 2 ≤ 3 by decide)
    refine ⟨_, pss_cons (ps_if (pt_cmpR op_eq (pe_call G1 hr1 (by rfl) m1 k1 b1 .nil pass0 (pa_cons (pv 0) (pa_cons pe_int pa_nil))) pe_int (nomark _))
        (pss_one (ps_ret (pe_tup (pa_cons (pe_call G2 hr2 (by rfl) m2 k2 b2 .nil pass0 (pa_cons (pv 0) (pa_cons (pe_lst (pa_cons pe_non (pa_cons pe_int (pa_cons pe_int (pa_cons pe_bl (pa_cons (pe_lst pa_nil) (pa_cons (pe_lst (pa_cons (pe_ix ix_str (pv 1) pe_int (fun _ _ => rfl)) pa_nil))
          (pa_cons (pe_tup (pa_cons (pe_ix ix_str (pv 1) pe_int (fun _ _ => rfl)) pa_nil)) (pa_cons pe_dnewK (pa_cons (pe_tup pa_nil) (pa_cons (pe_op op_pow pe_int pe_int) pa_nil))))))))))) pa_nil))) (pa_cons pe_int pa_nil))))) pss_nil)
      (pss_cons (ps_set (i := 2) nd rfl (.inl rfl) (pe_call G3 hr (by rfl) m3 k3 b3 .nil pass0 (pa_cons (pv 0) (pa_cons (pv 1) (pa_cons pe_int pa_nil)))))
      (pss_cons (ps_set (i := 3) nd rfl (.inl rfl) (pe_call G2 hr2 (by rfl) m2 k2 b2 .nil pass0 (pa_cons (pv 0) (pa_cons (pe_lst (pa_cons pe_str (pa_cons pe_str (pa_cons pe_str (pa_cons pe_str (pa_cons pe_str (pa_cons pe_str (pa_cons (pe_upper (pe_ix ix_str (pv 1) pe_int (fun _ _ => rfl))) pa_nil)))))))) pa_nil))))
      (pss_cons (ps_set (i := 4) nd rfl (.inl rfl) (pe_call G2 hr2 (by rfl) m2 k2 b2 .nil pass0 (pa_cons (pv 0) (pa_cons (pe_lst (pa_cons pe_str (pa_cons (pe_ix ix_str (pv 1) pe_int (fun _ _ => rfl)) (pa_cons (pv 3) (pa_cons (pe_op op_add_str pe_str (pv 1)) pa_nil))))) pa_nil))))
      (pss_one (ps_ret (pe_tup (pa_cons (pe_op op_add_str (pe_op op_add_str (pv 2) (pv 3)) (pv 4)) (pa_cons (bLen (by rfl) T.len (pv 2)) pa_nil)))))))), ?_⟩
    have z0 : ∃ z0, atI z.cps.toList 0 = some z0 ∧ z0 = z.cps.toList.getD 0 0 := by
      have l0 : 0 < z.cps.toList.length := by rw [Array.length_toList]; exact Z.pos
      refine ⟨z.cps.toList[0], ?_, ?_⟩
      · exact atI_nat (j := 0) (List.getElem?_eq_getElem l0)
      · rw [List.getD_eq_getElem?_getD, List.getElem?_eq_getElem l0] <;> rfl
    obtain ⟨z0, hz0, ez0⟩ := z0
    have zl : z.length ≤ sizeLine := len_small (by omega)
    refine ⟨_, rfl, c, p, 3, n, rfl, by decide, by decide, by omega, pen, fun r H1 r0 r1 pen1 x1 => ⟨rfl, _, rfl, ite2 (fun _ => ?_) (fun _ => ?_)⟩⟩
    · refine ⟨_, rfl, Nat.zero_le _, fun l1 h1 => ⟨_, rfl, z, 0, z0, rfl, rfl, zl, hz0, by show 1 ≤ sizeLine; decide, fun l2 h2 => ⟨_, rfl, z, 0, z0, rfl, rfl, zl, hz0, by show 1 ≤ sizeLine; decide, fun t1 h3 d1 h4 => ⟨Nat.zero_le _, fun t2 h5 => ?_⟩⟩⟩⟩
      have a1 : Same H1 _ := Same.new (o := .lst []) h1
      have a2 : Same _ _ := Same.new (o := .lst [.str ⟨#[z0]⟩]) h2
      have a3 : Same _ _ := Same.new (o := .tup [.str ⟨#[z0]⟩]) h3
      have a4 : Same _ _ := Same.new (o := .dK []) h4
      have a5 : Same _ _ := Same.new (o := .tup []) h5
      have pen2 := pen1.ext a1
      have pen3 := pen2.ext a2
      have pen4 := pen3.ext a3
      have pen5 := pen4.ext a4
      have e1 := a5 _ _ (a4 _ _ (a3 _ _ (a2 _ _ (upd_same (H := H1) (a := l1) (o := .lst [])))))
      have e2 := a5 _ _ (a4 _ _ (a3 _ _ (upd_same (a := l2) (o := .lst [.str ⟨#[z0]⟩]))))
      have e3 := a5 _ _ (a4 _ _ (upd_same (a := t1) (o := .tup [.str ⟨#[z0]⟩])))
      have e4 := a5 _ _ (upd_same (a := d1) (o := .dK []))
      have p1 := pen1.ne1 h1
      have p2 := pen2.ne1 h2
      have p3 := pen3.ne1 h3
      have p4 := pen4.ne1 h4
      have p5 := pen5.ne1 h5
      have all5 : Same H1 _ := Same.trans a1 (Same.trans a2 (Same.trans a3 (Same.trans a4 a5)))
      have pen6 := pen1.ext all5
      have e5 : upd (upd (upd (upd (upd H1 l1 (.lst [])) l2 (.lst [.str ⟨#[z0]⟩])) t1 (.tup [.str ⟨#[z0]⟩])) d1 (.dK [])) t2 (.tup []) t2 = some (.tup []) := upd_same
      generalize upd (upd (upd (upd (upd H1 l1 (.lst [])) l2 (.lst [.str ⟨#[z0]⟩])) t1 (.tup [.str ⟨#[z0]⟩])) d1 (.dK [])) t2 (.tup []) = A5 at e1 e2 e3 e4 e5 all5 pen6 ⊢
      refine ⟨_, _, rfl, rfl, ⟨by decide, by decide, by decide⟩, by show 10 ≤ sizeLine; decide, fun L hL => ?_⟩
      refine ⟨c, p, n + 1, by omega, pen6.new hL, .inl ⟨L, _, rfl, pen6.ne1 hL, upd_same, by show 0 < 10; decide, by show 10 ≤ 1000; decide, fun v H7 hv pen7 x7 => ⟨by show 2 ≤ sizeLine; decide, fun t ht => ?_⟩⟩⟩
      have keep : ∀ {a : Addr} {o : HO}, A5 a = some o → a ≠ p → (∀ ps, o ≠ .tbl ps) → ∀ H', Ext2 p (upd H7 t (.tup [v, .int 0])) H' → H' a = some o := fun {a o} e ne nt H' x => by
        have q : H7 a = some o := x7 _ _ ne (by rw [upd_ne (ne_of_none e hL)]; exact e)
        exact x _ _ ne nt (by rw [upd_ne (ne_of_none q ht)]; exact q)
      refine k t v 0 _ upd_same ?_ (by decide) (by decide) ⟨Ext1.trans x1 (Ext1.trans (Same.ext1 p all5) (Ext1.trans (Ext1.new hL) (Ext1.trans x7 (Ext1.new ht)))), (pen7.mono (by omega)).new ht⟩
      intro H' x
      simp only [List.mem_cons, List.not_mem_nil, or_false] at hv
      rcases hv with rfl | rfl | rfl | rfl | rfl | rfl | rfl | rfl | rfl | rfl
      · exact .inr ⟨_, .base .non, kit_ty (by decide +kernel), rfl⟩
      · exact .inr ⟨_, .base (.int _), kit_ty (by decide +kernel), rfl⟩
      · exact .inr ⟨_, .base (.int _), kit_ty (by decide +kernel), rfl⟩
      · exact .inr ⟨_, .base (.bl _), kit_ty (by decide +kernel), rfl⟩
      · exact .inr ⟨_, .base (.lst (keep e1 p1 (fun _ z => nomatch z) H' x)), kit_ty (by decide +kernel), rfl⟩
      · exact .inr ⟨_, .base (.lst (keep e2 p2 (fun _ z => nomatch z) H' x)), kit_ty (by decide +kernel), rfl⟩
      · exact .inr ⟨_, .base (.tup (keep e3 p3 (fun _ z => nomatch z) H' x)), kit_ty (by decide +kernel), rfl⟩
      · exact .inr ⟨_, .base (.dK (keep e4 p4 (fun _ z => nomatch z) H' x)), kit_ty (by decide +kernel), rfl⟩
      · exact .inr ⟨_, .base (.tup (keep e5 p5 (fun _ z => nomatch z) H' x)), kit_ty (by decide +kernel), rfl⟩
      · exact .inr ⟨_, .base (.int _), kit_ty (by decide +kernel), rfl⟩
    · refine ⟨_, rfl, _, rfl, c, p, n + 1, z, 6, rfl, by omega, pen1, Z, by decide, by decide, fun wo H2 hw hl i2 => ?_⟩
      have i2' : Ink c p (n + 42) H H2 := ⟨Ext1.trans x1 i2.1, i2.2.mono (by omega)⟩
      refine ⟨_, rfl, _, rfl, z, 0, z0, rfl, rfl, zl, hz0, ⟨_, rfl⟩, ⟨#[z0]⟩, rfl, rfl, by show 1 ≤ 5592405; decide, by show 7 ≤ sizeLine; decide, fun L hL => ?_⟩
      have i3 := i2'.new (o := .lst [.str "q", .str "X", .str " ", .str "1", .str "-", .str "\n", .str (Txt.upper ⟨#[z0]⟩)]) hL
      refine ⟨c, p, n + 42, by omega, i3.2, .inl ⟨L, _, rfl, i2'.2.ne1 hL, upd_same, by show 0 < 7; decide, by show 7 ≤ 1000; decide, fun v H3 hv pen3 x3 => ?_⟩⟩
      obtain ⟨sg, rfl, hsg⟩ : ∃ sg : Str, v = .str sg ∧ sg ∈ signsNo z := by
        simp only [List.mem_cons, List.not_mem_nil, or_false] at hv
        unfold signsNo
        rw [← ez0]
        rcases hv with rfl | rfl | rfl | rfl | rfl | rfl | rfl <;> exact ⟨_, rfl, by simp⟩
      obtain ⟨cs, hs1, hs2⟩ := signNo z5 hsg
      have sl : sg.length = 1 := by
        show sg.cps.size = 1
        rw [← Array.length_toList, hs1]
        rfl
      have i4 : Ink c p (n + 43) H H3 := ⟨Ext1.trans i3.1 x3, pen3⟩
      refine ⟨_, rfl, _, rfl, z, 0, z0, rfl, rfl, zl, hz0, _, rfl, _, rfl, _, _, rfl, rfl, by show 1 + z.length ≤ sizeLine; rw [sizeLine_eq]; omega, by show 4 ≤ sizeLine; decide, fun L2 hL2 => ?_⟩
      have i5 := i4.new (o := .lst [.str "", .str ⟨#[z0]⟩, .str sg, .str ("q" ++ z)]) hL2
      refine ⟨c, p, n + 43, by omega, i5.2, .inl ⟨L2, _, rfl, i4.2.ne1 hL2, upd_same, by show 0 < 4; decide, by show 4 ≤ 1000; decide, fun v H5 hv pen5 x5 => ?_⟩⟩
      obtain ⟨bh, rfl, bl⟩ : ∃ bh : Str, v = .str bh ∧ bh.length ≤ 5 := by
        simp only [List.mem_cons, List.not_mem_nil, or_false] at hv
        rcases hv with rfl | rfl | rfl | rfl
        · exact ⟨_, rfl, by decide⟩
        · exact ⟨_, rfl, by show 1 ≤ 5; decide⟩
        · exact ⟨_, rfl, by omega⟩
        · refine ⟨_, rfl, ?_⟩
          show (("q" : Str) ++ z).cps.size ≤ 5
          rw [Str.cps_append, Array.size_append]
          show 1 + z.length ≤ 5
          omega
      have i6 : Ink c p (n + 44) H H5 := ⟨Ext1.trans i5.1 x5, pen5⟩
      have l1 : (wo ++ sg).length = wo.length + 1 := by
        show (wo ++ sg).cps.size = _
        rw [Str.cps_append, Array.size_append]
        show wo.length + sg.length = _
        rw [sl]
      have l2 : (wo ++ sg ++ bh).length = wo.length + 1 + bh.length := by
        show (wo ++ sg ++ bh).cps.size = _
        rw [Str.cps_append, Array.size_append]
        show (wo ++ sg).length + bh.length = _
        rw [l1]
      have l3 : (sg ++ bh).length = 1 + bh.length := by
        show (sg ++ bh).cps.size = _
        rw [Str.cps_append, Array.size_append]
        show sg.length + bh.length = _
        rw [sl]
      refine ⟨_, rfl, _, rfl, _, _, rfl, rfl, by rw [sizeLine_eq]; omega, _, rfl, _, _, rfl, rfl, by rw [sizeLine_eq]; omega, _, rfl, _, wo.length, rfl, ⟨len_small (by omega), rfl⟩, by show 2 ≤ sizeLine; decide, fun t ht => ?_⟩
      refine k t _ _ _ upd_same ?_ (by omega) (by omega) ((i6.mono (by omega)).new ht)
      intro H' x
      have ls := lstrip_odd (b := bh) hw hs1 hs2
      refine .inl ⟨_, rfl, by omega, ?_, by rw [ls]; omega, by rw [ls]; omega⟩
      rw [ls]
      intro q
      have q2 : (sg ++ bh).length = 0 := by rw [q]; rfl
      omega
end
end Kx
set_option Elab.async false
set_option maxRecDepth 100000
set_option autoImplicit false
namespace Kx
open PySem L2 PySem.Spec PyProof.Rows Rg Er
theorem eqSame (x : V) : decide (x = x) = true := decide_eq_true rfl
theorem neSame (x : V) : (!decide (x = x)) = false := by rw [decide_eq_true rfl]; rfl
theorem bRepr {X : Cx} {e : Expr} {te : TE} {p pos : Pos} (hg : X.A.guards = some []) (hr : Room 0 X.A) (gl : Gl X "repr") (m : X.mg "repr" = none) (he : PE X e te) (na : starEach [e] X.env = (false, eval e X.env) :: starEach [] X.env := by rfl) :
    PE X (.Call (.Name "repr" p) [e] [] pos) (tCB (rRepr X.K) (tCons te tNil)) := pe_callB (cr_repr hg hr) gl m (by decide +kernel) (pa_cons he pa_nil na) (he := na)
/-- a machine's class, for isinstance of a machine -/
structure MetaC (K : PySem.W.Frag) (C : Addr) : Prop where
  at_ : PySem.W.findIn K (.ref C) "__class__" = some (some (.builtin "object.__class__"))
  get : PySem.W.specialIn K (.builtin "object.__class__") "__get__" = some (some (.builtin "getset_descriptor.__get__"))
  tak : PySem.W.takesIn K (.builtin "object.__class__") = some true
  obj : PySem.W.mroIn K C (.type "object") = some true
  nos : PySem.W.kitOne K (.ref C) (.type "str") = some false
theorem upper_facts : five.all (fun z => decide (Txt.lstripChars (Txt.upper z) z ≠ Str.empty) && decide ((Txt.lstripChars (Txt.upper z) z).length ≤ 1000) && decide ((Txt.upper z).length ≤ 1000)) = true := by decide +kernel
theorem upperBad {K : PySem.W.Frag} {H : Hp} {z : Str} (h : z ∈ five) : ∃ i, Bad K H z (.str (Txt.upper z)) i := by
  have q := List.all_eq_true.mp upper_facts z h
  simp only [Bool.and_eq_true, decide_eq_true_eq] at q
  exact ⟨_, .inl ⟨_, rfl, q.2, q.1.1, q.1.2, rfl⟩⟩
def spIn (K : PySem.W.Frag) (C : Addr) : Sp := fun vs H Q _ => ∃ (p q : Addr) (z : Str) (tb : List (List Int)) (mk : List Bool) (x : V) (i : Int), vs = [.ref q, .str z, x] ∧ Mach C H q z tb mk ∧ z ∈ five ∧ BadS K p H z x i ∧ ∀ H', Same H H' → Q (.bl true) H'
theorem tame6 : Tame (.list [.bool false, .bool false, .bool false, .bool false, .bool false, .bool false]) 1 100 := .list (.all (w := 0) (fun d hd => by
  simp only [List.mem_cons, List.not_mem_nil, or_false, or_self] at hd
  rw [hd]
  exact .bool false) (by show 6 * 1 ≤ 100; decide))
section
variable {P : Program} {w : World} {K : PySem.W.Frag} {mg : Str → Option Value} {base : Heap}
abbrev nIn : List Str := ["_law_made", "_law_letters_here", "_law_odd", "_law_heard_here"]
theorem scIn : FnScope nIn ["_law_made", "_law_letters_here", "_law_odd"] (defScope sIn) := ⟨rfl, rfl, rfl, by decide +kernel, rfl, by decide +kernel, by decide +kernel⟩
theorem ok_in {C f fh : Addr} {fd fdh : FuncData} (F : L2.Fun K "_law_in_right" "_law_in_right" sIn f fd) (T : Txt mg) (M : MT K mg C) (Y : MetaC K C) (GH : FnOk P w K mg base CX0 6 fh fdh ["self", "x"] (spHasB K C)) (aH : PySem.W.findIn K (.ref C) "__contains__" = some (some (.ref fh))) (iH : PySem.W.isFn K (.ref fh) = true) (bH : L2.Binds K fdh ["self", "x"] []) :
    FnG P w K mg base CX0 7 f fd ["_law_made", "_law_letters_here", "_law_odd"] (spIn K C) := by
  refine funG F scIn (fun vs H Q E h => ?_) (fun cdv A outer s H vs Q E hg hr h => ?_)
  · obtain ⟨p, q, z, tb, mk, x, i, rfl, _⟩ := h
    rfl
  · obtain ⟨p, q, z, tb, mk, x, i, rfl, m, z5, bad, k⟩ := h
    have nd := scIn.nd
    have hg' : (A.deeper (envOfC "_law_in_right" (defScope sIn) s.heap.objs.size f cdv)).guards = some [] := hg
    have hr0 := hr.mono (show 0 ≤ 6 by decide)
    refine ⟨_, pss_cons (ps_set (i := 3) nd rfl (.inl rfl) (pe_lst (pa_cons (pe_cmpR (op_has GH hr bH pass0 aH iH) (pv 2) (pv 0) (by rfl)) (pa_cons (pe_cmpR (op_has GH hr bH pass0 aH iH) (pv 0) (pv 0) (by rfl)) (pa_cons (pe_cmpR (op_has GH hr bH pass0 aH iH) pe_non (pv 0) (by rfl))
        (pa_cons (pe_cmpR (op_has GH hr bH pass0 aH iH) (pe_lst (pa_cons pe_str pa_nil)) (pv 0) (by rfl)) (pa_cons (pe_cmpR (op_has GH hr bH pass0 aH iH) (pe_upper (pv 1)) (pv 0) (by rfl)) (pa_cons (pe_cmpR (op_has GH hr bH pass0 aH iH) pe_int (pv 0) (by rfl)) pa_nil))))))))
      (pss_one (ps_ret (pe_cmpR op_eq (bRepr hg' hr0 (by rfl) T.repr (pv 3)) (bRepr hg' hr0 (by rfl) T.repr (pe_op op_rep (pe_lst (pa_cons pe_bl pa_nil)) pe_int)) (nomark _)))), ?_⟩
    obtain ⟨dx, st, tt, hq, _⟩ := id m
    have bx := bad H fun b o _ _ e => e
    refine ⟨_, rfl, _, rfl, q, dx, _, rfl, hq, q, z, tb, mk, x, i, rfl, m, bx, false, rfl, ?_⟩
    refine ⟨_, rfl, _, rfl, q, dx, _, rfl, hq, q, z, tb, mk, .ref q, 0, rfl, m, .inr ⟨_, .base (.ins hq M.cl Y.at_ Y.get Y.tak Y.obj), Y.nos, rfl⟩, false, rfl, ?_⟩
    refine ⟨_, rfl, q, dx, _, rfl, hq, q, z, tb, mk, .non, 0, rfl, m, .inr ⟨_, .base .non, kit_ty (by decide +kernel), rfl⟩, false, rfl, ?_⟩
    refine ⟨by show 1 ≤ sizeLine; decide, fun l hl => ?_⟩
    have s1 : Same H (upd H l (.lst [.str ""])) := Same.new hl
    have m1 := m.same s1
    have hq1 := s1 _ _ hq
    refine ⟨_, rfl, q, dx, _, rfl, hq1, q, z, tb, mk, .ref l, 0, rfl, m1, .inr ⟨_, .base (.lst upd_same), kit_ty (by decide +kernel), rfl⟩, false, rfl, ?_⟩
    obtain ⟨iu, bu⟩ := upperBad (K := K) (H := upd H l (.lst [.str ""])) z5
    have zf := (zok z5).few
    refine ⟨_, rfl, ⟨_, rfl⟩, z, rfl, rfl, by omega, _, rfl, q, dx, _, rfl, hq1, q, z, tb, mk, _, iu, rfl, m1, bu, false, rfl, ?_⟩
    refine ⟨_, rfl, q, dx, _, rfl, hq1, q, z, tb, mk, .int 0, 0, rfl, m1, .inr ⟨_, .base (.int 0), kit_ty (by decide +kernel), rfl⟩, false, rfl, ?_⟩
    refine ⟨by show 6 ≤ sizeLine; decide, fun l2 hl2 => ?_⟩
    refine ⟨_, rfl, ?_⟩
    dsimp only [tNil]
    refine rRepr_of (d := .list [.bool false, .bool false, .bool false, .bool false, .bool false, .bool false]) (.lst (SqL.of upd_same) (rpBools [false, false, false, false, false, false])) tame6 (by decide) (by decide) ?_
    refine ⟨by show 1 ≤ sizeLine; decide, fun l3 hl3 => ⟨l3, 6, [.bl false], rfl, rfl, upd_same, by decide, by decide, by show 1 * 6 ≤ sizeLine; decide, fun l4 hl4 => ?_⟩⟩
    dsimp only [tNil]
    refine rRepr_of (d := .list [.bool false, .bool false, .bool false, .bool false, .bool false, .bool false]) (.lst (SqL.of upd_same) (rpBools [false, false, false, false, false, false])) tame6 (by decide) (by decide) ?_
    refine ⟨rfl, ?_⟩
    rw [eqSame]
    exact k _ (Same.trans s1 (Same.trans (Same.new hl2) (Same.trans (Same.new hl3) (Same.new hl4))))
end
end Kx
set_option Elab.async false
set_option maxRecDepth 100000
set_option autoImplicit false
namespace Kx
open PySem L2 PySem.Spec PyProof.Rows Rg Er LamX
/-- as Rg.funG, where the def's code object is known -/
theorem fnG_of {P : Program} {w : World} {K : PySem.W.Frag} {mg : Str → Option Value} {base : Heap} {x qual : Str} {st : Stmt} {f cd : Addr} {oc kV doc pm ct : Value} {od an : Option Addr} {osl : Array (Option Value)} {N ps : List Str} {k : Nat} {sp : Sp}
    (lk : K.lookup f = some ⟨oc, od, .func (PySem.W.fnOf x qual (defArgs st) (defBody st) (defScope st) .none kV doc pm an (.ref cd) ct), osl⟩) (hcd : PySem.W.codeIn K (.ref cd) qual = true) (S : FnScope N ps (defScope st)) (len : ∀ vs H Q E, sp vs H Q E → vs.length = ps.length)
    (body : ∀ (A : Around) (outer : List Env) (s : Shared) (H : Hp) (vs : List V) (Q : VK) (E : XK), A.guards = some [] → Room k (A.deeper (envOfC qual (defScope st) s.heap.objs.size f (.ref cd))) → sp vs H Q E →
      ∃ t, PSs (cxOf CX0 P w K mg base N qual (defScope st) f (.ref cd) A outer s H E).nox (defBody st) t ∧ t { nx := fun _ H' => Q .non H', rt := Q } (L2.start N vs) H) :
    FnG P w K mg base CX0 (k + 1) f (PySem.W.fnOf x qual (defArgs st) (defBody st) (defScope st) .none kV doc pm an (.ref cd) ct) ps sp := by
  refine ⟨len, fun A outer s H args us vs Q E hg hr e0 hb r want => ?_⟩
  have there : ∀ b o, base.get? b = some o → s.heap.get? b = some o := fun b o e => (e0.bs b o e).1
  have KX := e0.mod.kin.keeps there
  have kinds : ∀ y ∈ ps.zip us, (defScope st).names.lookup y.1 = some .local ∨ ((defScope st).names.lookup y.1 = some .cell ∧ ((cellsFrom (s.heap.objs.size + 1) (defScope st).names []).lookup y.1).isSome = true) := by
    rintro ⟨n, v⟩ hy
    rcases S.par n (List.of_mem_zip hy).1 with q | q
    · exact Or.inl q
    · exact Or.inr ⟨q, PySem.W.cellsFrom_some _ _ _ (Or.inl q)⟩
  refine codeAny_call_function hr.depth (KX _ _ lk) rfl S.co S.gen rfl (PySem.W.codeRec_of KX hcd) (hb _ _ _ _ (wpAny_newFunctionEnv_cells S.kind kinds ?_))
  intro env he s1 x
  subst he
  obtain ⟨t, ht, q⟩ := body A outer s H vs Q E hg (hr.deeper _) want
  have I : Inv (cxOf CX0 P w K mg base N qual (defScope st) f (.ref cd) A outer s H E) [] (L2.start N vs) H s1 := inv_start S hr.hd e0 (len _ _ _ _ want) r x
  refine ⟨(e0.mod.nolimit.keeps there).keeps x.toInCall.keep, codeAny_func (wpAny_mono (ht.nox.run [] s1 (L2.start N vs) H _ I q) ?_ fun _ _ z => z)⟩
  intro fl s2 out
  cases fl with
  | ret u => obtain ⟨v, _, H2, J, rv, q2⟩ := out; exact ⟨v, H2, J.os, J.bare, J.base, J.hok, rv, q2⟩
  | next => obtain ⟨_, H2, J, q2⟩ := out; exact ⟨V.non, H2, J.os, J.bare, J.base, J.hok, rfl, q2⟩
  | brk => obtain ⟨_, _, _, q2⟩ := out; exact q2.elim
  | cont => obtain ⟨_, _, _, q2⟩ := out; exact q2.elim
/-! ### what the lambdas' tables let be -/
theorem Ext2.ofN {p : Addr} {H H' : Hp} (e : ExtN H H') : Ext2 p H H' := fun b o _ t q => e b o q t
theorem PenAt.extN {c p : Addr} {n : Nat} {H H' : Hp} (h : PenAt c n H p) (e : ExtN H H') : PenAt c n H' p := by
  obtain ⟨ns, a, g, h1, h2, h3⟩ := h
  exact ⟨ns, a, g, e _ _ h1 (fun _ z => nomatch z), e _ _ h2 (fun _ z => nomatch z), h3⟩
theorem LTab.ext2 {p a : Addr} {H H' : Hp} {tb : List (List Int)} (h : LTab p H a tb) (e : Ext2 p H H') : LTab p H' a tb := by
  obtain ⟨n, xs, h1, h2⟩ := h
  exact ⟨n, xs, e _ _ n (fun _ z => nomatch z) h1, h2.mono fun r ys q => ⟨q.1, e _ _ q.1 (fun _ z => nomatch z) q.2⟩⟩
theorem Mach.ext2 {C c p q : Addr} {m : Nat} {H H' : Hp} {z : Str} {tb : List (List Int)} {mk : List Bool} (h : Mach C H q z tb mk) (pen : PenAt c m H p) (e : Ext2 p H H') : Mach C H' q z tb mk := by
  have ne : ∀ {b : Addr} {o : HO}, H b = some o → (∀ xs, o ≠ .lst xs) → b ≠ p := fun {b o} e1 k => by
    rintro rfl
    obtain ⟨ns, a, g, h1, _⟩ := pen
    rw [h1] at e1
    exact k _ (Option.some.inj e1).symm
  obtain ⟨dx, st, tt, h1, ⟨xs, h2, h3⟩, h4⟩ := h
  exact ⟨dx, st, tt, e _ _ (ne h1 (fun _ z => nomatch z)) (fun _ z => nomatch z) h1, ⟨xs, e _ _ (ne h2 (fun _ z => nomatch z)) (fun _ z => nomatch z) h2, h3.mono fun a ys q => e _ _ (ne q (fun _ z => nomatch z)) (fun _ z => nomatch z) q⟩, e _ _ (ne h4 (fun _ z => nomatch z)) (fun _ z => nomatch z) h4⟩
/-- the tables stay where all but the pen does -/
theorem tabs_ink {T : List (Addr × Str)} {c p : Addr} {n m : Nat} {H H' : Hp} (h : Tabs T H) (pen : PenAt c n H p) (i : Ink c p m H H') : Tabs T H' := fun t ht => by
  obtain ⟨ps, h1, h2, h3⟩ := h t ht
  obtain ⟨ns, a, g, q1, _⟩ := pen
  have ne : ∀ {b : Addr} {o : HO}, H b = some o → (∀ xs, o ≠ .lst xs) → b ≠ p := fun {b o} e1 k => by
    rintro rfl
    rw [q1] at e1
    exact k _ (Option.some.inj e1).symm
  refine ⟨ps, i.1 _ _ (ne h1 (fun _ z => nomatch z)) h1, h2, fun pos cv e => ?_⟩
  obtain ⟨d, e1, e2⟩ := h3 pos cv e
  exact ⟨d, e1, i.1 _ _ (ne e2 (fun _ z => by unfold CodeO at z; cases z)) e2⟩
end Kx
set_option Elab.async false
set_option maxRecDepth 100000
set_option autoImplicit false
namespace Kx
open PySem L2 PySem.Spec PyProof.Rows Rg Er LamX
abbrev lamQ : Str := ("law" : Str) ++ ".<locals>." ++ "<lambda>"
abbrev nLaw : List Str := ["_law_script", "_law_pen_here", "_law_turn", "_law_letters_here", "_law_table", "_law_marks", "_law_made", "_law_odd", "_law_at", "_law_spot", "_law_none", "_law_due", "_law_heard_here", "_law_line"]
theorem scLaw : FnScope nLaw ["_law_script"] (defScope sLaw) := ⟨rfl, rfl, rfl, by decide +kernel, rfl, by decide +kernel, by decide +kernel⟩
def spLaw (K : PySem.W.Frag) (T : List (Addr × Str)) : Sp := fun vs H Q _ => ∃ (a : Addr) (ns : List Int), vs = [.ref a] ∧ SqL K H a (ns.map V.int) ∧ ns.length ≤ 63 ∧ Tabs T H ∧ ∀ H', Q (.bl true) H'
/-- the machine's class as k19 calls it -/
structure Mr (P : Program) (w : World) (K : PySem.W.Frag) (mg : Str → Option Value) (base : Heap) (C G3 G4 : Addr) : Prop where
  M : MT K mg C
  init : ∃ f fd, Mk K C f ∧ FnOk P w K mg base CX0 5 f fd ["self", "signs", "steps", "told"] (spInit C) ∧ L2.Binds K fd ["self", "signs", "steps", "told"] []
  steps : ∃ p g fd, PropOf K C "steps" p g ∧ FnOk P w K mg base CX0 1 g fd ["self"] (getSp C "_steps") ∧ L2.Binds K fd ["self"] []
  told : ∃ p g fd, PropOf K C "told" p g ∧ FnOk P w K mg base CX0 1 g fd ["self"] (getSp C "_told") ∧ L2.Binds K fd ["self"] []
  state : ∃ f fd, Meth K C "state" f ∧ FnOk P w K mg base (L2.CX P w) 4 f fd ["self", "row"] (spStateB K C G3) ∧ L2.Binds K fd ["self", "row"] []
  step : ∃ f fd, Meth K C "step" f ∧ FnOk P w K mg base (L2.CX P w) 4 f fd ["self", "state", "text"] (spStepB K C G3) ∧ FnOk P w K mg base (L2.CX P w) 4 f fd ["self", "state", "text"] (spStepN K C G4) ∧ L2.Binds K fd ["self", "state", "text"] []
  item : ∃ f fd, PySem.W.findIn K (.ref C) "__getitem__" = some (some (.ref f)) ∧ PySem.W.fnIn K f = true ∧ PySem.W.isFn K (.ref f) = true ∧ FnOk P w K mg base (L2.CX P w) 5 f fd ["self", "at"] (spStateB K C G3) ∧ L2.Binds K fd ["self", "at"] []
section
variable {P : Program} {w : World} {K : PySem.W.Frag} {mg : Str → Option Value} {base : Heap}
/-- _law_heard(lambda: body), in the law -/
theorem pe_hear {A : Around} {outer : List Env} {s : Shared} {H : Hp} {E0' : XK} {f cd tab G0 G1 G2 G3 G4 g : Addr} {cdg oc dV kV doc pm ct : Value} {an od : Option Addr} {osl : Array (Option Value)} {params : Arguments} {body : Expr} {scope : Scope} {t : XK → TE} {p lpos pos : Pos}
    (hr : Room 8 (A.deeper (envOfC "law" (defScope sLaw) s.heap.objs.size f (.ref cd)))) (Hc : Kr.HearC K mg G0 G1 G2 G3 G4) (hm : mg "_law_heard" = some (.ref g)) (hk : PySem.W.keepIn K (.ref g) = true)
    (lk : K.lookup g = some ⟨oc, od, .func (PySem.W.fnOf "_law_heard" "_law_heard" (defArgs Kr.sHeard) (defBody Kr.sHeard) (defScope Kr.sHeard) dV kV doc pm an cdg ct), osl⟩) (hcg : PySem.W.codeIn K cdg "_law_heard" = true) (hb : L2.Binds K (PySem.W.fnOf "_law_heard" "_law_heard" (defArgs Kr.sHeard) (defBody Kr.sHeard) (defScope Kr.sHeard) dV kV doc pm an cdg ct) ["_law_ask"] [])
    (TB : TabB base mg cd tab) (L : LamS (defScope sLaw) scope) (hdef : defaultsOf params (envOfC "law" (defScope sLaw) s.heap.objs.size f (.ref cd)) = ([], [])) (hbind : ∀ (q : Str) (cl : List (Str × Addr)) (pm cv ctv : Value), bindArgs (PySem.W.kla_fn "<lambda>" q params body scope cl pm cv ctv) ⟨[], []⟩ = pure [])
    (hbody : ∀ (A' : Around) (outer' : List Env) (s' : Shared) (H' : Hp) (E : XK) (f' c' : Addr), Room 6 (A'.deeper (lamEnv (cxOf CX0 P w K mg base nLaw "law" (defScope sLaw) f (.ref cd) A outer s H E0').nox scope s'.heap.objs.size f' c')) → PE (lamCx (cxOf CX0 P w K mg base nLaw "law" (defScope sLaw) f (.ref cd) A outer s H E0').nox A' outer' s' H' E scope f' c') body (t E)) :
    PE (cxOf CX0 P w K mg base nLaw "law" (defScope sLaw) f (.ref cd) A outer s H E0').nox (.Call (.Name "_law_heard" p) [.Lambda params body scope lpos] [] pos) (tLam [(tab, lamQ)] (Kr.TTheard G3 G4) t) :=
  pe_lamcall (X := (cxOf CX0 P w K mg base nLaw "law" (defScope sLaw) f (.ref cd) A outer s H E0').nox) (a := "_law_ask") (k := 6) (by rfl) hm hk lk hcg hb Kr.scHeard rfl (Or.inl rfl) (Kr.heard_gives Hc) TB rfl (List.mem_singleton.mpr rfl) (fun q hq _ => by rw [List.mem_singleton.mp hq]; rfl) hr L hdef hbind hbody
end
end Kx
set_option Elab.async false
set_option maxRecDepth 100000
set_option autoImplicit false
namespace Kx
open PySem L2 PySem.Spec PyProof.Rows Rg Er LamX
theorem tabs_put {T : List (Addr × Str)} {G : Hp} {a : Addr} {xs : List V} {o : HO} (h : Tabs T G) (e : G a = some (.lst xs)) : Tabs T (upd G a o) := fun t ht => by
  obtain ⟨ps, h1, h2, h3⟩ := h t ht
  have ne : ∀ {b : Addr} {u : HO}, G b = some u → (∀ xs, u ≠ .lst xs) → b ≠ a := fun {b u} e1 k => by
    rintro rfl
    rw [e] at e1
    exact k _ (Option.some.inj e1).symm
  refine ⟨ps, by rw [upd_ne (ne h1 (fun _ z => nomatch z))]; exact h1, h2, fun pos cv q => ?_⟩
  obtain ⟨d, e1, e2⟩ := h3 pos cv q
  exact ⟨d, e1, by rw [upd_ne (ne e2 (fun _ z => by unfold CodeO at z; cases z))]; exact e2⟩
theorem ExtN.put {G0 G : Hp} {a : Addr} {o : HO} (e : ExtN G0 G) (n : G0 a = none) : ExtN G0 (upd G a o) := fun b u q t => by rw [upd_ne (ne_of_none q n)]; exact e b u q t
/-- what the law holds when it asks -/
structure Held (K : PySem.W.Frag) (C c p q ta tm u1 v1 du : Addr) (n : Nat) (z : Str) (tb : List (List Int)) (mk : List Bool) (ov nv : V) (oi : Int) (G : Hp) : Prop where
  pen : PenAt c n G p
  lt : LTab p G ta tb
  bp : tm ≠ p
  hb : G tm = some (.lst (mk.map V.bl))
  m : Mach C G q z tb mk
  bad : BadS K p G z ov oi
  no : ∀ G', Ext2 p G G' → NoState K G' nv tb.length
  e1 : G u1 = some (.tup [.str "row", .int oi])
  e2 : G v1 = some (.tup [.str "machine", .str "state"])
  e3 : G du = some (.lst [.ref u1, .ref u1, .ref u1, .ref v1, .ref v1])
theorem Held.ext {K : PySem.W.Frag} {C c p q ta tm u1 v1 du : Addr} {n : Nat} {z : Str} {tb : List (List Int)} {mk : List Bool} {ov nv : V} {oi : Int} {G G' : Hp} (h : Held K C c p q ta tm u1 v1 du n z tb mk ov nv oi G) (e : ExtN G G') : Held K C c p q ta tm u1 v1 du n z tb mk ov nv oi G' :=
  ⟨h.pen.extN e, h.lt.ext2 (Ext2.ofN e), h.bp, e _ _ h.hb (fun _ z => nomatch z), h.m.ext2 h.pen (Ext2.ofN e), h.bad.mono (Ext2.ofN e), fun G2 e2 => h.no G2 (Ext2.trans (Ext2.ofN e) e2), e _ _ h.e1 (fun _ z => nomatch z), e _ _ h.e2 (fun _ z => nomatch z), e _ _ h.e3 (fun _ z => nomatch z)⟩
theorem heard_row {T : List (Addr × Str)} {G3 G4 : Addr} {t : XK → TE} {σ : L2.St} {G : Hp} {Q : VK} {v : V} (tabs : Tabs T G) (rd : ∀ G1, ExtN G G1 → ∀ (Qn : VK) (E : XK), raised G3 "at" v E G1 → t E σ G1 Qn)
    (k : ∀ G' w, ExtN G G' → Tabs T G' → G' w = some (.tup [.str "row", v]) → Q (.ref w) G') : tLam T (Kr.TTheard G3 G4) t σ G Q :=
  ⟨tabs, fun G1 eN T1 Qn => rd G1 eN Qn _ fun d hd => ⟨G3, d, "row", v, rfl, rfl, .inl ⟨rfl, upd_same, rfl⟩, fun G' w same hw => k G' w (ExtN.trans eN (ExtN.of fun b o e => same b o (by rw [upd_ne (ne_of_none e hd)]; exact e))) (T1.ext fun b o e => same b o (by rw [upd_ne (ne_of_none e hd)]; exact e)) hw⟩⟩
theorem heard_machine {T : List (Addr × Str)} {G3 G4 : Addr} {t : XK → TE} {σ : L2.St} {G : Hp} {Q : VK} {v : V} (tabs : Tabs T G) (rd : ∀ G1, ExtN G G1 → ∀ (Qn : VK) (E : XK), raised G4 "part" v E G1 → t E σ G1 Qn)
    (k : ∀ G' w, ExtN G G' → Tabs T G' → G' w = some (.tup [.str "machine", v]) → Q (.ref w) G') : tLam T (Kr.TTheard G3 G4) t σ G Q :=
  ⟨tabs, fun G1 eN T1 Qn => rd G1 eN Qn _ fun d hd => ⟨G4, d, "machine", v, rfl, rfl, .inr ⟨rfl, upd_same, rfl⟩, fun G' w same hw => k G' w (ExtN.trans eN (ExtN.of fun b o e => same b o (by rw [upd_ne (ne_of_none e hd)]; exact e))) (T1.ext fun b o e => same b o (by rw [upd_ne (ne_of_none e hd)]; exact e)) hw⟩⟩
theorem Tame.lit {s : Str} {h w : Nat} (e : (PyData.str s).leavesShort 13 = true) (l : s.length ≤ w) : Tame (.str s) h w := ⟨by simp only [PyData.showable], by simp only [PyData.hasDict], by simp only [PyData.depth]; exact Nat.zero_le _, e, by simp only [PyData.weight]; exact l⟩
def rowD' (oi : Int) : PyData := .tuple [.str "row", .int oi]
def machD : PyData := .tuple [.str "machine", .str "state"]
def dueD' (oi : Int) : PyData := .list [rowD' oi, rowD' oi, rowD' oi, machD, machD]
theorem tame_due' {oi : Int} (a : 0 ≤ oi) (b : oi < 1000) : Tame (dueD' oi) 3 1000 := by
  have r : Tame (rowD' oi) 2 50 := .tup (.cons (w1 := 10) (w2 := 20) (.lit (by decide +kernel) (by decide)) (.cons (w1 := 10) (w2 := 0) (.int a b (by decide)) .nil (by decide)) (by decide))
  have m : Tame machD 2 50 := .tup (.cons (w1 := 10) (w2 := 20) (.lit (by decide +kernel) (by decide)) (.cons (w1 := 10) (w2 := 0) (.lit (by decide +kernel) (by decide)) .nil (by decide)) (by decide))
  exact .list (.all (w := 50) (fun d hd => by
    simp only [List.mem_cons, List.not_mem_nil, or_false] at hd
    rcases hd with rfl | rfl | rfl | rfl | rfl <;> assumption) (by show 5 * 51 ≤ 1000; decide))
theorem rp_due' {K : PySem.W.Frag} {G : Hp} {l a1 a2 a3 a4 a5 : Addr} {oi : Int} (h : G l = some (.lst [.ref a1, .ref a2, .ref a3, .ref a4, .ref a5])) (h1 : G a1 = some (.tup [.str "row", .int oi])) (h2 : G a2 = some (.tup [.str "row", .int oi])) (h3 : G a3 = some (.tup [.str "row", .int oi]))
    (h4 : G a4 = some (.tup [.str "machine", .str "state"])) (h5 : G a5 = some (.tup [.str "machine", .str "state"])) : Rp K G (.ref l) (dueD' oi) := by
  have r : ∀ {a : Addr}, G a = some (.tup [.str "row", .int oi]) → Rp K G (.ref a) (rowD' oi) := fun {a} e => .tup (SqT.of e) (.cons (.str _) (.cons (.int _) .nil))
  have m : ∀ {a : Addr}, G a = some (.tup [.str "machine", .str "state"]) → Rp K G (.ref a) machD := fun {a} e => .tup (SqT.of e) (.cons (.str _) (.cons (.str _) .nil))
  exact .lst (SqL.of h) (.cons (r h1) (.cons (r h2) (.cons (r h3) (.cons (m h4) (.cons (m h5) .nil)))))
def twoD (tb : List (List Int)) (mk : List Bool) : PyData := .list [.tuple (tb.map rowD), .tuple (mk.map PyData.bool)]
theorem tame_two {z : Str} {tb : List (List Int)} {mk : List Bool} (Z : Zok z) (Tb : Tab z tb) (ml : mk.length = tb.length) : Tame (twoD tb mk) 3 1000 := by
  have few := Tb.few
  have zf := Z.few
  refine .list (.cons (w1 := 500) (w2 := 300) (.tup (h := 1) (.all (w := 50) (fun d hd => ?_) ?_)) (.cons (w1 := 100) (w2 := 0) (.tup (h := 1) (.all (w := 0) (fun d hd => ?_) ?_)) .nil (by decide)) (by decide))
  · obtain ⟨r, hr, rfl⟩ := List.mem_map.mp hd
    obtain ⟨l, v⟩ := Tb.row r hr
    refine .tup (h := 0) (.all (w := 10) (fun d hd => ?_) (by rw [List.length_map]; omega))
    obtain ⟨i, hi, rfl⟩ := List.mem_map.mp hd
    have := v i hi
    exact .int (by omega) (by omega) (Nat.le_refl _)
  · rw [List.length_map]; omega
  · obtain ⟨i, hi, rfl⟩ := List.mem_map.mp hd
    exact .bool i
  · rw [List.length_map]; omega
/-- the list of what was heard, as it grows -/
structure Hrd (T : List (Addr × Str)) (Ha : Hp) (hl : Addr) (ws : List (Addr × List V)) (G : Hp) : Prop where
  base : ExtN Ha G
  tabs : Tabs T G
  at_ : G hl = some (.lst (ws.map fun w => V.ref w.1))
  all : ∀ w ∈ ws, G w.1 = some (.tup w.2)
theorem Hrd.more {T : List (Addr × Str)} {Ha G G' : Hp} {hl w : Addr} {ws : List (Addr × List V)} {vs : List V} (h : Hrd T Ha hl ws G) (new : Ha hl = none) (e : ExtN G G') (t : Tabs T G') (hw : G' w = some (.tup vs)) : Hrd T Ha hl (ws ++ [(w, vs)]) (upd G' hl (.lst ((ws.map fun w => V.ref w.1) ++ [.ref w]))) := by
  have at' : G' hl = some (.lst (ws.map fun w => V.ref w.1)) := e _ _ h.at_ (fun _ z => nomatch z)
  have off : ∀ {b : Addr} {xs : List V}, G' b = some (.tup xs) → b ≠ hl := fun {b xs} q => by
    rintro rfl
    rw [at'] at q; cases q
  refine ⟨ExtN.put (ExtN.trans h.base e) new, tabs_put t at', by rw [upd_same, List.map_append] <;> rfl, fun x hx => ?_⟩
  rcases List.mem_append.mp hx with hx | hx
  · have q := e _ _ (h.all x hx) (fun _ z => nomatch z)
    rw [upd_ne (off q)]; exact q
  · rw [List.mem_singleton.mp hx, upd_ne (off hw)]; exact hw
end Kx
set_option Elab.async false
set_option maxRecDepth 100000
set_option autoImplicit false
set_option pp.maxSteps 200
set_option pp.deepTerms false
namespace Kx
open PySem L2 PySem.Spec PyProof.Rows Rg Er LamX
theorem no1' {z : Str} {st tt : Addr} : (mf z st tt).lookup ("state" : Str) = none := mf_no _ _ _ (by decide +kernel) (by decide +kernel) (by decide +kernel)
theorem no2' {z : Str} {st tt : Addr} : (mf z st tt).lookup ("step" : Str) = none := mf_no _ _ _ (by decide +kernel) (by decide +kernel) (by decide +kernel)
theorem rTup_new {K : PySem.W.Frag} {H : Hp} {a : Addr} {ys : List V} {Q : VK} (e : H a = some (.lst ys)) (k : ∀ l, H l = none → Q (.ref l) (upd H l (.tup ys))) : rTup K [.ref a] H Q := ⟨a, ys, rfl, .inl ⟨SqL.of e, k⟩⟩
section
variable {P : Program} {w : World} {K : PySem.W.Frag} {mg : Str → Option Value} {base : Heap}
set_option maxHeartbeats 0 in
theorem ok_law {C f cd tab G0 G1 G2 G3 G4 g f1 f2 f3 f4 f5 f6 f7 : Addr} {cdg oc dV kV doc pm ct oc' kV' doc' pm' ct' : Value} {an od an' od' : Option Addr} {osl osl' : Array (Option Value)} {d1 d2 d3 d4 d5 d6 d7 : FuncData} (T : Txt mg) (S : Mr P w K mg base C G3 G4) (Hc : Kr.HearC K mg G0 G1 G2 G3 G4)
    (lkL : K.lookup f = some ⟨oc', od', .func (PySem.W.fnOf "law" "law" (defArgs sLaw) (defBody sLaw) (defScope sLaw) .none kV' doc' pm' an' (.ref cd) ct'), osl'⟩) (hcL : PySem.W.codeIn K (.ref cd) "law" = true) (TB : TabB base mg cd tab)
    (hm : mg "_law_heard" = some (.ref g)) (hk : PySem.W.keepIn K (.ref g) = true) (lk : K.lookup g = some ⟨oc, od, .func (PySem.W.fnOf "_law_heard" "_law_heard" (defArgs Kr.sHeard) (defBody Kr.sHeard) (defScope Kr.sHeard) dV kV doc pm an cdg ct), osl⟩) (hcg : PySem.W.codeIn K cdg "_law_heard" = true)
    (hb : L2.Binds K (PySem.W.fnOf "_law_heard" "_law_heard" (defArgs Kr.sHeard) (defBody Kr.sHeard) (defScope Kr.sHeard) dV kV doc pm an cdg ct) ["_law_ask"] [])
    (GA : FnOk P w K mg base CX0 1 f1 d1 ["_law_script"] (spPen K)) (m1 : mg "_law_pen" = some (.ref f1)) (k1 : PySem.W.keepIn K (.ref f1) = true) (b1 : L2.Binds K d1 ["_law_script"] [])
    (GL : FnOk P w K mg base CX0 3 f2 d2 ["_law_pen_here"] spLetters) (m2 : mg "_law_letters" = some (.ref f2)) (k2 : PySem.W.keepIn K (.ref f2) = true) (b2 : L2.Binds K d2 ["_law_pen_here"] [])
    (GB : FnOk P w K mg base CX0 2 f3 d3 ["_law_pen_here", "_law_letters_here", "_law_bound"] spPlan) (m3 : mg "_law_plan" = some (.ref f3)) (k3 : PySem.W.keepIn K (.ref f3) = true) (b3 : L2.Binds K d3 ["_law_pen_here", "_law_letters_here", "_law_bound"] [])
    (GO : FnOk P w K mg base CX0 4 f4 d4 ["_law_pen_here", "_law_letters_here"] (spOdd K)) (m4 : mg "_law_odd_word" = some (.ref f4)) (k4 : PySem.W.keepIn K (.ref f4) = true) (b4 : L2.Binds K d4 ["_law_pen_here", "_law_letters_here"] [])
    (GD : FnOk P w K mg base CX0 1 f5 d5 ["_law_pen_here", "_law_many"] spDraw) (m5 : mg "_law_draw" = some (.ref f5)) (k5 : PySem.W.keepIn K (.ref f5) = true) (b5 : L2.Binds K d5 ["_law_pen_here", "_law_many"] [])
    (GP : FnOk P w K mg base CX0 2 f6 d6 ["_law_pen_here", "_law_some"] spPick) (m6 : mg "_law_pick" = some (.ref f6)) (k6 : PySem.W.keepIn K (.ref f6) = true) (b6 : L2.Binds K d6 ["_law_pen_here", "_law_some"] [])
    (GI : FnG P w K mg base CX0 7 f7 d7 ["_law_made", "_law_letters_here", "_law_odd"] (spIn K C)) (m7 : mg "_law_in_right" = some (.ref f7)) (k7 : PySem.W.keepIn K (.ref f7) = true) (b7 : L2.Binds K d7 ["_law_made", "_law_letters_here", "_law_odd"] []) :
    FnG P w K mg base CX0 9 f (PySem.W.fnOf "law" "law" (defArgs sLaw) (defBody sLaw) (defScope sLaw) .none kV' doc' pm' an' (.ref cd) ct') ["_law_script"] (spLaw K [(tab, lamQ)]) := by
  refine fnG_of lkL hcL scLaw (fun vs H Q E h => ?_) (fun A outer s H vs Q E hg hr h => ?_)
  · obtain ⟨a, ns, rfl, _⟩ := h
    rfl
  · obtain ⟨a, ns, rfl, hs, hl, tabs, k⟩ := h
    obtain ⟨M, ⟨fi, fdi, i1, i2, i3⟩, ⟨p2, g2, e2, h21, h22, h23⟩, ⟨p3, g3, e3, h31, h32, h33⟩, ⟨s1, s2, s3, s4, s5⟩, ⟨t1, t2, t3, t4, t5, t6⟩, ⟨j1, j2, j3, j4, j5, j6, j7⟩⟩ := S
    have nd := scLaw.nd
    have hg' : (A.deeper (envOfC "law" (defScope sLaw) s.heap.objs.size f (.ref cd))).guards = some [] := hg
    have hr0 := hr.mono (show 0 ≤ 8 by decide)
    have hr1 := hr.mono (show 1 ≤ 8 by decide)
    have hr2 := hr.mono (show 2 ≤ 8 by decide)
    have hr2' := hr.mono (show 1 + 1 ≤ 8 by decide)
    have hr3 := hr.mono (show 3 ≤ 8 by decide)
    have hr4 := hr.mono (show 4 ≤ 8 by decide)
    have hr6 := hr.mono (show 5 + 1 ≤ 8 by decide)
    have hr7 := hr.mono (show 7 ≤ 8 by decide)
    refine ⟨_, pss_cons (ps_set (i := 1) nd rfl (.inl rfl) (pe_call GA hr1 (by rfl) m1 k1 b1 .nil pass0 (pa_cons (pv 0) pa_nil)))
      (pss_cons (ps_for PassesOwn.never rfl (pi_range1 (by rfl) T.range (pa_cons pe_int pa_nil)) (pg_name (i := 2) nd rfl (Or.inl rfl))
        (pss_cons (ps_set (i := 3) nd rfl (.inr rfl) (pe_call GL hr3 (by rfl) m2 k2 b2 .nil pass0 (pa_cons (pv 1) pa_nil)))
        (pss_cons (ps_asg (pe_call GB hr2 (by rfl) m3 k3 b3 .nil pass0 (pa_cons (pv 1) (pa_cons (pv 3) (pa_cons pe_int pa_nil)))) (pg_tup rfl (pgs_cons (pg_name (i := 4) nd rfl (Or.inl rfl)) (pgs_cons (pg_name (i := 5) nd rfl (Or.inl rfl)) pgs_nil))))
        (pss_cons (ps_set (i := 6) nd rfl (.inr rfl) (pe_make i1 i2 hr6 (by rfl) M.mgC i3 .nil pass0 (pa_cons (pv 3) (pa_cons (pv 4) (pa_cons (pv 5) pa_nil)))))
        (pss_cons (ps_asg (pe_call GO hr4 (by rfl) m4 k4 b4 .nil pass0 (pa_cons (pv 1) (pa_cons (pv 3) pa_nil))) (pg_tup rfl (pgs_cons (pg_name (i := 7) nd rfl (Or.inr rfl)) (pgs_cons (pg_name (i := 8) nd rfl (Or.inl rfl)) pgs_nil))))
        (pss_cons (ps_set (i := 9) nd rfl (.inr rfl) (pe_call GD hr1 (by rfl) m5 k5 b5 .nil pass0 (pa_cons (pv 1) (pa_cons (bLen (by rfl) T.len (pv 4)) pa_nil))))
        (pss_cons (ps_set (i := 10) nd rfl (.inr rfl) (pe_call GP hr2 (by rfl) m6 k6 b6 .nil pass0 (pa_cons (pv 1) (pa_cons (pe_lst (pa_cons (pe_un un_neg pe_int) (pa_cons (bLen (by rfl) T.len (pv 4)) (pa_cons pe_bl (pa_cons pe_bl (pa_cons pe_non (pa_cons pe_str (pa_cons (pe_tup (pa_cons pe_int pa_nil)) (pa_cons (pe_op op_pow pe_int pe_int) pa_nil))))))))) pa_nil))))
        (pss_cons (ps_set (i := 11) nd rfl (.inl rfl) (pe_op op_cat (pe_op op_rep (pe_lst (pa_cons (pe_tup (pa_cons pe_str (pa_cons (pv 8) pa_nil))) pa_nil)) pe_int) (pe_op op_rep (pe_lst (pa_cons (pe_tup (pa_cons pe_str (pa_cons pe_str pa_nil))) pa_nil)) pe_int)))
        (pss_cons (ps_set (i := 12) nd rfl (.inl rfl) (pe_lst (pa_cons (pe_hear (t := fun E => tOp (rItem C (spStateB K C G3) E) (tVar 6) (tVar 7)) hr Hc hm hk lk hcg hb TB (lamS_by (by decide +kernel)) rfl (fun _ _ _ _ _ => rfl)
            (fun A' outer' s' H' E f' c' hr' => pe_item j6 hr' j7 (passes_call (takes_of (E := E) rfl rfl rfl rfl) fun _ _ _ _ h => h) j3 j4 j5 (pv 6) (pv 7))) pa_nil)))
        (pss_cons (ps_expr (pe_bm PySem.F.plainAttrs_list PySem.F.slot_list_append PySem.F.type_list_append mt_append (pv 12) (pa_cons (pe_hear (t := fun E => tMeth C "state" (spStateB K C G3) [] E (tVar 6) (tCons (tVar 7) tNil)) hr Hc hm hk lk hcg hb TB (lamS_by (by decide +kernel)) rfl (fun _ _ _ _ _ => rfl)
            (fun A' outer' s' H' E f' c' hr' => pe_meth (pv 6) M.cl s3 s4 (hr'.mono (by decide)) s5 .nil (passes_call (takes_of (E := E) rfl rfl rfl rfl) fun _ _ _ _ h => h) (pa_cons (pv 7) pa_nil))) pa_nil)))
        (pss_cons (ps_expr (pe_bm PySem.F.plainAttrs_list PySem.F.slot_list_append PySem.F.type_list_append mt_append (pv 12) (pa_cons (pe_hear (t := fun E => tMeth C "step" (spStepB K C G3) [] E (tVar 6) (tCons (tVar 9) (tCons (tVar 7) tNil))) hr Hc hm hk lk hcg hb TB (lamS_by (by decide +kernel)) rfl (fun _ _ _ _ _ => rfl)
            (fun A' outer' s' H' E f' c' hr' => pe_meth (pv 6) M.cl t3 t4 (hr'.mono (by decide)) t6 .nil (passes_call (takes_of (E := E) rfl rfl rfl rfl) fun _ _ _ _ h => h) (pa_cons (pv 9) (pa_cons (pv 7) pa_nil)))) pa_nil)))
        (pss_cons (ps_expr (pe_bm PySem.F.plainAttrs_list PySem.F.slot_list_append PySem.F.type_list_append mt_append (pv 12) (pa_cons (pe_hear (t := fun E => tMeth C "step" (spStepN K C G4) [] E (tVar 6) (tCons (tVar 10) (tCons (tVar 7) tNil))) hr Hc hm hk lk hcg hb TB (lamS_by (by decide +kernel)) rfl (fun _ _ _ _ _ => rfl)
            (fun A' outer' s' H' E f' c' hr' => pe_meth (pv 6) M.cl t3 t5 (hr'.mono (by decide)) t6 .nil (passes_call (takes_of (E := E) rfl rfl rfl rfl) fun _ _ _ _ h => h) (pa_cons (pv 10) (pa_cons (pv 7) pa_nil)))) pa_nil)))
        (pss_cons (ps_expr (pe_bm PySem.F.plainAttrs_list PySem.F.slot_list_append PySem.F.type_list_append mt_append (pv 12) (pa_cons (pe_hear (t := fun E => tMeth C "step" (spStepN K C G4) [] E (tVar 6) (tCons (tVar 10) (tCons (tVar 3) tNil))) hr Hc hm hk lk hcg hb TB (lamS_by (by decide +kernel)) rfl (fun _ _ _ _ _ => rfl)
            (fun A' outer' s' H' E f' c' hr' => pe_meth (pv 6) M.cl t3 t5 (hr'.mono (by decide)) t6 .nil (passes_call (takes_of (E := E) rfl rfl rfl rfl) fun _ _ _ _ h => h) (pa_cons (pv 10) (pa_cons (pv 3) pa_nil)))) pa_nil)))
        (pss_cons (ps_if (PW.pt (pw_or (pt_cmpR op_ne (bRepr hg' hr0 (by rfl) T.repr (pv 12)) (bRepr hg' hr0 (by rfl) T.repr (pv 11)) (nomark _)) (pw_or1 (pt_not (pt_val (pe_callG hg' GI hr7 (by rfl) m7 k7 b7 pass0 (pa_cons (pv 6) (pa_cons (pv 3) (pa_cons (pv 7) pa_nil)))))))) ) (pss_one ps_never) pss_nil)
        (pss_one (ps_if (pt_cmpR op_ne (bRepr hg' hr0 (by rfl) T.repr (pe_lst (pa_cons (pe_prop (pv 6) M.cl h21 h22 hr2' h23 .nil pass0 rfl) (pa_cons (pe_prop (pv 6) M.cl h31 h32 hr2' h33 .nil pass0 rfl) pa_nil))))
          (bRepr hg' hr0 (by rfl) T.repr (pe_lst (pa_cons (bTup (by rfl) T.tuple (pe_lc (own := [("_law_line", 13)]) (g := gName 13) (tt := tYes) (te := tCB (rTup K) (tCons (tVar 13) tNil)) rfl nd (pi_list (pv 4)) (blkOk_by (N := nLaw) (sc := defScope sLaw) (by decide +kernel))
            (fun _ _ _ _ _ => pg_name (i := 13) nd rfl (Or.inl rfl)) (fun _ _ _ _ _ => pts_nil) (fun _ _ _ _ _ => bTup (by rfl) T.tuple (pv 13)))) (pa_cons (bTup (by rfl) T.tuple (pv 5)) pa_nil)))) (nomark _)) (pss_one ps_never) pss_nil))))))))))))))))
      (pss_one (ps_ret pe_bl))), ?_⟩
    refine ⟨_, rfl, a, ns, rfl, hs, hl, fun c p H1 s1' pen => ?_⟩
    refine ⟨6, rfl, by decide, by decide, for_it walk_range (fun i σ' H' => ∃ y2 y3 y4 y5 y6 y7 y8 y9 y10 y11 y12, σ' = [some (.ref a), some (.ref p), y2, y3, y4, y5, y6, y7, y8, y9, y10, y11, y12, none] ∧ PenAt c (100 * i) H' p ∧ Tabs [(tab, lamQ)] H')
      ⟨none, none, none, none, none, none, none, none, none, none, none, rfl, pen, tabs.ext s1'⟩ (fun _ _ _ _ _ => trivial) ?_ ?_⟩
    · rintro i x σ' H' H2 hi ⟨y2, y3, y4, y5, y6, y7, y8, y9, y10, y11, y12, rfl, pen2, tabs2⟩ yy
      obtain ⟨e6, ex⟩ := yy
      subst e6
      subst ex
      have hi6 : i < 6 := hi
      have nm : 100 * i ≤ 600 := by omega
      rw [show 100 * (i + 1) = 100 * i + 100 by omega]
      generalize 100 * i = n at nm pen2 ⊢
      refine ⟨_, rfl, c, p, n, rfl, by omega, pen2, fun z H3 hz i3 => ?_⟩
      have tabs3 := tabs_ink tabs2 pen2 i3
      have Z := zok hz
      have zf := Z.few
      refine ⟨_, rfl, _, rfl, c, p, n + 1, z, 5, rfl, by decide, by decide, by omega, i3.2, Z, fun t ta tm tb mk H4 ht lt Tb bp hbm ml i4 => ?_⟩
      have tabs4 := tabs_ink tabs3 i3.2 i4
      have few := Tb.few
      have tp := Tb.pos
      refine ⟨t, _, rfl, SqT.of ht, rfl, _, _, rfl, _, _, rfl, rfl, ?_⟩
      obtain ⟨ap, xs, ha, rows⟩ := id lt
      refine ⟨_, rfl, _, rfl, _, rfl, fun q dx nq ndx _ => ?_⟩
      have s0 : Same H4 (upd (upd H4 dx (.own q)) q (.ins C dx [])) := fun b o e => by
        rw [upd_ne (ne_of_none e nq), upd_ne (ne_of_none e ndx)]
        exact e
      refine ⟨q, dx, ta, tm, z, xs, tb, mk, rfl, upd_same, Z, .inl (s0 _ _ ha), rows.mono fun r ys h => .inl (s0 _ _ h.2), Tb, .inl (s0 _ _ hbm), ml, fun H5 e5 m5 => ⟨rfl, ?_⟩⟩
      have s45 : Same H4 H5 := Same.made nq ndx fun b o e' nb => e5 b o nb e'
      have pen5 := i4.2.ext s45
      have tabs5 := tabs4.ext s45
      have lt5 := lt.ext (Same.ext1 p s45)
      have hb5 := s45 _ _ hbm
      refine ⟨_, rfl, _, rfl, c, p, n + 42, z, rfl, by omega, pen5, hz, fun t2 ov oi H6 ht2 bad oi0 oi1 i6 => ?_⟩
      have tabs6 := tabs_ink tabs5 pen5 i6
      have lt6 := lt5.ext i6.1
      have m6' := m5.ink pen5 i6
      refine ⟨t2, _, rfl, SqT.of ht2, rfl, _, _, rfl, _, _, rfl, rfl, ?_⟩
      obtain ⟨_, xs6, ha6, rows6⟩ := id lt6
      have lx6 := rows6.1
      refine ⟨_, rfl, _, rfl, _, _, rfl, Sq.len (.inl ha6), c, p, _, n + 92, rfl, by omega, by omega, by omega, i6.2, fun sp H7 sp0 sp1 pen7 x7 => ?_⟩
      have i7 : Ink c p (n + 93) H6 H7 := ⟨x7, pen7⟩
      have tabs7 := tabs_ink tabs6 i6.2 i7
      have sp2 : sp < tb.length := by omega
      obtain ⟨_, xs7, ha7, rows7⟩ := lt6.ext x7
      have lx7 := rows7.1
      refine ⟨_, rfl, ⟨1, rfl, _, rfl, _, _, rfl, Sq.len (.inl ha7), ?_⟩⟩
      refine ⟨by show 1 ≤ sizeLine; decide, fun t3 ht3 => ⟨_, _, rfl, rfl, ⟨by decide, by decide, by decide⟩, by show 8 ≤ sizeLine; decide, fun L hL => ?_⟩⟩
      have pen7' := pen7.new (o := .tup [.int 0]) ht3
      refine ⟨c, p, n + 93, by omega, pen7'.new hL, .inl ⟨L, _, rfl, pen7'.ne1 hL, upd_same, by show 0 < 8; decide, by show 8 ≤ 1000; decide, fun nv H8 hnv pen8 x8 => ?_⟩⟩
      have s78 : Same H7 (upd (upd H7 t3 (.tup [.int 0])) L (.lst [.int (-1), .int (xs7.length : Nat), .bl true, .bl false, .non, .str "0", .ref t3, .int (10 ^ 30)])) := Same.trans (Same.new ht3) (Same.new hL)
      have i8 : Ink c p (n + 94) H7 H8 := ⟨Ext1.trans (Same.ext1 p s78) x8, pen8⟩
      have tabs8 := tabs_ink tabs7 pen7 i8
      have e3' : H8 t3 = some (.tup [.int 0]) := x8 _ _ (pen7.ne1 ht3) (by rw [upd_ne (ne_of_none upd_same hL)]; exact upd_same)
      have no8 : ∀ G', Ext2 p H8 G' → NoState K G' nv tb.length := by
        intro G' x
        simp only [List.mem_cons, List.not_mem_nil, or_false] at hnv
        rcases hnv with rfl | rfl | rfl | rfl | rfl | rfl | rfl | rfl
        · exact .inl ⟨-1, rfl, .inl (by decide)⟩
        · exact .inl ⟨_, rfl, .inr (by omega)⟩
        · exact .inr ⟨_, true, .base (.bl _), kit_ty (by decide +kernel), fun _ => kit_ty (by decide +kernel)⟩
        · exact .inr ⟨_, true, .base (.bl _), kit_ty (by decide +kernel), fun _ => kit_ty (by decide +kernel)⟩
        · exact .inr ⟨_, false, .base .non, kit_ty (by decide +kernel), fun z => nomatch z⟩
        · exact .inr ⟨_, false, .base (.str _), kit_ty (by decide +kernel), fun z => nomatch z⟩
        · exact .inr ⟨_, false, .base (.tup (x _ _ (pen7.ne1 ht3) (fun _ z => nomatch z) e3')), kit_ty (by decide +kernel), fun z => nomatch z⟩
        · exact .inl ⟨10 ^ 30, rfl, .inr (by omega)⟩
      refine ⟨_, rfl, by show 2 ≤ sizeLine; decide, fun u1 hu1 => ⟨by show 1 ≤ sizeLine; decide, fun u2 hu2 => ⟨u2, 3, [.ref u1], rfl, rfl, upd_same, by decide, by decide, by show 1 * 3 ≤ sizeLine; decide, fun u3 hu3 => ?_⟩⟩⟩
      refine ⟨by show 2 ≤ sizeLine; decide, fun v1 hv1 => ⟨by show 1 ≤ sizeLine; decide, fun v2 hv2 => ⟨v2, 2, [.ref v1], rfl, rfl, upd_same, by decide, by decide, by show 1 * 2 ≤ sizeLine; decide, fun v3 hv3 => ?_⟩⟩⟩
      have o1 := Same.new (o := .tup [.str "row", .int oi]) hu1
      have o2 := Same.new (o := .lst [.ref u1]) hu2
      have o3 := Same.new (o := .lst (List.replicate (3 : Int).toNat [V.ref u1]).flatten) hu3
      have o4 := Same.new (o := .tup [.str "machine", .str "state"]) hv1
      have o5 := Same.new (o := .lst [.ref v1]) hv2
      have o6 := Same.new (o := .lst (List.replicate (2 : Int).toNat [V.ref v1]).flatten) hv3
      have q1 := o6 _ _ (o5 _ _ (o4 _ _ (o3 _ _ (o2 _ _ (upd_same (H := H8) (a := u1) (o := .tup [.str "row", .int oi]))))))
      have q3 := o6 _ _ (o5 _ _ (o4 _ _ (upd_same (a := u3) (o := .lst (List.replicate (3 : Int).toNat [V.ref u1]).flatten))))
      have q4 := o6 _ _ (o5 _ _ (upd_same (a := v1) (o := .tup [.str "machine", .str "state"])))
      have sAll := Same.trans o1 (Same.trans o2 (Same.trans o3 (Same.trans o4 (Same.trans o5 o6))))
      refine ⟨u3, v3, _, _, rfl, rfl, q3, upd_same, by show 3 + 2 ≤ sizeLine; decide, fun du hdu => ?_⟩
      have sDu := Same.new (o := .lst [.ref u1, .ref u1, .ref u1, .ref v1, .ref v1]) hdu
      have s89 := Same.trans sAll sDu
      have q1' := sDu _ _ q1
      have q4' := sDu _ _ q4
      have held9 : Held K C c p q ta tm u1 v1 du (n + 94) z tb mk ov nv oi _ := ⟨pen8.ext s89, ((lt6.ext x7).ext i8.1).ext (Same.ext1 p s89), bp, s89 _ _ (i8.1 _ _ bp (x7 _ _ bp (i6.1 _ _ bp hb5))), ((m6'.ink i6.2 i7).ink pen7 i8).same s89,
        bad.mono (Ext2.of (Ext1.trans x7 (Ext1.trans i8.1 (Same.ext1 p s89)))), fun G' x => no8 G' (Ext2.trans (Ext2.of (Same.ext1 p s89)) x), q1', q4', upd_same⟩
      have tabs9 := tabs8.ext s89
      have ink9 : Ink c p (n + 94) H2 _ := ⟨Ext1.trans i3.1 (Ext1.trans i4.1 (Ext1.trans (Same.ext1 p s45) (Ext1.trans i6.1 (Ext1.trans x7 (Ext1.trans i8.1 (Same.ext1 p s89)))))), held9.pen⟩
      refine heard_row (v := .int oi) tabs9 (fun G1 eN Qn E r => ?_) (fun Ha wa eNa Ta hwa => ⟨by show 1 ≤ sizeLine; decide, fun hl' hhl => ?_⟩)
      · have hd := held9.ext eN
        obtain ⟨dx', st', tt', hq', _⟩ := id hd.m
        exact ⟨_, rfl, _, rfl, q, dx', _, rfl, hq', q, z, tb, mk, ov, oi, rfl, hd.m, hd.bad _ (fun _ _ _ _ e => e), r⟩
      have heldA := held9.ext eNa
      have rd1 : Hrd [(tab, lamQ)] Ha hl' [(wa, [.str "row", .int oi])] (upd Ha hl' (.lst [.ref wa])) := ⟨ExtN.put (ExtN.refl Ha) hhl, Ta.ext (Same.new hhl), upd_same, fun x hx => by
        rw [List.mem_singleton.mp hx, upd_ne (ne_of_none hwa hhl)]; exact hwa⟩
      refine ⟨_, rfl, .inl ⟨rfl, _, SqL.of rd1.at_⟩, heard_row (v := .int oi) rd1.tabs (fun G1 eN Qn E r => ?_) (fun Hb wb eNb Tb' hwb => ⟨hl', _, _, rfl, rfl, eNb _ _ rd1.at_ (fun _ z => nomatch z), by show 1 < sizeLine; decide, ?_⟩)⟩
      · have hd := heldA.ext (ExtN.trans rd1.base eN)
        obtain ⟨dx', st', tt', hq', _⟩ := id hd.m
        exact ⟨_, rfl, q, dx', _, rfl, hq', no1', _, rfl, q, z, tb, mk, ov, oi, rfl, hd.m, hd.bad _ (fun _ _ _ _ e => e), r⟩
      have rd2 := rd1.more hhl eNb Tb' hwb
      refine ⟨_, rfl, .inl ⟨rfl, _, SqL.of rd2.at_⟩, heard_row (v := .int oi) rd2.tabs (fun G1 eN Qn E r => ?_) (fun Hc' wc eNc Tc hwc => ⟨hl', _, _, rfl, rfl, eNc _ _ rd2.at_ (fun _ z => nomatch z), by show 2 < sizeLine; decide, ?_⟩)⟩
      · have hd := heldA.ext (ExtN.trans rd2.base eN)
        obtain ⟨dx', st', tt', hq', _⟩ := id hd.m
        exact ⟨_, rfl, q, dx', _, rfl, hq', no2', _, rfl, _, rfl, q, z, tb, mk, sp, ov, oi, rfl, hd.m, sp0, sp2, hd.bad _ (fun _ _ _ _ e => e), r⟩
      have rd3 := rd2.more hhl eNc Tc hwc
      refine ⟨_, rfl, .inl ⟨rfl, _, SqL.of rd3.at_⟩, heard_machine (v := .str "state") rd3.tabs (fun G1 eN Qn E r => ?_) (fun Hd wd eNd Td hwd => ⟨hl', _, _, rfl, rfl, eNd _ _ rd3.at_ (fun _ z => nomatch z), by show 3 < sizeLine; decide, ?_⟩)⟩
      · have hd := heldA.ext (ExtN.trans rd3.base eN)
        obtain ⟨dx', st', tt', hq', _⟩ := id hd.m
        exact ⟨_, rfl, q, dx', _, rfl, hq', no2', _, rfl, _, rfl, q, z, tb, mk, nv, ov, rfl, hd.m, hd.no _ (fun _ _ _ _ e => e), r⟩
      have rd4 := rd3.more hhl eNd Td hwd
      refine ⟨_, rfl, .inl ⟨rfl, _, SqL.of rd4.at_⟩, heard_machine (v := .str "state") rd4.tabs (fun G1 eN Qn E r => ?_) (fun He we eNe Te hwe => ⟨hl', _, _, rfl, rfl, eNe _ _ rd4.at_ (fun _ z => nomatch z), by show 4 < sizeLine; decide, ?_⟩)⟩
      · have hd := heldA.ext (ExtN.trans rd4.base eN)
        obtain ⟨dx', st', tt', hq', _⟩ := id hd.m
        exact ⟨_, rfl, q, dx', _, rfl, hq', no2', _, rfl, _, rfl, q, z, tb, mk, nv, .str z, rfl, hd.m, hd.no _ (fun _ _ _ _ e => e), r⟩
      have rd5 := rd4.more hhl eNe Te hwe
      have heldE := heldA.ext rd5.base
      have tabsE := rd5.tabs
      have rpH := fun (G' : Hp) (sm : Same _ G') => rp_due' (K := K) (sm _ _ rd5.at_) (sm _ _ (rd5.all (wa, _) (by simp))) (sm _ _ (rd5.all (wb, _) (by simp))) (sm _ _ (rd5.all (wc, _) (by simp))) (sm _ _ (rd5.all (wd, _) (by simp))) (sm _ _ (rd5.all (we, _) (by simp)))
      clear rd1 rd2 rd3 rd4 rd5 heldA held9 tabs9 ink9
      generalize upd He hl' _ = HE at heldE tabsE rpH ⊢
      have rpD := rp_due' (K := K) heldE.e3 heldE.e1 heldE.e1 heldE.e1 heldE.e2 heldE.e2
      refine ⟨_, rfl, ?_⟩
      dsimp only [tNil]
      refine rRepr_of (rpH _ (Same.refl HE)) (tame_due' oi0 oi1) (by decide) (by decide) ?_
      refine ⟨_, rfl, ?_⟩
      dsimp only [tNil]
      refine rRepr_of rpD (tame_due' oi0 oi1) (by decide) (by decide) ?_
      refine ⟨rfl, ?_⟩
      rw [neSame]
      refine ⟨_, rfl, iteF ?_⟩
      refine ⟨_, rfl, _, rfl, _, rfl, p, q, z, tb, mk, ov, oi, rfl, heldE.m, hz, heldE.bad, fun HF sF => ⟨_, rfl, iteF ?_⟩⟩
      have heldF := heldE.ext (ExtN.of sF)
      have tabsF := tabsE.ext sF
      obtain ⟨dx2, st2, tt2, hq2, ⟨ys2, hst2, hrows2⟩, htt2⟩ := id heldF.m
      refine ⟨_, rfl, q, dx2, _, rfl, hq2, q, dx2, _, _, rfl, hq2, mf_steps _ _ _, ?_⟩
      refine ⟨_, rfl, q, dx2, _, rfl, hq2, q, dx2, _, _, rfl, hq2, mf_told _ _ _, by show 2 ≤ sizeLine; decide, fun w1 hw1 => ?_⟩
      dsimp only [tNil]
      have sw := Same.new (o := .lst [.ref st2, .ref tt2]) hw1
      refine rRepr_of (d := twoD tb mk) (.lst (SqL.of upd_same) (.cons (.tup (SqT.of (sw _ _ hst2)) (rpRows (hrows2.mono fun l ys h => sw _ _ h))) (.cons (.tup (SqT.of (sw _ _ htt2)) (rpBools mk)) .nil))) (tame_two Z Tb ml) (by decide) (by decide) ?_
      have heldG := heldF.ext (ExtN.of sw)
      have tabsG := tabsF.ext sw
      obtain ⟨_, xsG, haG, rowsG⟩ := heldG.lt
      generalize upd HF w1 _ = HG at heldG tabsG haG rowsG ⊢
      refine ⟨_, rfl, ta, rfl, ⟨_, SqL.of haG⟩, fun D hD => lcRows .tup hD haG (rowsG.mono fun r ys h => h.2) few (fun r ys H' Q' e q => ⟨_, rfl, rTup_new e q⟩) fun H10 acc r1 hDl rl => ?_⟩
      dsimp only [tNil]
      refine rTup_of (.inl hDl) fun a1 H11 r2 _ ha1 => ?_
      refine ⟨_, rfl, ?_⟩
      dsimp only [tNil]
      refine rTup_of (xs := mk.map V.bl) (.inl (r2 _ _ (r1 _ _ heldG.hb))) fun a2 H12 r3 _ ha2 => ?_
      refine ⟨by show 2 ≤ sizeLine; decide, fun d hd => ?_⟩
      have r4 := Same.new (o := .lst [.ref a1, .ref a2]) hd
      have r13 := Same.trans r1 (Same.trans r2 (Same.trans r3 r4))
      refine rRepr_of (d := twoD tb mk) (.lst (SqL.of upd_same) (.cons (.tup (SqT.of (r4 _ _ (r3 _ _ ha1))) (rpRows (rl.mono fun l ys h => r4 _ _ (r3 _ _ (r2 _ _ h.2.2))))) (.cons (.tup (SqT.of (r4 _ _ ha2)) (rpBools mk)) .nil))) (tame_two Z Tb ml) (by decide) (by decide) ?_
      refine ⟨rfl, _, rfl, ?_⟩
      rw [neSame]
      refine iteF ?_
      exact ⟨_, _, _, _, _, _, _, _, _, _, _, rfl, ((heldG.pen).ext r13).mono (by omega), tabsG.ext r13⟩
    · rintro σ' H' ⟨y2, y3, y4, y5, y6, y7, y8, y9, y10, y11, y12, rfl, pen2, tabs2⟩
      exact k H'
end
end Kx
set_option Elab.async false
set_option maxRecDepth 100000
set_option autoImplicit false
namespace Kx
open PySem L2 PySem.Spec PyProof.Rows Rg Er LamX
/-- in this heap nothing is tracked but the script at a and the tables ts -/
structure Bare1 (K : PySem.W.Frag) (a : Addr) (ts : List Addr) (H : Hp) : Prop where
  few : ∀ b, H b ≠ none → (b = a ∧ K.lookup a = none) ∨ b ∈ ts
  kind : ∀ b u, H b = some u → (∃ ob xs, u = .frz ob (.lst xs)) ∨ b ∈ ts
  tabs : ∀ b ∈ ts, H b = some (.tbl #[])
section
variable {P : Program} {w : World} {K : PySem.W.Frag} {mg mb : Str → Option Value} {a : Addr} {s₁ : Shared} {vs : List Value} {cs : List (Addr × Addr)} {H : Hp}
/-- what is no script and no table is not tracked -/
theorem Bare1.off {ts : List Addr} {b : Addr} (B : Bare1 K a ts H) (h1 : b = a → K.lookup a = none → False) (h2 : b ∉ ts) : H b = none := Decidable.by_contra fun q => by
  rcases B.few b q with ⟨e, n⟩ | e
  · exact h1 e n
  · exact h2 e
/-- the heap at the start -/
def start1 (K : PySem.W.Frag) (a : Addr) (ts : List Addr) (vs : List Value) (ns : List Int) : Hp := fun b =>
  if b ∈ ts then some (.tbl #[]) else if b = a ∧ K.lookup a = none then some (.frz { cls := .type "list", data := .seq vs.toArray } (.lst (ns.map V.int))) else none
theorem start1_bare {ts : List Addr} {ns : List Int} : Bare1 K a ts (start1 K a ts vs ns) := by
  refine ⟨fun b q => ?_, fun b u q => ?_, fun b hb => if_pos hb⟩
  · by_cases hb : b ∈ ts
    · exact .inr hb
    · by_cases h2 : b = a ∧ K.lookup a = none
      · exact .inl h2
      · exact absurd (by unfold start1; rw [if_neg hb, if_neg h2]) q
  · by_cases hb : b ∈ ts
    · exact .inr hb
    · unfold start1 at q
      rw [if_neg hb] at q
      split at q
      · cases q; exact .inl ⟨_, _, rfl⟩
      · cases q
theorem lawGT {k : Nat} {fa : Addr} {fd : FuncData} {x : Str} {sp : Sp} {ns : List Int}
    (KX : K.In s₁.heap) (hns : s₁.heap.Ns mainGlobals mg) (hb : s₁.heap.Ns builtinsNs mb) (hbb : ∀ x : Str, x ≠ "__name__" → mb x = bootBuiltins x) (hlim : s₁.heap.NoLimit) (hg : s₁.gens = #[])
    (tab : ∀ p ∈ cs, s₁.heap.get? p.2 = some (PySem.W.tabObj #[]) ∧ K.lookup p.2 = none ∧ PySem.W.CodeHd s₁.heap p.1 p.2)
    (bmn : ∃ (bm : Addr) (ob : Obj), mg "__builtins__" = some (.ref bm) ∧ bm ≠ builtinsNs ∧ s₁.heap.get? bm = some ob ∧ ob.cls = .type "module" ∧ ob.dict = some builtinsNs ∧ ob.data = .plain)
    (ha : s₁.heap.get? a = some { cls := .type "list", data := .seq vs.toArray }) (hi : IntsAre vs ns) (hl : ns.length ≤ sizeLine) (hr : Room k callerA)
    (F : ∀ base : Heap, K.In base → base.Ns mainGlobals mg → (∀ p ∈ cs, TabB base mg p.1 p.2) → FnG P w K mg base CX0 k fa fd [x] sp) (bind : ∀ (s : Shared) (u : Value), BindsTo s fd ⟨[u], []⟩ [(x, u)])
    (want : ∀ H : Hp, (∀ p ∈ cs, H p.2 = some (.tbl #[])) → SqL K H a (ns.map V.int) → sp [.ref a] H (fun v _ => v = .bl true) fun _ _ _ => False) :
    codeAny (model P w) callerA (.call (.ref fa) ⟨[.ref a], []⟩) (fun r s' => r = .ok (.ret (.bool true)) ∧ OldK s₁.heap s'.heap ∧ s'.os = s₁.os ∧ AllBare s'.gens) s₁ := by
  have inT : ∀ {b : Addr}, b ∈ cs.map (·.2) → ∃ p ∈ cs, p.2 = b := fun {b} hb => List.mem_map.mp hb
  have emp : ∀ {b : Addr} {o : Obj}, b ∈ cs.map (·.2) → s₁.heap.get? b = some o → o = PySem.W.tabObj #[] := fun {b o} hb e => by
    obtain ⟨p, hp, rfl⟩ := inT hb
    exact Option.some.inj (e.symm.trans (tab p hp).1)
  have isA : ∀ {o : Obj}, s₁.heap.get? a = some o → o = { cls := .type "list", data := .seq vs.toArray } := fun {o} e => Option.some.inj (e.symm.trans ha)
  have aT : a ∉ cs.map (·.2) := fun z => by cases (emp z ha)
  have B := start1_bare (K := K) (a := a) (ts := cs.map (·.2)) (vs := vs) (ns := ns)
  have hok : HOk P w (start1 K a (cs.map (·.2)) vs ns) s₁.heap := fun b u z => by
    unfold start1 at z
    split at z
    · rename_i hb
      cases z
      obtain ⟨p, hp, rfl⟩ := inT hb
      exact (tab p hp).1
    · split at z
      · rename_i hb
        obtain ⟨rfl, _⟩ := hb
        cases z
        exact ⟨ha, by rw [List.length_map]; exact hl, vs, _, vals_ints hi, ha⟩
      · cases z
  have seq : SqL K (start1 K a (cs.map (·.2)) vs ns) a (ns.map V.int) := by
    cases q : K.lookup a with
    | none => exact .inl (.inr ⟨{ cls := .type "list", data := .seq vs.toArray }, by unfold start1; rw [if_neg aT, if_pos ⟨rfl, q⟩]⟩)
    | some o =>
      cases isA (KX a o q)
      exact .inr ⟨_, vs.toArray, _, q, rfl, rfl, rfl, by rw [List.size_toArray, hi.length]; exact hl, by simpa using vals_ints hi⟩
  generalize start1 K a (cs.map (·.2)) vs ns = H at B hok seq
  have stay : ∀ {b : Addr} {o : Obj}, s₁.heap.get? b = some o → (o.cls = .type "list" → False) → (o.cls = .none → False) → (hidT s₁.heap H).get? b = some o := fun {b o} e h1 h2 => hidT_get e (B.off (fun q _ => by
    subst q
    exact h1 (by rw [isA e])) fun z => h2 (by rw [emp z e]))
  have dicts : ∀ {b : Addr} {m : Str → Option Value}, s₁.heap.Ns b m → (hidT s₁.heap H).Ns b m := by
    rintro b m ⟨o, es, ep, e, d, r⟩
    refine ⟨o, es, ep, hidT_get e (B.off (fun q _ => ?_) fun z => ?_), d, r⟩
    · subst q
      rw [isA e] at d
      cases d
    · rw [emp z e] at d
      cases d
  have KB : K.In (hidT s₁.heap H) := fun b o e => hidT_get (KX b o e) (B.off (fun q n => by
    subst q
    cases n.symm.trans e) fun z => by
    obtain ⟨p, hp, rfl⟩ := inT z
    cases (tab p hp).2.1.symm.trans e)
  have noG : ∀ {o : Obj} {b : Addr}, s₁.heap.get? b = some o → (∀ es ep, o.data ≠ .dict es ep) → mainGlobals ≠ b := fun {o b} e q z => by
    subst z
    obtain ⟨o', es, ep, e', d, _⟩ := hns
    cases e.symm.trans e'
    exact q _ _ d
  have TB : ∀ p ∈ cs, TabB (hidT s₁.heap H) mg p.1 p.2 := fun p hp => by
    obtain ⟨t1, _, t3⟩ := tab p hp
    obtain ⟨o, us, file, tf, flags, tg, inF, text, tt, e1, e2, rest⟩ := t3
    obtain ⟨bm, ob, b1, b2, b3, b4, b5, b6⟩ := bmn
    refine ⟨⟨o, us, file, tf, flags, tg, inF, text, tt, stay e1 (by rw [e2]; exact fun z => nomatch z) (by rw [e2]; exact fun z => nomatch z), e2, rest⟩, ⟨bm, ob, b1, b2, ?_, ?_, stay b3 (by rw [b4]; intro z; injection z with z; exact absurd z (by decide)) (by rw [b4]; exact fun z => nomatch z), b4, b5, b6⟩, noG t1 fun _ _ z => nomatch z⟩
    · exact fun z => noG b3 (by rw [b6]; exact fun _ _ z => nomatch z) z.symm
    · rintro rfl
      cases b3.symm.trans t1
      cases b4
  have none0 : ∀ b, b ∉ frs ([] : List Env) := fun b => by unfold frs; simp
  have M : Mod K mg (hidT s₁.heap H) := ⟨KB, dicts hns, ⟨mb, dicts hb, hbb⟩, let ⟨mc, h1, h2⟩ := hlim; ⟨mc, dicts h1, h2⟩⟩
  have e0 : Env0 P w K mg (hidT s₁.heap H) callerA [] s₁ H := ⟨rfl, M, fun b o e => of_hidT e, Nat.le_of_eq (hidT_size _ _), trivial, fun b q => absurd q (none0 b), hok, .of_eq hg⟩
  have tabs0 : ∀ p ∈ cs, H p.2 = some (.tbl #[]) := fun p hp => B.tabs _ (List.mem_map.mpr ⟨p, hp, rfl⟩)
  refine codeAny_mono ((F _ KB (dicts hns) TB).run callerA [] s₁ H ⟨[.ref a], []⟩ [.ref a] [.ref a] _ _ rfl hr e0 (bind s₁ (.ref a)) (.cons rfl .nil) (want H tabs0 seq)) fun r s' got => ?_
  rcases r with er | fl
  · exact False.elim got
  cases fl <;> first | exact False.elim got | skip
  obtain ⟨v, H', os, bare, un, hok', r', q⟩ := got
  subst q
  cases r'
  have kept : ∀ b o, b ∉ cs.map (·.2) → s₁.heap.get? b = some o → s'.heap.get? b = some o := fun b o nb e => by
    cases z : H b with
    | none => exact un.keep b o e z (none0 b) (by simp)
    | some u =>
      rcases B.kind b u z with ⟨ob, xs, rfl⟩ | m
      · obtain ⟨e1, _⟩ := hok b _ z
        obtain ⟨e2, _⟩ := hok' b _ (un.frzs b ob _ z)
        cases e1.symm.trans e
        exact e2
      · exact absurd m nb
  have more : ∀ b, b ∈ cs.map (·.2) → ∃ ps, s'.heap.get? b = some (PySem.W.tabObj ps) := fun b m => by
    obtain ⟨ps, z⟩ := un.tbls b #[] (B.tabs b m)
    exact ⟨_, hok' b _ z⟩
  refine ⟨rfl, ⟨fun b o e => ?_, fun b o e => ?_⟩, os, bare⟩
  · by_cases m : b ∈ cs.map (·.2)
    · obtain ⟨p, hp, rfl⟩ := inT m
      obtain ⟨ps, z⟩ := more _ m
      cases emp m e
      exact .inr (.inl ⟨((tab p hp).2.2.tab (tab p hp).1).isCodeTable, rfl, #[], ps, rfl, by rw [Array.empty_append]; exact z⟩)
    · exact .inl (kept b o m e)
  · by_cases m : b ∈ cs.map (·.2)
    · obtain ⟨ps, z⟩ := more _ m
      exact ⟨_, z⟩
    · exact ⟨o, kept b o m e⟩
end
/-- the law's own code, and its table, as the head finds them -/
theorem walkGT {l : PySem.W.OpenLaw} {n k : Nat} {q : Program} {loose : List Str} {XP : (Str → Option Value) → Heap → Prop} {YP : World → Heap → Prop} {d : DefRec} {K : Params → PySem.W.Frag} {sp : List (Addr × Addr) → World → Sp} {x : Str}
    (hn : l.most = some n) (hn2 : n ≤ sizeLine) (hdf : d.params.defaults = []) (hr : Room k callerA) (hrec : ((recsOf q).any fun e => e.name == d.name) = true) (hY : ∀ (w : World) (h : Heap), YP w h → (K w.params).In h)
    (F : ∀ (w : World) (mg : Str → Option Value) (fa : Addr) (h : Heap), (K w.params).In h → h.Ns mainGlobals mg → mg d.name = some (.ref fa) → OwnTab (K w.params) fa h →
      ∃ (fd : FuncData) (cs : List (Addr × Addr)), (∀ p ∈ cs, h.get? p.2 = some (PySem.W.tabObj #[]) ∧ (K w.params).lookup p.2 = none ∧ PySem.W.CodeHd h p.1 p.2) ∧ (∀ (s : Shared) (u : Value), BindsTo s fd ⟨[u], []⟩ [(x, u)]) ∧
        ∀ base : Heap, (K w.params).In base → base.Ns mainGlobals mg → (∀ p ∈ cs, TabB base mg p.1 p.2) → FnG l.prog w (K w.params) mg base CX0 k fa fd [x] (sp cs w))
    (want : ∀ (cs : List (Addr × Addr)) (w : World) (H : Hp) (a : Addr) (ns : List Int), ns.length ≤ n → (∀ z ∈ ns, Builtin.Int.intBits z ≤ 1048576) → (∀ p ∈ cs, H p.2 = some (.tbl #[])) → SqL (K w.params) H a (ns.map V.int) → sp cs w [.ref a] H (fun v _ => v = .bl true) fun _ _ _ => False) :
    PySem.W.WalkO q loose XP YP l.row.toRowW d [] (fun f vs => PySem.call f vs) := by
  refine Att.attach_callB hn hdf fun w s₀ s₁ mg mb fa o pm cd doc a vs ns G Y ho hd hcd hmg hobj hints hlen hbits hg => ?_
  have KX := hY w _ Y
  have own : OwnTab (K w.params) fa s₁.heap := fun c T o1 f1 e dd us sl k1 k2 k3 k4 k5 => by
    obtain ⟨dL, hm, same⟩ := List.any_eq_true.mp hrec
    obtain ⟨_, o2, f2, _, _, g1, g2, g3, g4, _, ⟨⟨_, _, g5, _, g6, g7⟩, at_⟩⟩ := G.T.tab dL hm
    rw [beq_iff_eq.mp same, hmg] at g1
    cases g1
    cases (KX _ _ k1).symm.trans g2
    cases k2.symm.trans g3
    cases k3.symm.trans g4
    cases (KX _ _ k4).symm.trans g5
    cases g6
    cases k5.symm.trans g7
    exact at_
  obtain ⟨fd, cs, ht, hb, hF⟩ := F w mg fa _ KX G.T.g hmg own
  exact lawGT KX G.T.g G.T.b G.T.builtins G.T.nolimit hg ht G.T.bmain hobj hints (Nat.le_trans hlen hn2) hr hF hb fun H tabs seq => want cs w H a ns hlen hbits tabs seq
end Kx
set_option Elab.async false
set_option maxRecDepth 100000
set_option autoImplicit false
/-! The classes of errors of k19, as a raise and an except want them. -/
namespace Kx
open PySem L2 PySem.Spec PyProof.Rows Rg Er LamX
abbrev sRowInit : Stmt := inClass (top 4) 0
abbrev sMachInit : Stmt := inClass (top 5) 0
theorem tabs_of {cs : List (Addr × Addr)} {H : Hp} {q : Str} (h : ∀ p ∈ cs, H p.2 = some (.tbl #[])) : Tabs (cs.map fun p => (p.2, q)) H := fun t ht => by
  obtain ⟨p, hp, rfl⟩ := List.mem_map.mp ht
  exact TabS.nil (h p hp)
theorem free_of {ns : List (Str × NameKind)} (h : ns.all (fun y => decide (y.2 ≠ .free) || y.1 == "__class__") = true) : ∀ x, ns.lookup x = some .free → x = "__class__" := by
  intro x e
  have m : (x, NameKind.free) ∈ ns := by
    induction ns with
    | nil => cases e
    | cons y r ih =>
      obtain ⟨y1, y2⟩ := y
      by_cases q : (x == y1) = true
      · simp only [List.lookup, q] at e
        rw [beq_iff_eq.mp q]
        cases e
        exact List.mem_cons_self
      · have q' : (x == y1) = false := by simpa using q
        simp only [List.lookup, q'] at e
        exact List.mem_cons_of_mem _ (ih (by
          rw [List.all_cons, Bool.and_eq_true] at h
          exact h.2) e)
  have := List.all_eq_true.mp h _ m
  simpa using this
theorem esRow : ErrS ["self", "at"] (defScope sRowInit) := ⟨rfl, by decide +kernel, by decide +kernel, by decide +kernel, rfl, rfl, free_of (by decide +kernel), rfl, rfl, rfl⟩
theorem esMach : ErrS ["self", "part"] (defScope sMachInit) := ⟨rfl, by decide +kernel, by decide +kernel, by decide +kernel, rfl, rfl, free_of (by decide +kernel), rfl, rfl, rfl⟩
section
variable {P : Program} {w : World} {K : PySem.W.Frag} {mg : Str → Option Value} {base : Heap}
theorem ok_rowInit {C f cda cc : Addr} {oc dV kV doc pm ct : Value} {od an : Option Addr} {osl : Array (Option Value)} (T : ErrC P K C f cc cda) (O : OexC K C) (no : PySem.W.findIn K (.ref C) "at" = some none)
    (lk : K.lookup f = some ⟨oc, od, .func (PySem.W.ksFn "__init__" "BadRow.__init__" (defArgs sRowInit) (defBody sRowInit) (defScope sRowInit) dV kV doc pm an (.ref cda) ct cc), osl⟩) (hcd : PySem.W.codeIn K (.ref cda) "BadRow.__init__" = true) (gs : mg "super" = none) :
    FnOk P w K mg base CX0 1 f (PySem.W.ksFn "__init__" "BadRow.__init__" (defArgs sRowInit) (defBody sRowInit) (defScope sRowInit) dV kV doc pm an (.ref cda) ct cc) ["self", "at"] (spErr1 C "at") := by
  refine ok_err T esRow lk hcd gs rfl rfl rfl (fun vs H Q E h => ?_) (fun vs H Q E h => ?_) (fun A outer s H vs Q E h => rest1 esRow O no rfl rfl A outer s H vs Q E h) (fun _ => rfl) (fun _ => rfl) (fun _ => rfl)
  · obtain ⟨a, v, rfl, _⟩ := h
    rfl
  · obtain ⟨a, v, rfl, ea, _⟩ := h
    exact ⟨a, _, rfl, ea⟩
theorem ok_machInit {C f cda cc : Addr} {oc dV kV doc pm ct : Value} {od an : Option Addr} {osl : Array (Option Value)} (T : ErrC P K C f cc cda) (O : OexC K C) (no : PySem.W.findIn K (.ref C) "part" = some none)
    (lk : K.lookup f = some ⟨oc, od, .func (PySem.W.ksFn "__init__" "BadMachine.__init__" (defArgs sMachInit) (defBody sMachInit) (defScope sMachInit) dV kV doc pm an (.ref cda) ct cc), osl⟩) (hcd : PySem.W.codeIn K (.ref cda) "BadMachine.__init__" = true) (gs : mg "super" = none) :
    FnOk P w K mg base CX0 1 f (PySem.W.ksFn "__init__" "BadMachine.__init__" (defArgs sMachInit) (defBody sMachInit) (defScope sMachInit) dV kV doc pm an (.ref cda) ct cc) ["self", "part"] (spErr1 C "part") := by
  refine ok_err T esMach lk hcd gs rfl rfl rfl (fun vs H Q E h => ?_) (fun vs H Q E h => ?_) (fun A outer s H vs Q E h => rest1 esMach O no rfl rfl A outer s H vs Q E h) (fun _ => rfl) (fun _ => rfl) (fun _ => rfl)
  · obtain ⟨a, v, rfl, _⟩ := h
    rfl
  · obtain ⟨a, v, rfl, ea, _⟩ := h
    exact ⟨a, _, rfl, ea⟩
end
end Kx
set_option Elab.async false
set_option maxRecDepth 100000
set_option autoImplicit false
namespace Kx
open PySem L2 PySem.Spec PyProof.Rows Rg Er LamX
set_option maxHeartbeats 0 in
theorem all_mk {l : PySem.W.OpenLaw} {w : World} {K : PySem.W.Frag} {h : Heap} {mg : Str → Option Value} {fa C : Addr} {tk : Tok} (X : K.In h) (G : h.Ns mainGlobals mg) (hfa : mg "law" = some (.ref fa)) (own : OwnTab K fa h)
    {G0 : Addr}
    {G1 : Addr}
    {G2 : Addr}
    {G3 : Addr}
    {G4 : Addr}
    {nm_3 q_3 : Str} {N_3 : Addr} {bs_3 bm_3 : List Value} {sn_3 : List Str} {sub_3 : List Value} {ab_3 : Bool} {col_3 : Option Bool} {dd_3 : Option Addr} {w0_3 w1_3 w2_3 w3_3 w5_3 : Option Value} {fe_3 cc_3 cda_3 : Addr} {oce_3 kVe_3 doce_3 pme_3 cte_3 : Value} {ode_3 ane_3 : Option Addr} {osle_3 : Array (Option Value)} {cl_3 ccl_3 : Value} {cld_3 cdd_3 : Option Addr} {csl_3 ccs_3 : Array (Option Value)} {vs_3 : Array Value} {file_3 : Str} {tf_3 : Tok}
    {nm_4 q_4 : Str} {N_4 : Addr} {bs_4 bm_4 : List Value} {sn_4 : List Str} {sub_4 : List Value} {ab_4 : Bool} {col_4 : Option Bool} {dd_4 : Option Addr} {w0_4 w1_4 w2_4 w3_4 w5_4 : Option Value} {fe_4 cc_4 cda_4 : Addr} {oce_4 kVe_4 doce_4 pme_4 cte_4 : Value} {ode_4 ane_4 : Option Addr} {osle_4 : Array (Option Value)} {cl_4 ccl_4 : Value} {cld_4 cdd_4 : Option Addr} {csl_4 ccs_4 : Array (Option Value)} {vs_4 : Array Value} {file_4 : Str} {tf_4 : Tok}
    {f_fromto : Addr} {od_fromto an_fromto : Option Addr} {sl_fromto : Array (Option Value)} {oc_fromto kV_fromto dc_fromto pm_fromto cd_fromto ct_fromto : Value}
    {f_letrs : Addr} {od_letrs an_letrs : Option Addr} {sl_letrs : Array (Option Value)} {oc_letrs kV_letrs dc_letrs pm_letrs cd_letrs ct_letrs : Value}
    {f_signs_ : Addr} {od_signs_ an_signs_ : Option Addr} {sl_signs_ : Array (Option Value)} {oc_signs_ kV_signs_ dc_signs_ pm_signs_ cd_signs_ ct_signs_ : Value}
    {f_wrong : Addr} {od_wrong an_wrong : Option Addr} {sl_wrong : Array (Option Value)} {oc_wrong kV_wrong dc_wrong pm_wrong cd_wrong ct_wrong : Value}
    {f_chrow : Addr} {od_chrow an_chrow : Option Addr} {sl_chrow : Array (Option Value)} {oc_chrow kV_chrow dc_chrow pm_chrow cd_chrow ct_chrow : Value}
    {f_ledon : Addr} {od_ledon an_ledon : Option Addr} {sl_ledon : Array (Option Value)} {oc_ledon kV_ledon dc_ledon pm_ledon cd_ledon ct_ledon : Value}
    {f_chsig : Addr} {od_chsig an_chsig : Option Addr} {sl_chsig : Array (Option Value)} {oc_chsig kV_chsig dc_chsig pm_chsig cd_chsig ct_chsig : Value}
    {f_asteps : Addr} {od_asteps an_asteps : Option Addr} {sl_asteps : Array (Option Value)} {oc_asteps kV_asteps dc_asteps pm_asteps cd_asteps ct_asteps : Value}
    {f_astates : Addr} {od_astates an_astates : Option Addr} {sl_astates : Array (Option Value)} {oc_astates kV_astates dc_astates pm_astates cd_astates ct_astates : Value}
    {f_aansw : Addr} {od_aansw an_aansw : Option Addr} {sl_aansw : Array (Option Value)} {oc_aansw kV_aansw dc_aansw pm_aansw cd_aansw ct_aansw : Value}
    {f_pen : Addr} {od_pen an_pen : Option Addr} {sl_pen : Array (Option Value)} {oc_pen kV_pen dc_pen pm_pen cd_pen ct_pen : Value}
    {f_draw : Addr} {od_draw an_draw : Option Addr} {sl_draw : Array (Option Value)} {oc_draw kV_draw dc_draw pm_draw cd_draw ct_draw : Value}
    {f_pick : Addr} {od_pick an_pick : Option Addr} {sl_pick : Array (Option Value)} {oc_pick kV_pick dc_pick pm_pick cd_pick ct_pick : Value}
    {f_lett : Addr} {od_lett an_lett : Option Addr} {sl_lett : Array (Option Value)} {oc_lett kV_lett dc_lett pm_lett cd_lett ct_lett : Value}
    {f_plan : Addr} {od_plan an_plan : Option Addr} {sl_plan : Array (Option Value)} {oc_plan kV_plan dc_plan pm_plan cd_plan ct_plan : Value}
    {f_word : Addr} {od_word an_word : Option Addr} {sl_word : Array (Option Value)} {oc_word kV_word dc_word pm_word cd_word ct_word : Value}
    {f_hrd : Addr} {od_hrd an_hrd : Option Addr} {sl_hrd : Array (Option Value)} {oc_hrd kV_hrd dc_hrd pm_hrd cd_hrd ct_hrd : Value}
    {f_odd : Addr} {od_odd an_odd : Option Addr} {sl_odd : Array (Option Value)} {oc_odd kV_odd dc_odd pm_odd cd_odd ct_odd : Value}
    {f_inr : Addr} {od_inr an_inr : Option Addr} {sl_inr : Array (Option Value)} {oc_inr kV_inr dc_inr pm_inr cd_inr ct_inr : Value}
    {f_law cd_law : Addr} {od_law an_law : Option Addr} {sl_law : Array (Option Value)} {oc_law kV_law dc_law pm_law ct_law : Value}
    {f_init : Addr} {od_init an_init : Option Addr} {sl_init : Array (Option Value)} {oc_init kV_init dc_init pm_init cd_init ct_init : Value}
    {f_item : Addr} {od_item an_item : Option Addr} {sl_item : Array (Option Value)} {oc_item kV_item dc_item pm_item cd_item ct_item : Value}
    {f_has : Addr} {od_has an_has : Option Addr} {sl_has : Array (Option Value)} {oc_has kV_has dc_has pm_has cd_has ct_has : Value}
    {f_state : Addr} {od_state an_state : Option Addr} {sl_state : Array (Option Value)} {oc_state kV_state dc_state pm_state cd_state ct_state : Value}
    {f_step : Addr} {od_step an_step : Option Addr} {sl_step : Array (Option Value)} {oc_step kV_step dc_step pm_step cd_step ct_step : Value}
    {f_psteps : Addr} {od_psteps an_psteps : Option Addr} {sl_psteps : Array (Option Value)} {oc_psteps kV_psteps dc_psteps pm_psteps cd_psteps ct_psteps : Value}
    {p_psteps : Addr} {r_psteps : List Value}
    {f_ptold : Addr} {od_ptold an_ptold : Option Addr} {sl_ptold : Array (Option Value)} {oc_ptold kV_ptold dc_ptold pm_ptold cd_ptold ct_ptold : Value}
    {p_ptold : Addr} {r_ptold : List Value}
    {oct : Value} {odt : Option Addr} {vst : Array Value} {slt : Array (Option Value)} {tab : Addr}
    (aC : PySem.W.nsIn K mainGlobals "Machine" = some (some (.ref C)))
    (aG0 : PySem.W.nsIn K mainGlobals "GameError" = some (some (.ref G0)))
    (aG1 : PySem.W.nsIn K mainGlobals "BadNumber" = some (some (.ref G1)))
    (aG2 : PySem.W.nsIn K mainGlobals "BadInput" = some (some (.ref G2)))
    (aG3 : PySem.W.nsIn K mainGlobals "BadRow" = some (some (.ref G3)))
    (aG4 : PySem.W.nsIn K mainGlobals "BadMachine" = some (some (.ref G4)))
    (xL_3 : K.lookup G3 = some (excClassObj nm_3 q_3 G3 N_3 bs_3 bm_3 true sn_3 sub_3 ab_3 col_3 dd_3 w0_3 w1_3 w2_3 w3_3 w5_3 "ValueError.__new__"))
    (rv_3 : PySem.HandSPX.refsVE bm_3 = true)
    (sa_3 : PySem.W.findIn K (.ref G3) "__setattr__" = some (some (.builtin "object.__setattr__")))
    (ex_3 : PySem.W.subIn K (.ref G3) (.type "BaseException") = some true)
    (ty_3 : PySem.W.typeIn K (.ref G3) = some (.type "type"))
    (kC_3 : PySem.W.keepIn K (.ref G3) = true)
    (ga_3 : PySem.W.findIn K (.ref G3) "__getattribute__" = some (some (.builtin "BaseException.__getattribute__")))
    (gg_3 : PySem.W.findIn K (.ref G3) "__getattr__" = some none)
    (hdc_3 : PySem.W.hasDictIn K G3 = true)
    (ic_3 : (PySem.W.clsIn K G3).isSome = true)
    (ca_3 : PySem.W.findIn K (.ref G3) "__class__" = some (some (.builtin "object.__class__")))
    (ob_3 : PySem.W.mroIn K G3 (.type "object") = some true)
    (ini_3 : PySem.W.findIn K (.ref G3) "__init__" = some (some (.ref fe_3)))
    (ti_3 : PySem.W.typeIn K (.ref fe_3) = some (.type "function"))
    (le_3 : K.lookup fe_3 = some ⟨oce_3, ode_3, .func (PySem.W.ksFn "__init__" "BadRow.__init__" (defArgs sRowInit) (defBody sRowInit) (defScope sRowInit) .none kVe_3 doce_3 pme_3 ane_3 (.ref cda_3) cte_3 cc_3), osle_3⟩)
    (ce_3 : PySem.W.codeIn K (.ref cda_3) "BadRow.__init__" = true)
    (no_3 : PySem.W.findIn K (.ref G3) "at" = some none)
    (su_3 : PySem.W.ks_superIn K G3 G3 "__init__" = some (some (.builtin veInit)))
    (ve_3 : PySem.W.subIn K (.ref G3) (.type "ValueError") = some true)
    (se_3 : PySem.W.mroIn K G3 (.ref G3) = some true)
    (cel_3 : K.lookup cc_3 = some ⟨cl_3, cld_3, .cell (some (.ref G3)), csl_3⟩)
    (cod_3 : K.lookup cda_3 = some ⟨ccl_3, cdd_3, .fields vs_3, ccs_3⟩)
    (v2_3 : vs_3[2]? = some (.str file_3 tf_3))
    (fl_3 : ((l.prog.main.file : Str) == file_3) = true)
    (em_3 : PySem.W.exmOne K (.ref G3) (.ref G0) = some true)
    (n1_3 : PySem.W.kitOne K (.ref G3) (.ref G1) = some false)
    (n2_3 : PySem.W.kitOne K (.ref G3) (.ref G2) = some true)
    (n3_3 : PySem.W.kitOne K (.ref G3) (.ref G3) = some true)
    (n4_3 : PySem.W.kitOne K (.ref G3) (.ref G4) = some false)
    (xL_4 : K.lookup G4 = some (excClassObj nm_4 q_4 G4 N_4 bs_4 bm_4 true sn_4 sub_4 ab_4 col_4 dd_4 w0_4 w1_4 w2_4 w3_4 w5_4 "ValueError.__new__"))
    (rv_4 : PySem.HandSPX.refsVE bm_4 = true)
    (sa_4 : PySem.W.findIn K (.ref G4) "__setattr__" = some (some (.builtin "object.__setattr__")))
    (ex_4 : PySem.W.subIn K (.ref G4) (.type "BaseException") = some true)
    (ty_4 : PySem.W.typeIn K (.ref G4) = some (.type "type"))
    (kC_4 : PySem.W.keepIn K (.ref G4) = true)
    (ga_4 : PySem.W.findIn K (.ref G4) "__getattribute__" = some (some (.builtin "BaseException.__getattribute__")))
    (gg_4 : PySem.W.findIn K (.ref G4) "__getattr__" = some none)
    (hdc_4 : PySem.W.hasDictIn K G4 = true)
    (ic_4 : (PySem.W.clsIn K G4).isSome = true)
    (ca_4 : PySem.W.findIn K (.ref G4) "__class__" = some (some (.builtin "object.__class__")))
    (ob_4 : PySem.W.mroIn K G4 (.type "object") = some true)
    (ini_4 : PySem.W.findIn K (.ref G4) "__init__" = some (some (.ref fe_4)))
    (ti_4 : PySem.W.typeIn K (.ref fe_4) = some (.type "function"))
    (le_4 : K.lookup fe_4 = some ⟨oce_4, ode_4, .func (PySem.W.ksFn "__init__" "BadMachine.__init__" (defArgs sMachInit) (defBody sMachInit) (defScope sMachInit) .none kVe_4 doce_4 pme_4 ane_4 (.ref cda_4) cte_4 cc_4), osle_4⟩)
    (ce_4 : PySem.W.codeIn K (.ref cda_4) "BadMachine.__init__" = true)
    (no_4 : PySem.W.findIn K (.ref G4) "part" = some none)
    (su_4 : PySem.W.ks_superIn K G4 G4 "__init__" = some (some (.builtin veInit)))
    (ve_4 : PySem.W.subIn K (.ref G4) (.type "ValueError") = some true)
    (se_4 : PySem.W.mroIn K G4 (.ref G4) = some true)
    (cel_4 : K.lookup cc_4 = some ⟨cl_4, cld_4, .cell (some (.ref G4)), csl_4⟩)
    (cod_4 : K.lookup cda_4 = some ⟨ccl_4, cdd_4, .fields vs_4, ccs_4⟩)
    (v2_4 : vs_4[2]? = some (.str file_4 tf_4))
    (fl_4 : ((l.prog.main.file : Str) == file_4) = true)
    (em_4 : PySem.W.exmOne K (.ref G4) (.ref G0) = some true)
    (n1_4 : PySem.W.kitOne K (.ref G4) (.ref G1) = some false)
    (n2_4 : PySem.W.kitOne K (.ref G4) (.ref G2) = some true)
    (n3_4 : PySem.W.kitOne K (.ref G4) (.ref G3) = some false)
    (n4_4 : PySem.W.kitOne K (.ref G4) (.ref G4) = some true)
    (ay : PySem.W.nsIn K cStatics "thirdparty.any" = some none)
    (tp : (l.prog.main.scope.names.lookup ("super" : Str)).isSome = false)
    (cg : PySem.W.specialIn K (.builtin "object.__class__") "__get__" = some (some (.builtin "getset_descriptor.__get__")))
    (ct : PySem.W.takesIn K (.builtin "object.__class__") = some true)
    (mca : PySem.W.findIn K (.ref C) "__class__" = some (some (.builtin "object.__class__")))
    (mob : PySem.W.mroIn K C (.type "object") = some true)
    (mns : PySem.W.kitOne K (.ref C) (.type "str") = some false)
    (a_fromto : PySem.W.nsIn K mainGlobals "is_from_to" = some (some (.ref f_fromto)))
    (l_fromto : K.lookup f_fromto = some ⟨oc_fromto, od_fromto, .func (PySem.W.fnOf "is_from_to" "is_from_to" (defArgs sFromTo) (defBody sFromTo) (defScope sFromTo) .none kV_fromto dc_fromto pm_fromto an_fromto cd_fromto ct_fromto), sl_fromto⟩)
    (c_fromto : PySem.W.codeIn K cd_fromto "is_from_to" = true)
    (k_fromto : PySem.W.keepIn K (.ref f_fromto) = true)
    (a_letrs : PySem.W.nsIn K mainGlobals "are_letters" = some (some (.ref f_letrs)))
    (l_letrs : K.lookup f_letrs = some ⟨oc_letrs, od_letrs, .func (PySem.W.fnOf "are_letters" "are_letters" (defArgs sAreLetters) (defBody sAreLetters) (defScope sAreLetters) .none kV_letrs dc_letrs pm_letrs an_letrs cd_letrs ct_letrs), sl_letrs⟩)
    (c_letrs : PySem.W.codeIn K cd_letrs "are_letters" = true)
    (k_letrs : PySem.W.keepIn K (.ref f_letrs) = true)
    (a_signs_ : PySem.W.nsIn K mainGlobals "are_signs" = some (some (.ref f_signs_)))
    (l_signs_ : K.lookup f_signs_ = some ⟨oc_signs_, od_signs_, .func (PySem.W.fnOf "are_signs" "are_signs" (defArgs sAreSigns) (defBody sAreSigns) (defScope sAreSigns) .none kV_signs_ dc_signs_ pm_signs_ an_signs_ cd_signs_ ct_signs_), sl_signs_⟩)
    (c_signs_ : PySem.W.codeIn K cd_signs_ "are_signs" = true)
    (k_signs_ : PySem.W.keepIn K (.ref f_signs_) = true)
    (a_wrong : PySem.W.nsIn K mainGlobals "wrong_at" = some (some (.ref f_wrong)))
    (l_wrong : K.lookup f_wrong = some ⟨oc_wrong, od_wrong, .func (PySem.W.fnOf "wrong_at" "wrong_at" (defArgs sWrong) (defBody sWrong) (defScope sWrong) .none kV_wrong dc_wrong pm_wrong an_wrong cd_wrong ct_wrong), sl_wrong⟩)
    (c_wrong : PySem.W.codeIn K cd_wrong "wrong_at" = true)
    (k_wrong : PySem.W.keepIn K (.ref f_wrong) = true)
    (a_chrow : PySem.W.nsIn K mainGlobals "check_row" = some (some (.ref f_chrow)))
    (l_chrow : K.lookup f_chrow = some ⟨oc_chrow, od_chrow, .func (PySem.W.fnOf "check_row" "check_row" (defArgs sCheckRow) (defBody sCheckRow) (defScope sCheckRow) .none kV_chrow dc_chrow pm_chrow an_chrow cd_chrow ct_chrow), sl_chrow⟩)
    (c_chrow : PySem.W.codeIn K cd_chrow "check_row" = true)
    (k_chrow : PySem.W.keepIn K (.ref f_chrow) = true)
    (a_ledon : PySem.W.nsIn K mainGlobals "led_on" = some (some (.ref f_ledon)))
    (l_ledon : K.lookup f_ledon = some ⟨oc_ledon, od_ledon, .func (PySem.W.fnOf "led_on" "led_on" (defArgs sLedOn) (defBody sLedOn) (defScope sLedOn) .none kV_ledon dc_ledon pm_ledon an_ledon cd_ledon ct_ledon), sl_ledon⟩)
    (c_ledon : PySem.W.codeIn K cd_ledon "led_on" = true)
    (k_ledon : PySem.W.keepIn K (.ref f_ledon) = true)
    (a_chsig : PySem.W.nsIn K mainGlobals "check_signs" = some (some (.ref f_chsig)))
    (l_chsig : K.lookup f_chsig = some ⟨oc_chsig, od_chsig, .func (PySem.W.fnOf "check_signs" "check_signs" (defArgs sCheckSigns) (defBody sCheckSigns) (defScope sCheckSigns) .none kV_chsig dc_chsig pm_chsig an_chsig cd_chsig ct_chsig), sl_chsig⟩)
    (c_chsig : PySem.W.codeIn K cd_chsig "check_signs" = true)
    (k_chsig : PySem.W.keepIn K (.ref f_chsig) = true)
    (a_asteps : PySem.W.nsIn K mainGlobals "are_steps" = some (some (.ref f_asteps)))
    (l_asteps : K.lookup f_asteps = some ⟨oc_asteps, od_asteps, .func (PySem.W.fnOf "are_steps" "are_steps" (defArgs sAreSteps) (defBody sAreSteps) (defScope sAreSteps) .none kV_asteps dc_asteps pm_asteps an_asteps cd_asteps ct_asteps), sl_asteps⟩)
    (c_asteps : PySem.W.codeIn K cd_asteps "are_steps" = true)
    (k_asteps : PySem.W.keepIn K (.ref f_asteps) = true)
    (a_astates : PySem.W.nsIn K mainGlobals "are_states" = some (some (.ref f_astates)))
    (l_astates : K.lookup f_astates = some ⟨oc_astates, od_astates, .func (PySem.W.fnOf "are_states" "are_states" (defArgs sAreStates) (defBody sAreStates) (defScope sAreStates) .none kV_astates dc_astates pm_astates an_astates cd_astates ct_astates), sl_astates⟩)
    (c_astates : PySem.W.codeIn K cd_astates "are_states" = true)
    (k_astates : PySem.W.keepIn K (.ref f_astates) = true)
    (a_aansw : PySem.W.nsIn K mainGlobals "are_answers" = some (some (.ref f_aansw)))
    (l_aansw : K.lookup f_aansw = some ⟨oc_aansw, od_aansw, .func (PySem.W.fnOf "are_answers" "are_answers" (defArgs sAreAnswers) (defBody sAreAnswers) (defScope sAreAnswers) .none kV_aansw dc_aansw pm_aansw an_aansw cd_aansw ct_aansw), sl_aansw⟩)
    (c_aansw : PySem.W.codeIn K cd_aansw "are_answers" = true)
    (k_aansw : PySem.W.keepIn K (.ref f_aansw) = true)
    (a_pen : PySem.W.nsIn K mainGlobals "_law_pen" = some (some (.ref f_pen)))
    (l_pen : K.lookup f_pen = some ⟨oc_pen, od_pen, .func (PySem.W.fnOf "_law_pen" "_law_pen" (defArgs sPen) (defBody sPen) (defScope sPen) .none kV_pen dc_pen pm_pen an_pen cd_pen ct_pen), sl_pen⟩)
    (c_pen : PySem.W.codeIn K cd_pen "_law_pen" = true)
    (k_pen : PySem.W.keepIn K (.ref f_pen) = true)
    (a_draw : PySem.W.nsIn K mainGlobals "_law_draw" = some (some (.ref f_draw)))
    (l_draw : K.lookup f_draw = some ⟨oc_draw, od_draw, .func (PySem.W.fnOf "_law_draw" "_law_draw" (defArgs sDraw) (defBody sDraw) (defScope sDraw) .none kV_draw dc_draw pm_draw an_draw cd_draw ct_draw), sl_draw⟩)
    (c_draw : PySem.W.codeIn K cd_draw "_law_draw" = true)
    (k_draw : PySem.W.keepIn K (.ref f_draw) = true)
    (a_pick : PySem.W.nsIn K mainGlobals "_law_pick" = some (some (.ref f_pick)))
    (l_pick : K.lookup f_pick = some ⟨oc_pick, od_pick, .func (PySem.W.fnOf "_law_pick" "_law_pick" (defArgs sPick) (defBody sPick) (defScope sPick) .none kV_pick dc_pick pm_pick an_pick cd_pick ct_pick), sl_pick⟩)
    (c_pick : PySem.W.codeIn K cd_pick "_law_pick" = true)
    (k_pick : PySem.W.keepIn K (.ref f_pick) = true)
    (a_lett : PySem.W.nsIn K mainGlobals "_law_letters" = some (some (.ref f_lett)))
    (l_lett : K.lookup f_lett = some ⟨oc_lett, od_lett, .func (PySem.W.fnOf "_law_letters" "_law_letters" (defArgs sLetters) (defBody sLetters) (defScope sLetters) .none kV_lett dc_lett pm_lett an_lett cd_lett ct_lett), sl_lett⟩)
    (c_lett : PySem.W.codeIn K cd_lett "_law_letters" = true)
    (k_lett : PySem.W.keepIn K (.ref f_lett) = true)
    (a_plan : PySem.W.nsIn K mainGlobals "_law_plan" = some (some (.ref f_plan)))
    (l_plan : K.lookup f_plan = some ⟨oc_plan, od_plan, .func (PySem.W.fnOf "_law_plan" "_law_plan" (defArgs sPlan) (defBody sPlan) (defScope sPlan) .none kV_plan dc_plan pm_plan an_plan cd_plan ct_plan), sl_plan⟩)
    (c_plan : PySem.W.codeIn K cd_plan "_law_plan" = true)
    (k_plan : PySem.W.keepIn K (.ref f_plan) = true)
    (a_word : PySem.W.nsIn K mainGlobals "_law_word" = some (some (.ref f_word)))
    (l_word : K.lookup f_word = some ⟨oc_word, od_word, .func (PySem.W.fnOf "_law_word" "_law_word" (defArgs sWord) (defBody sWord) (defScope sWord) .none kV_word dc_word pm_word an_word cd_word ct_word), sl_word⟩)
    (c_word : PySem.W.codeIn K cd_word "_law_word" = true)
    (k_word : PySem.W.keepIn K (.ref f_word) = true)
    (a_hrd : PySem.W.nsIn K mainGlobals "_law_heard" = some (some (.ref f_hrd)))
    (l_hrd : K.lookup f_hrd = some ⟨oc_hrd, od_hrd, .func (PySem.W.fnOf "_law_heard" "_law_heard" (defArgs Kr.sHeard) (defBody Kr.sHeard) (defScope Kr.sHeard) .none kV_hrd dc_hrd pm_hrd an_hrd cd_hrd ct_hrd), sl_hrd⟩)
    (c_hrd : PySem.W.codeIn K cd_hrd "_law_heard" = true)
    (k_hrd : PySem.W.keepIn K (.ref f_hrd) = true)
    (a_odd : PySem.W.nsIn K mainGlobals "_law_odd_word" = some (some (.ref f_odd)))
    (l_odd : K.lookup f_odd = some ⟨oc_odd, od_odd, .func (PySem.W.fnOf "_law_odd_word" "_law_odd_word" (defArgs sOdd) (defBody sOdd) (defScope sOdd) .none kV_odd dc_odd pm_odd an_odd cd_odd ct_odd), sl_odd⟩)
    (c_odd : PySem.W.codeIn K cd_odd "_law_odd_word" = true)
    (k_odd : PySem.W.keepIn K (.ref f_odd) = true)
    (a_inr : PySem.W.nsIn K mainGlobals "_law_in_right" = some (some (.ref f_inr)))
    (l_inr : K.lookup f_inr = some ⟨oc_inr, od_inr, .func (PySem.W.fnOf "_law_in_right" "_law_in_right" (defArgs sIn) (defBody sIn) (defScope sIn) .none kV_inr dc_inr pm_inr an_inr cd_inr ct_inr), sl_inr⟩)
    (c_inr : PySem.W.codeIn K cd_inr "_law_in_right" = true)
    (k_inr : PySem.W.keepIn K (.ref f_inr) = true)
    (a_law : PySem.W.nsIn K mainGlobals "law" = some (some (.ref f_law)))
    (l_law : K.lookup f_law = some ⟨oc_law, od_law, .func (PySem.W.fnOf "law" "law" (defArgs sLaw) (defBody sLaw) (defScope sLaw) .none kV_law dc_law pm_law an_law (.ref cd_law) ct_law), sl_law⟩)
    (c_law : PySem.W.codeIn K (.ref cd_law) "law" = true)
    (k_law : PySem.W.keepIn K (.ref f_law) = true)
    (a_init : PySem.W.findIn K (.ref C) "__init__" = some (some (.ref f_init)))
    (i_init : PySem.W.isFn K (.ref f_init) = true)
    (l_init : K.lookup f_init = some ⟨oc_init, od_init, .func (PySem.W.fnOf "__init__" "Machine.__init__" (defArgs sInit) (defBody sInit) (defScope sInit) .none kV_init dc_init pm_init an_init cd_init ct_init), sl_init⟩)
    (c_init : PySem.W.codeIn K cd_init "Machine.__init__" = true)
    (k_init : PySem.W.keepIn K (.ref f_init) = true)
    (a_item : PySem.W.findIn K (.ref C) "__getitem__" = some (some (.ref f_item)))
    (i_item : PySem.W.isFn K (.ref f_item) = true)
    (j_item : PySem.W.fnIn K f_item = true)
    (l_item : K.lookup f_item = some ⟨oc_item, od_item, .func (PySem.W.fnOf "__getitem__" "Machine.__getitem__" (defArgs sItem) (defBody sItem) (defScope sItem) .none kV_item dc_item pm_item an_item cd_item ct_item), sl_item⟩)
    (c_item : PySem.W.codeIn K cd_item "Machine.__getitem__" = true)
    (k_item : PySem.W.keepIn K (.ref f_item) = true)
    (a_has : PySem.W.findIn K (.ref C) "__contains__" = some (some (.ref f_has)))
    (i_has : PySem.W.isFn K (.ref f_has) = true)
    (l_has : K.lookup f_has = some ⟨oc_has, od_has, .func (PySem.W.fnOf "__contains__" "Machine.__contains__" (defArgs sHas) (defBody sHas) (defScope sHas) .none kV_has dc_has pm_has an_has cd_has ct_has), sl_has⟩)
    (c_has : PySem.W.codeIn K cd_has "Machine.__contains__" = true)
    (k_has : PySem.W.keepIn K (.ref f_has) = true)
    (a_state : PySem.W.findIn K (.ref C) "state" = some (some (.ref f_state)))
    (i_state : PySem.W.isFn K (.ref f_state) = true)
    (l_state : K.lookup f_state = some ⟨oc_state, od_state, .func (PySem.W.fnOf "state" "Machine.state" (defArgs sState) (defBody sState) (defScope sState) .none kV_state dc_state pm_state an_state cd_state ct_state), sl_state⟩)
    (c_state : PySem.W.codeIn K cd_state "Machine.state" = true)
    (k_state : PySem.W.keepIn K (.ref f_state) = true)
    (a_step : PySem.W.findIn K (.ref C) "step" = some (some (.ref f_step)))
    (i_step : PySem.W.isFn K (.ref f_step) = true)
    (l_step : K.lookup f_step = some ⟨oc_step, od_step, .func (PySem.W.fnOf "step" "Machine.step" (defArgs sStep) (defBody sStep) (defScope sStep) .none kV_step dc_step pm_step an_step cd_step ct_step), sl_step⟩)
    (c_step : PySem.W.codeIn K cd_step "Machine.step" = true)
    (k_step : PySem.W.keepIn K (.ref f_step) = true)
    (a_psteps : PySem.W.findIn K (.ref C) "steps" = some (some (.ref p_psteps)))
    (g_psteps : PySem.W.specialIn K (.ref p_psteps) "__get__" = some (some (.builtin "property.__get__")))
    (t_psteps : PySem.W.takesIn K (.ref p_psteps) = some true)
    (q_psteps : PySem.W.recIn K p_psteps "property" = some (.ref f_psteps :: r_psteps))
    (l_psteps : K.lookup f_psteps = some ⟨oc_psteps, od_psteps, .func (PySem.W.fnOf "steps" "Machine.steps" (defArgs sSteps) (defBody sSteps) (defScope sSteps) .none kV_psteps dc_psteps pm_psteps an_psteps cd_psteps ct_psteps), sl_psteps⟩)
    (c_psteps : PySem.W.codeIn K cd_psteps "Machine.steps" = true)
    (k_psteps : PySem.W.keepIn K (.ref f_psteps) = true)
    (a_ptold : PySem.W.findIn K (.ref C) "told" = some (some (.ref p_ptold)))
    (g_ptold : PySem.W.specialIn K (.ref p_ptold) "__get__" = some (some (.builtin "property.__get__")))
    (t_ptold : PySem.W.takesIn K (.ref p_ptold) = some true)
    (q_ptold : PySem.W.recIn K p_ptold "property" = some (.ref f_ptold :: r_ptold))
    (l_ptold : K.lookup f_ptold = some ⟨oc_ptold, od_ptold, .func (PySem.W.fnOf "told" "Machine.told" (defArgs sTold) (defBody sTold) (defScope sTold) .none kV_ptold dc_ptold pm_ptold an_ptold cd_ptold ct_ptold), sl_ptold⟩)
    (c_ptold : PySem.W.codeIn K cd_ptold "Machine.told" = true)
    (k_ptold : PySem.W.keepIn K (.ref f_ptold) = true)
    (lct : K.lookup cd_law = some ⟨oct, odt, .fields vst, slt⟩)
    (v11 : vst[11]? = some (.ref tab))
    (hct : PySem.W.codeHdIn K cd_law tab = true)
    (ntb : K.lookup tab = none)
    (pg : PySem.W.plainGet K C Str.empty = true)
    (hd : PySem.W.hasDictIn K C = true)
    (po : PySem.W.plainOver K C = true)
    (sa : PySem.W.findIn K (.ref C) "__setattr__" = some (some (.builtin "object.__setattr__")))
    (mk : PySem.W.makesIn K C = true)
    (kc : PySem.W.keepIn K (.ref C) = true)
    (n1 : PySem.W.findIn K (.ref C) "_signs" = some none)
    (n2 : PySem.W.findIn K (.ref C) "_steps" = some none)
    (n3 : PySem.W.findIn K (.ref C) "_told" = some none)
    (aL : PySem.W.nsIn K mainGlobals "LETTERS" = some (some (.str "abcdefghijklmnopqrstuvwxyz" tk)))
    (z_len : PySem.W.nsIn K mainGlobals "len" = some none)
    (z_int : PySem.W.nsIn K mainGlobals "int" = some none)
    (z_abs : PySem.W.nsIn K mainGlobals "abs" = some none)
    (z_list : PySem.W.nsIn K mainGlobals "list" = some none)
    (z_tuple : PySem.W.nsIn K mainGlobals "tuple" = some none)
    (z_range : PySem.W.nsIn K mainGlobals "range" = some none)
    (z_repr : PySem.W.nsIn K mainGlobals "repr" = some none)
    (z_isinstance : PySem.W.nsIn K mainGlobals "isinstance" = some none)
    (z_all : PySem.W.nsIn K mainGlobals "all" = some none)
    (z_set : PySem.W.nsIn K mainGlobals "set" = some none)
    (z_bool : PySem.W.nsIn K mainGlobals "bool" = some none)
    (z_str : PySem.W.nsIn K mainGlobals "str" = some none)
    (z_super : PySem.W.nsIn K mainGlobals "super" = some none)
    : ∃ (fd : FuncData) (cs : List (Addr × Addr)), (∀ p ∈ cs, h.get? p.2 = some (PySem.W.tabObj #[]) ∧ K.lookup p.2 = none ∧ PySem.W.CodeHd h p.1 p.2) ∧ (∀ (s : Shared) (v : Value), BindsTo s fd ⟨[v], []⟩ [("_law_script", v)]) ∧
      ∀ base : Heap, K.In base → base.Ns mainGlobals mg → (∀ p ∈ cs, TabB base mg p.1 p.2) → FnG l.prog w K mg base CX0 9 fa fd ["_law_script"] (spLaw K (cs.map fun p => (p.2, lamQ))) := by
  have e := hfa.symm.trans (PySem.W.mg_of X G a_law)
  cases e
  have T : Txt mg := ⟨PySem.W.mg_none_of X G z_len, PySem.W.mg_none_of X G z_int, PySem.W.mg_none_of X G z_abs, PySem.W.mg_none_of X G z_list, PySem.W.mg_none_of X G z_tuple, PySem.W.mg_none_of X G z_range, PySem.W.mg_none_of X G z_repr, PySem.W.mg_none_of X G z_isinstance, PySem.W.mg_none_of X G z_all, PySem.W.mg_none_of X G z_set⟩
  have zB := PySem.W.mg_none_of X G z_bool
  have zI := PySem.W.mg_none_of X G z_int
  have zS := PySem.W.mg_none_of X G z_str
  have zP := PySem.W.mg_none_of X G z_super
  have mL : mg "LETTERS" = some (.str abc tk) := PySem.W.mg_of X G aL
  have M : MT K mg C := ⟨⟨pg, hd, po, sa⟩, n1, n2, n3, PySem.W.mg_of X G aC⟩
  have Y : MetaC K C := ⟨mca, cg, ct, mob, mns⟩
  have O_3 : OexC K G3 := ⟨⟨_, _, _, _, _, _, _, _, _, _, _, _, _, _, _, xL_3, rv_3⟩, sa_3, ex_3, ty_3, kC_3⟩
  have D_3 : KeptC K G3 := ⟨⟨ga_3, gg_3, ex_3, hdc_3⟩, ic_3, ca_3, cg, ct, ob_3⟩
  have R_3 : ErrC l.prog K G3 fe_3 cc_3 cda_3 := ⟨⟨_, _, _, _, _, _, _, _, _, _, _, _, _, _, _, xL_3, rv_3⟩, su_3, ay, ve_3, se_3, ⟨_, _, _, cel_3⟩, ⟨_, _, _, _, _, _, cod_3, v2_3, fl_3⟩, tp⟩
  have O_4 : OexC K G4 := ⟨⟨_, _, _, _, _, _, _, _, _, _, _, _, _, _, _, xL_4, rv_4⟩, sa_4, ex_4, ty_4, kC_4⟩
  have D_4 : KeptC K G4 := ⟨⟨ga_4, gg_4, ex_4, hdc_4⟩, ic_4, ca_4, cg, ct, ob_4⟩
  have R_4 : ErrC l.prog K G4 fe_4 cc_4 cda_4 := ⟨⟨_, _, _, _, _, _, _, _, _, _, _, _, _, _, _, xL_4, rv_4⟩, su_4, ay, ve_4, se_4, ⟨_, _, _, cel_4⟩, ⟨_, _, _, _, _, _, cod_4, v2_4, fl_4⟩, tp⟩
  have Hc : Kr.HearC K mg G0 G1 G2 G3 G4 := ⟨PySem.W.mg_of X G aG0, PySem.W.mg_of X G aG1, PySem.W.mg_of X G aG2, PySem.W.mg_of X G aG3, PySem.W.mg_of X G aG4, D_3, D_4, em_3, em_4, n1_3, n1_4, n2_3, n2_4, n3_3, n3_4, n4_3, n4_4, no_3, no_4, PySem.W.mg_none_of X G z_isinstance⟩
  have F_fromto := fun_mk (st := sFromTo) l_fromto c_fromto k_fromto
  have b_fromto := F_fromto.binds (ps := ["value", "low", "high"]) fun _ _ _ _ _ _ us hl => match us, hl with | [_, _, _], _ => rfl
  have m_fromto := PySem.W.mg_of X G a_fromto
  have F_letrs := fun_mk (st := sAreLetters) l_letrs c_letrs k_letrs
  have b_letrs := F_letrs.binds (ps := ["value", "least", "most"]) fun _ _ _ _ _ _ us hl => match us, hl with | [_, _, _], _ => rfl
  have m_letrs := PySem.W.mg_of X G a_letrs
  have F_signs_ := fun_mk (st := sAreSigns) l_signs_ c_signs_ k_signs_
  have b_signs_ := F_signs_.binds (ps := ["value"]) fun _ _ _ _ _ _ us hl => match us, hl with | [_], _ => rfl
  have m_signs_ := PySem.W.mg_of X G a_signs_
  have F_wrong := fun_mk (st := sWrong) l_wrong c_wrong k_wrong
  have b_wrong := F_wrong.binds (ps := ["signs", "value"]) fun _ _ _ _ _ _ us hl => match us, hl with | [_, _], _ => rfl
  have m_wrong := PySem.W.mg_of X G a_wrong
  have F_chrow := fun_mk (st := sCheckRow) l_chrow c_chrow k_chrow
  have b_chrow := F_chrow.binds (ps := ["signs", "value"]) fun _ _ _ _ _ _ us hl => match us, hl with | [_, _], _ => rfl
  have m_chrow := PySem.W.mg_of X G a_chrow
  have F_ledon := fun_mk (st := sLedOn) l_ledon c_ledon k_ledon
  have b_ledon := F_ledon.binds (ps := ["signs", "steps", "state", "text"]) fun _ _ _ _ _ _ us hl => match us, hl with | [_, _, _, _], _ => rfl
  have m_ledon := PySem.W.mg_of X G a_ledon
  have F_chsig := fun_mk (st := sCheckSigns) l_chsig c_chsig k_chsig
  have b_chsig := F_chsig.binds (ps := ["value"]) fun _ _ _ _ _ _ us hl => match us, hl with | [_], _ => rfl
  have m_chsig := PySem.W.mg_of X G a_chsig
  have F_asteps := fun_mk (st := sAreSteps) l_asteps c_asteps k_asteps
  have b_asteps := F_asteps.binds (ps := ["value", "many"]) fun _ _ _ _ _ _ us hl => match us, hl with | [_, _], _ => rfl
  have m_asteps := PySem.W.mg_of X G a_asteps
  have F_astates := fun_mk (st := sAreStates) l_astates c_astates k_astates
  have b_astates := F_astates.binds (ps := ["value", "many", "last"]) fun _ _ _ _ _ _ us hl => match us, hl with | [_, _, _], _ => rfl
  have m_astates := PySem.W.mg_of X G a_astates
  have F_aansw := fun_mk (st := sAreAnswers) l_aansw c_aansw k_aansw
  have b_aansw := F_aansw.binds (ps := ["value", "many"]) fun _ _ _ _ _ _ us hl => match us, hl with | [_, _], _ => rfl
  have m_aansw := PySem.W.mg_of X G a_aansw
  have F_pen := fun_mk (st := sPen) l_pen c_pen k_pen
  have b_pen := F_pen.binds (ps := ["_law_script"]) fun _ _ _ _ _ _ us hl => match us, hl with | [_], _ => rfl
  have m_pen := PySem.W.mg_of X G a_pen
  have F_draw := fun_mk (st := sDraw) l_draw c_draw k_draw
  have b_draw := F_draw.binds (ps := ["_law_pen_here", "_law_many"]) fun _ _ _ _ _ _ us hl => match us, hl with | [_, _], _ => rfl
  have m_draw := PySem.W.mg_of X G a_draw
  have F_pick := fun_mk (st := sPick) l_pick c_pick k_pick
  have b_pick := F_pick.binds (ps := ["_law_pen_here", "_law_some"]) fun _ _ _ _ _ _ us hl => match us, hl with | [_, _], _ => rfl
  have m_pick := PySem.W.mg_of X G a_pick
  have F_lett := fun_mk (st := sLetters) l_lett c_lett k_lett
  have b_lett := F_lett.binds (ps := ["_law_pen_here"]) fun _ _ _ _ _ _ us hl => match us, hl with | [_], _ => rfl
  have m_lett := PySem.W.mg_of X G a_lett
  have F_plan := fun_mk (st := sPlan) l_plan c_plan k_plan
  have b_plan := F_plan.binds (ps := ["_law_pen_here", "_law_letters_here", "_law_bound"]) fun _ _ _ _ _ _ us hl => match us, hl with | [_, _, _], _ => rfl
  have m_plan := PySem.W.mg_of X G a_plan
  have F_word := fun_mk (st := sWord) l_word c_word k_word
  have b_word := F_word.binds (ps := ["_law_pen_here", "_law_letters_here", "_law_bound"]) fun _ _ _ _ _ _ us hl => match us, hl with | [_, _, _], _ => rfl
  have m_word := PySem.W.mg_of X G a_word
  have F_hrd := fun_mk (st := Kr.sHeard) l_hrd c_hrd k_hrd
  have b_hrd := F_hrd.binds (ps := ["_law_ask"]) fun _ _ _ _ _ _ us hl => match us, hl with | [_], _ => rfl
  have m_hrd := PySem.W.mg_of X G a_hrd
  have F_odd := fun_mk (st := sOdd) l_odd c_odd k_odd
  have b_odd := F_odd.binds (ps := ["_law_pen_here", "_law_letters_here"]) fun _ _ _ _ _ _ us hl => match us, hl with | [_, _], _ => rfl
  have m_odd := PySem.W.mg_of X G a_odd
  have F_inr := fun_mk (st := sIn) l_inr c_inr k_inr
  have b_inr := F_inr.binds (ps := ["_law_made", "_law_letters_here", "_law_odd"]) fun _ _ _ _ _ _ us hl => match us, hl with | [_, _, _], _ => rfl
  have m_inr := PySem.W.mg_of X G a_inr
  have F_law := fun_mk (st := sLaw) l_law c_law k_law
  have b_law := F_law.binds (ps := ["_law_script"]) fun _ _ _ _ _ _ us hl => match us, hl with | [_], _ => rfl
  have F_init := fun_mk (st := sInit) l_init c_init k_init
  have b_init := F_init.binds (ps := ["self", "signs", "steps", "told"]) fun _ _ _ _ _ _ us hl => match us, hl with | [_, _, _, _], _ => rfl
  have F_item := fun_mk (st := sItem) l_item c_item k_item
  have b_item := F_item.binds (ps := ["self", "at"]) fun _ _ _ _ _ _ us hl => match us, hl with | [_, _], _ => rfl
  have F_has := fun_mk (st := sHas) l_has c_has k_has
  have b_has := F_has.binds (ps := ["self", "x"]) fun _ _ _ _ _ _ us hl => match us, hl with | [_, _], _ => rfl
  have F_state := fun_mk (st := sState) l_state c_state k_state
  have b_state := F_state.binds (ps := ["self", "row"]) fun _ _ _ _ _ _ us hl => match us, hl with | [_, _], _ => rfl
  have F_step := fun_mk (st := sStep) l_step c_step k_step
  have b_step := F_step.binds (ps := ["self", "state", "text"]) fun _ _ _ _ _ _ us hl => match us, hl with | [_, _, _], _ => rfl
  have F_psteps := fun_mk (st := sSteps) l_psteps c_psteps k_psteps
  have b_psteps := F_psteps.binds (ps := ["self"]) fun _ _ _ _ _ _ us hl => match us, hl with | [_], _ => rfl
  have F_ptold := fun_mk (st := sTold) l_ptold c_ptold k_ptold
  have b_ptold := F_ptold.binds (ps := ["self"]) fun _ _ _ _ _ _ us hl => match us, hl with | [_], _ => rfl
  refine ⟨PySem.W.fnOf "law" "law" (defArgs sLaw) (defBody sLaw) (defScope sLaw) .none kV_law dc_law pm_law an_law (.ref cd_law) ct_law, [(cd_law, tab)], fun p hp => ?_, fun s v => .of_eq rfl, fun base _ _ TB => ?_⟩
  · rw [List.mem_singleton.mp hp]
    exact ⟨own _ _ _ _ _ _ _ _ l_law rfl rfl lct v11, ntb, PySem.W.codeHd_of_K X hct⟩
  have tb := TB _ (List.mem_singleton.mpr rfl)
  have B_row : ErrB l.prog w K mg base "BadRow" "at" G3 := ⟨O_3, PySem.W.mg_of X G aG3, _, _, ["self", "at"], ini_3, ti_3, ok_rowInit R_3 O_3 no_3 le_3 ce_3 zP, L2.Binds.all fun us hl => match us, hl with | [_, _], _ => rfl⟩
  have B_mach : ErrB l.prog w K mg base "BadMachine" "part" G4 := ⟨O_4, PySem.W.mg_of X G aG4, _, _, ["self", "part"], ini_4, ti_4, ok_machInit R_4 O_4 no_4 le_4 ce_4 zP, L2.Binds.all fun us hl => match us, hl with | [_, _], _ => rfl⟩
  have G_fromto := ok_fromTo (P := l.prog) (w := w) (base := base) F_fromto T zI zB
  have G_fromtoN := ok_fromToN (P := l.prog) (w := w) (base := base) F_fromto T zI zB
  have G_letrs := ok_areLetters (P := l.prog) (w := w) (base := base) F_letrs T zS mL
  have G_signs := ok_areSigns F_signs_ T G_letrs m_letrs k_letrs b_letrs
  have G_chsig := ok_checkSigns F_chsig G_signs m_signs_ k_signs_ b_signs_
  have G_wrong := ok_wrong (P := l.prog) (w := w) (base := base) F_wrong T zS
  have G_wrongB := ok_wrongB (P := l.prog) (w := w) (base := base) F_wrong T zS
  have G_chrow := ok_checkRow F_chrow G_wrong m_wrong k_wrong b_wrong
  have G_chrowB := ok_checkB F_chrow G_wrongB m_wrong k_wrong b_wrong B_row
  have G_ledon := ok_ledOn (P := l.prog) (w := w) (mg := mg) (base := base) F_ledon
  have G_astates := ok_areStates F_astates T G_fromto m_fromto k_fromto b_fromto
  have G_asteps := ok_areSteps F_asteps T G_astates m_astates k_astates b_astates
  have G_aansw := ok_areAnswers (P := l.prog) (w := w) (base := base) F_aansw T zB
  have G_init := ok_init F_init T M G_chsig m_chsig k_chsig b_chsig G_asteps m_asteps k_asteps b_asteps G_aansw m_aansw k_aansw b_aansw
  have G_state := ok_state F_state M G_chrow m_chrow k_chrow b_chrow G_ledon m_ledon k_ledon b_ledon
  have G_stateB := ok_stateB F_state M G_chrowB m_chrow k_chrow b_chrow
  have G_item := ok_item F_item M G_state ⟨a_state, i_state, k_state⟩ b_state
  have G_itemB := ok_itemB F_item M G_stateB ⟨a_state, i_state, k_state⟩ b_state
  have G_stepB := ok_stepB F_step T M G_chrowB m_chrow k_chrow b_chrow G_fromto m_fromto k_fromto b_fromto
  have G_stepN := ok_stepN F_step T M B_mach G_fromtoN m_fromto k_fromto b_fromto
  have G_has := ok_hasB F_has M G_wrongB m_wrong k_wrong b_wrong G_item a_item j_item i_item b_item
  have G_draw := ok_draw (P := l.prog) (w := w) (base := base) F_draw T
  have G_pick := ok_pick F_pick T G_draw m_draw k_draw b_draw
  have G_lett := ok_letters F_lett G_pick m_pick k_pick b_pick
  have G_plan := ok_plan F_plan T G_draw m_draw k_draw b_draw
  have G_word := ok_word F_word T G_draw m_draw k_draw b_draw G_pick m_pick k_pick b_pick
  have G_odd := ok_odd F_odd T G_draw m_draw k_draw b_draw G_pick m_pick k_pick b_pick G_word m_word k_word b_word
  have G_inr := ok_in F_inr T M Y G_has a_has i_has b_has
  have S : Mr l.prog w K mg base C G3 G4 := ⟨M, ⟨_, _, ⟨mk, a_init, i_init, kc⟩, G_init, b_init⟩, ⟨_, _, _, ⟨a_psteps, g_psteps, t_psteps, _, q_psteps⟩, ok_steps F_psteps M, b_psteps⟩, ⟨_, _, _, ⟨a_ptold, g_ptold, t_ptold, _, q_ptold⟩, ok_told F_ptold M, b_ptold⟩,
    ⟨_, _, ⟨a_state, i_state, k_state⟩, G_stateB, b_state⟩, ⟨_, _, ⟨a_step, i_step, k_step⟩, G_stepB, G_stepN, b_step⟩, ⟨_, _, a_item, j_item, i_item, G_itemB, b_item⟩⟩
  exact ok_law T S Hc l_law c_law tb m_hrd k_hrd l_hrd c_hrd b_hrd (ok_pen F_pen T) m_pen k_pen b_pen G_lett m_lett k_lett b_lett G_plan m_plan k_plan b_plan G_odd m_odd k_odd b_odd G_draw m_draw k_draw b_draw G_pick m_pick k_pick b_pick G_inr m_inr k_inr b_inr
end Kx
set_option Elab.async false
open PySem PySem.W PyProof.Rows in
set_option maxRecDepth 100000 in
set_option maxHeartbeats 0 in
theorem PySem.Challenge.cw_rowgames_k19_rows_refused_holds : PySem.Challenge.rw_rowgames_k19_rows_refused.Holds := by
  w_on; o_law; k_head; (case hw => w_witness2)
  k_fill
  refine Kx.walkGT (l := PySem.Challenge.rw_rowgames_k19_rows_refused) (n := 63) (k := 9) (x := "_law_script") (sp := fun cs w => Kx.spLaw _ (cs.map fun p => (p.2, Kx.lamQ))) rfl (by decide) rfl ⟨rfl, by decide, by decide⟩ (by decide +kernel) (fun w h Y => PySem.W.km_in_of Y) ?F (fun cs _ _ a ns hl _ tb hS => ⟨a, ns, rfl, hS, hl, Kx.tabs_of tb, fun _ => rfl⟩)
  case F =>
    intro w mg fa h KX G hmg own
    refine' Kx.all_mk KX G hmg own ?aC ?aG0 ?aG1 ?aG2 ?aG3 ?aG4 ?xL_3 ?rv_3 ?sa_3 ?ex_3 ?ty_3 ?kC_3 ?ga_3 ?gg_3 ?hdc_3 ?ic_3 ?ca_3 ?ob_3 ?ini_3 ?ti_3 ?le_3 ?ce_3 ?no_3 ?su_3 ?ve_3 ?se_3 ?cel_3 ?cod_3 ?v2_3 ?fl_3 ?em_3 ?n1_3 ?n2_3 ?n3_3 ?n4_3 ?xL_4 ?rv_4 ?sa_4 ?ex_4 ?ty_4 ?kC_4 ?ga_4 ?gg_4 ?hdc_4 ?ic_4 ?ca_4 ?ob_4 ?ini_4 ?ti_4 ?le_4 ?ce_4 ?no_4 ?su_4 ?ve_4 ?se_4 ?cel_4 ?cod_4 ?v2_4 ?fl_4 ?em_4 ?n1_4 ?n2_4 ?n3_4 ?n4_4 ?ay ?tp ?cg ?ct ?mca ?mob ?mns ?a_fromto ?l_fromto ?c_fromto ?k_fromto ?a_letrs ?l_letrs ?c_letrs ?k_letrs ?a_signs_ ?l_signs_ ?c_signs_ ?k_signs_ ?a_wrong ?l_wrong ?c_wrong ?k_wrong ?a_chrow ?l_chrow ?c_chrow ?k_chrow ?a_ledon ?l_ledon ?c_ledon ?k_ledon ?a_chsig ?l_chsig ?c_chsig ?k_chsig ?a_asteps ?l_asteps ?c_asteps ?k_asteps ?a_astates ?l_astates ?c_astates ?k_astates ?a_aansw ?l_aansw ?c_aansw ?k_aansw ?a_pen ?l_pen ?c_pen ?k_pen ?a_draw ?l_draw ?c_draw ?k_draw ?a_pick ?l_pick ?c_pick ?k_pick ?a_lett ?l_lett ?c_lett ?k_lett ?a_plan ?l_plan ?c_plan ?k_plan ?a_word ?l_word ?c_word ?k_word ?a_hrd ?l_hrd ?c_hrd ?k_hrd ?a_odd ?l_odd ?c_odd ?k_odd ?a_inr ?l_inr ?c_inr ?k_inr ?a_law ?l_law ?c_law ?k_law ?a_init ?i_init ?l_init ?c_init ?k_init ?a_item ?i_item ?j_item ?l_item ?c_item ?k_item ?a_has ?i_has ?l_has ?c_has ?k_has ?a_state ?i_state ?l_state ?c_state ?k_state ?a_step ?i_step ?l_step ?c_step ?k_step ?a_psteps ?g_psteps ?t_psteps ?q_psteps ?l_psteps ?c_psteps ?k_psteps ?a_ptold ?g_ptold ?t_ptold ?q_ptold ?l_ptold ?c_ptold ?k_ptold ?lct ?v11 ?hct ?ntb ?pg ?hd ?po ?sa ?mk ?kc ?n1 ?n2 ?n3 ?aL ?z_len ?z_int ?z_abs ?z_list ?z_tuple ?z_range ?z_repr ?z_isinstance ?z_all ?z_set ?z_bool ?z_str ?z_super
    (case aC => k_is)
    (case aG0 => k_is)
    (case aG1 => k_is)
    (case aG2 => k_is)
    (case aG3 => k_is)
    (case aG4 => k_is)
    (case xL_3 => k_is)
    (case rv_3 => first | rfl | decide +kernel | k_is)
    (case sa_3 => k_is)
    (case ex_3 => k_is)
    (case ty_3 => k_is)
    (case kC_3 => k_is)
    (case ga_3 => k_is)
    (case gg_3 => k_is)
    (case hdc_3 => k_is)
    (case ic_3 => first | kernel_rfl | decide +kernel | rfl)
    (case ca_3 => k_is)
    (case ob_3 => k_is)
    (case ini_3 => k_is)
    (case ti_3 => k_is)
    (case le_3 => k_is)
    (case ce_3 => k_is)
    (case no_3 => k_is)
    (case su_3 => first | kernel_rfl | decide +kernel | rfl)
    (case ve_3 => k_is)
    (case se_3 => k_is)
    (case cel_3 => k_is)
    (case cod_3 => k_is)
    (case v2_3 => first | rfl | decide +kernel | k_is)
    (case fl_3 => first | rfl | decide +kernel | k_is)
    (case em_3 => first | kernel_rfl | decide +kernel | rfl)
    (case n1_3 => first | kernel_rfl | decide +kernel | rfl)
    (case n2_3 => first | kernel_rfl | decide +kernel | rfl)
    (case n3_3 => first | kernel_rfl | decide +kernel | rfl)
    (case n4_3 => first | kernel_rfl | decide +kernel | rfl)
    (case xL_4 => k_is)
    (case rv_4 => first | rfl | decide +kernel | k_is)
    (case sa_4 => k_is)
    (case ex_4 => k_is)
    (case ty_4 => k_is)
    (case kC_4 => k_is)
    (case ga_4 => k_is)
    (case gg_4 => k_is)
    (case hdc_4 => k_is)
    (case ic_4 => first | kernel_rfl | decide +kernel | rfl)
    (case ca_4 => k_is)
    (case ob_4 => k_is)
    (case ini_4 => k_is)
    (case ti_4 => k_is)
    (case le_4 => k_is)
    (case ce_4 => k_is)
    (case no_4 => k_is)
    (case su_4 => first | kernel_rfl | decide +kernel | rfl)
    (case ve_4 => k_is)
    (case se_4 => k_is)
    (case cel_4 => k_is)
    (case cod_4 => k_is)
    (case v2_4 => first | rfl | decide +kernel | k_is)
    (case fl_4 => first | rfl | decide +kernel | k_is)
    (case em_4 => first | kernel_rfl | decide +kernel | rfl)
    (case n1_4 => first | kernel_rfl | decide +kernel | rfl)
    (case n2_4 => first | kernel_rfl | decide +kernel | rfl)
    (case n3_4 => first | kernel_rfl | decide +kernel | rfl)
    (case n4_4 => first | kernel_rfl | decide +kernel | rfl)
    (case ay => k_is)
    (case tp => first | rfl | decide +kernel | k_is)
    (case cg => k_is)
    (case ct => k_is)
    (case mca => k_is)
    (case mob => k_is)
    (case mns => first | kernel_rfl | decide +kernel | rfl)
    (case a_fromto => k_is)
    (case l_fromto => k_is)
    (case c_fromto => k_is)
    (case k_fromto => k_is)
    (case a_letrs => k_is)
    (case l_letrs => k_is)
    (case c_letrs => k_is)
    (case k_letrs => k_is)
    (case a_signs_ => k_is)
    (case l_signs_ => k_is)
    (case c_signs_ => k_is)
    (case k_signs_ => k_is)
    (case a_wrong => k_is)
    (case l_wrong => k_is)
    (case c_wrong => k_is)
    (case k_wrong => k_is)
    (case a_chrow => k_is)
    (case l_chrow => k_is)
    (case c_chrow => k_is)
    (case k_chrow => k_is)
    (case a_ledon => k_is)
    (case l_ledon => k_is)
    (case c_ledon => k_is)
    (case k_ledon => k_is)
    (case a_chsig => k_is)
    (case l_chsig => k_is)
    (case c_chsig => k_is)
    (case k_chsig => k_is)
    (case a_asteps => k_is)
    (case l_asteps => k_is)
    (case c_asteps => k_is)
    (case k_asteps => k_is)
    (case a_astates => k_is)
    (case l_astates => k_is)
    (case c_astates => k_is)
    (case k_astates => k_is)
    (case a_aansw => k_is)
    (case l_aansw => k_is)
    (case c_aansw => k_is)
    (case k_aansw => k_is)
    (case a_pen => k_is)
    (case l_pen => k_is)
    (case c_pen => k_is)
    (case k_pen => k_is)
    (case a_draw => k_is)
    (case l_draw => k_is)
    (case c_draw => k_is)
    (case k_draw => k_is)
    (case a_pick => k_is)
    (case l_pick => k_is)
    (case c_pick => k_is)
    (case k_pick => k_is)
    (case a_lett => k_is)
    (case l_lett => k_is)
    (case c_lett => k_is)
    (case k_lett => k_is)
    (case a_plan => k_is)
    (case l_plan => k_is)
    (case c_plan => k_is)
    (case k_plan => k_is)
    (case a_word => k_is)
    (case l_word => k_is)
    (case c_word => k_is)
    (case k_word => k_is)
    (case a_hrd => k_is)
    (case l_hrd => k_is)
    (case c_hrd => k_is)
    (case k_hrd => k_is)
    (case a_odd => k_is)
    (case l_odd => k_is)
    (case c_odd => k_is)
    (case k_odd => k_is)
    (case a_inr => k_is)
    (case l_inr => k_is)
    (case c_inr => k_is)
    (case k_inr => k_is)
    (case a_law => k_is)
    (case l_law => k_is)
    (case c_law => k_is)
    (case k_law => k_is)
    (case a_init => k_is)
    (case i_init => k_is)
    (case l_init => k_is)
    (case c_init => k_is)
    (case k_init => k_is)
    (case a_item => k_is)
    (case i_item => k_is)
    (case j_item => k_is)
    (case l_item => k_is)
    (case c_item => k_is)
    (case k_item => k_is)
    (case a_has => k_is)
    (case i_has => k_is)
    (case l_has => k_is)
    (case c_has => k_is)
    (case k_has => k_is)
    (case a_state => k_is)
    (case i_state => k_is)
    (case l_state => k_is)
    (case c_state => k_is)
    (case k_state => k_is)
    (case a_step => k_is)
    (case i_step => k_is)
    (case l_step => k_is)
    (case c_step => k_is)
    (case k_step => k_is)
    (case a_psteps => k_is)
    (case g_psteps => k_is)
    (case t_psteps => k_is)
    (case q_psteps => k_is)
    (case l_psteps => k_is)
    (case c_psteps => k_is)
    (case k_psteps => k_is)
    (case a_ptold => k_is)
    (case g_ptold => k_is)
    (case t_ptold => k_is)
    (case q_ptold => k_is)
    (case l_ptold => k_is)
    (case c_ptold => k_is)
    (case k_ptold => k_is)
    (case lct => k_is)
    (case v11 => first | rfl | decide +kernel | k_is)
    (case hct => first | kernel_rfl | decide +kernel | rfl)
    (case ntb => first | kernel_rfl | decide +kernel | rfl)
    (case pg => k_is)
    (case hd => k_is)
    (case po => k_is)
    (case sa => k_is)
    (case mk => k_is)
    (case kc => k_is)
    (case n1 => k_is)
    (case n2 => k_is)
    (case n3 => k_is)
    (case aL => k_is)
    (case z_len => k_is)
    (case z_int => k_is)
    (case z_abs => k_is)
    (case z_list => k_is)
    (case z_tuple => k_is)
    (case z_range => k_is)
    (case z_repr => k_is)
    (case z_isinstance => k_is)
    (case z_all => k_is)
    (case z_set => k_is)
    (case z_bool => k_is)
    (case z_str => k_is)
    (case z_super => k_is)
#print axioms PySem.Challenge.cw_rowgames_k19_rows_refused_holds
