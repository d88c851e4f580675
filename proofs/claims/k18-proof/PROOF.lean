import PyProof.Rows.All
import Wide.All
import OpenK.AllK
import Wide.FinOn
import HandS.ForMost
import HandS.Defaults
import HandS.MakeKwOnly
import HandS.Property
import HandS.Strs
import PyProof.StrWalks
import HandS.EndBits
import PyProof.ReprRoads
import HandS.Walk
import HandS.StrMore
import HandS.RaiseOp
import HandS.Codes
import HandS.IsInst
import PySem.Challenge.RW_rowgames_k18_machines_refused
import HandS.WordsExc
import PyProof.ReprLen
import HandS.ExcInit
import KE.KExcSuper
import HandS.ExcValue
import HandS.ExcField
import KE.KExcIs
import PyProof.StrOps2
set_option Elab.async false
set_option maxRecDepth 100000
/-! Rules of my own over the hand layer: what a class of one's own says of len, [ ], in; a method called by keywords alone. -/
namespace Rg
open PySem L2 PySem.Spec PyProof.Rows
theorem rvRef (a : Addr) : RelV (.ref a) (Value.ref a) := rfl
section
variable {X : Cx} {CX : CXT} {k : Nat} {C f : Addr} {fd : FuncData} {ps : List Str} {sp : Sp} {E : XK} {pins : List (Addr × Obj)} {σ : L2.St} {H : Hp} {s : Shared}

/-- a def of the text, run one step further in -/
theorem runIn {Q : VK} {us : List Value} {vs : List V} (F : FnOk X.prog X.w X.K X.mg X.base CX k f fd ps sp) (room : Room (k + 1) X.A) (bd : Binds X.K fd ps []) (ex : Passes CX X E)
    (I : Inv X pins σ H s) (r : Vals vs us) (want : sp vs H Q E) : wpAny (model X.prog X.w) X.A.in1 (call (.ref f) us) (EP X pins σ Q) X.xe s := by
  have len : us.length = ps.length := r.length.symm.trans (F.len _ _ _ _ want)
  have bt : BindsTo s fd ⟨us, []⟩ (ps.zip us) := by
    have z := bd s us I.kIn (by rw [List.append_nil]; exact len)
    rw [List.append_nil] at z
    exact z
  refine wpAny_call (codeAny_mono (F.run X.A.in1 X.stack s H ⟨us, []⟩ us vs Q E room.in1 I.env0.in1 bt r want) fun res s' got => ?_)
  rcases res with e | fl
  · exact ex pins σ H s e s' I got
  · cases fl <;> first | exact I.after got | exact False.elim got

/-- the instance at a, as the walk's lemmas want it -/
theorem instAt {a dx : Addr} {fs : List (Str × V)} (I : Inv X pins σ H s) (e : H a = some (.ins C dx fs)) : ∃ od, PySem.W.InstAt s.heap a (PySem.W.instObj C dx) C od := by
  obtain ⟨mA, O, _⟩ := ins_get I.hok e
  obtain ⟨od, J, _⟩ := O.look
  exact ⟨od, J⟩

/-- len(o) -/
def rLen (C : Addr) (sp : Sp) (E : XK) : List V → Hp → VK → Prop := fun xs H Q => ∃ a dx fs, xs = [.ref a] ∧ H a = some (.ins C dx fs) ∧ sp [.ref a] H (fun v H' => ∃ n : Int, v = .int n ∧ 0 ≤ n ∧ n < 2 ^ 63 ∧ Q (.int n) H') E
theorem cr_len (F : FnOk X.prog X.w X.K X.mg X.base CX k f fd ps sp) (room : Room (k + 1) X.A) (bd : Binds X.K fd ps []) (ex : Passes CX X E)
    (at_ : PySem.W.findIn X.K (.ref C) "__len__" = some (some (.ref f))) (fn : PySem.W.isFn X.K (.ref f) = true) : CallR X (.builtin "len") (rLen C sp E) := by
  rintro pins s σ H xs us Q I r ⟨a, dx, fs, rfl, e, want⟩
  obtain ⟨od, J⟩ := instAt I e
  obtain ⟨m, fr⟩ := I.fr
  cases r with
  | cons r0 r1 =>
    cases r1
    cases r0
    refine PySem.W.len_K fr I.ok.mod.kin J at_ fn (thn (runIn F room bd ex I (.cons (rvRef a) .nil) want) ?_)
    rintro u s' ⟨v, H', I', rv, n, rfl, n0, n1, q⟩
    obtain ⟨t, rfl⟩ := rv
    exact ⟨⟨n0, n1⟩, .int n, H', I'.tok _, ⟨_, rfl⟩, q⟩

/-- o[i] -/
def rItem (C : Addr) (sp : Sp) (E : XK) : R2 := fun x y H Q => ∃ a dx fs, x = .ref a ∧ H a = some (.ins C dx fs) ∧ sp [x, y] H Q E
theorem pe_item {a b : Expr} {ta tb : TE} {pos : Pos} (F : FnOk X.prog X.w X.K X.mg X.base CX k f fd ps sp) (room : Room (k + 1) X.A) (bd : Binds X.K fd ps []) (ex : Passes CX X E)
    (at_ : PySem.W.findIn X.K (.ref C) "__getitem__" = some (some (.ref f))) (fi : PySem.W.fnIn X.K f = true) (fn : PySem.W.isFn X.K (.ref f) = true) (ha : PE X a ta) (hb : PE X b tb)
    (hs : ∀ o i, subscripted b true o i = runValue (.builtin "lifetime.subscript" ⟨[o, i], []⟩) := by intro _ _; with_unfolding_all rfl) : PE X (.Subscript a b pos) (tOp (rItem C sp E) ta tb) := by
  refine ⟨fun pins s σ H Q I h => Subscript_ (binT ha hb I h ?_)⟩
  rintro v u s2 x y H2 I2 rx ry ⟨o, dx, fs, rfl, e, want⟩
  obtain rfl : v = Value.ref o := rx
  obtain ⟨od, J⟩ := instAt I2 e
  obtain ⟨m, fr⟩ := I2.fr
  exact PySem.W.sub_K fr I2.ok.mod.kin J at_ fi fn (runIn F room bd ex I2 (.cons (rvRef o) (.cons ry .nil)) want) (hs _ _)

/-- x in o, x not in o -/
def rHas (neg : Bool) (C : Addr) (sp : Sp) (E : XK) : R2 := fun x y H Q => ∃ a dx fs, y = .ref a ∧ H a = some (.ins C dx fs) ∧ sp [y, x] H (fun v H' => ∃ b, v = .bl b ∧ Q (.bl (if neg then !b else b)) H') E
theorem op_has (F : FnOk X.prog X.w X.K X.mg X.base CX k f fd ps sp) (room : Room k X.A) (bd : Binds X.K fd ps []) (ex : Passes CX X E)
    (at_ : PySem.W.findIn X.K (.ref C) "__contains__" = some (some (.ref f))) (fn : PySem.W.isFn X.K (.ref f) = true) : OpR X (compareOp .In) (rHas false C sp E) := by
  rintro pins s σ H x y v u Q I rx ry ⟨a, dx, fs, rfl, e, want⟩
  obtain rfl : u = Value.ref a := ry
  obtain ⟨od, J⟩ := instAt I e
  obtain ⟨m, fr⟩ := I.fr
  refine PySem.W.in_K fr I.ok.mod.kin J at_ fn (thn (run_fn (ds := []) (dvs := []) F room bd .nil ex I (.cons (rvRef a) (.cons rx .nil)) want) ?_)
  rintro z s' ⟨v', H', I', rv, b, rfl, q⟩
  obtain rfl : z = Value.bool b := rv
  exact wpAny_truthy_bool ⟨.bl b, H', I', rfl, q⟩
theorem op_hasnt (F : FnOk X.prog X.w X.K X.mg X.base CX k f fd ps sp) (room : Room k X.A) (bd : Binds X.K fd ps []) (ex : Passes CX X E)
    (at_ : PySem.W.findIn X.K (.ref C) "__contains__" = some (some (.ref f))) (fn : PySem.W.isFn X.K (.ref f) = true) : OpR X (compareOp .NotIn) (rHas true C sp E) := by
  rintro pins s σ H x y v u Q I rx ry ⟨a, dx, fs, rfl, e, want⟩
  obtain rfl : u = Value.ref a := ry
  obtain ⟨od, J⟩ := instAt I e
  obtain ⟨m, fr⟩ := I.fr
  refine PySem.W.notIn_K fr I.ok.mod.kin J at_ fn (thn (run_fn (ds := []) (dvs := []) F room bd .nil ex I (.cons (rvRef a) (.cons rx .nil)) want) ?_)
  rintro z s' ⟨v', H', I', rv, b, rfl, q⟩
  obtain rfl : z = Value.bool b := rv
  exact wpAny_truthy_bool ⟨.bl (!b), H', I', rfl, q⟩

/-- o.m(k = v, ..), no value by place -/
def tMethK (C : Addr) (m : Str) (sp : Sp) (gV : List V → List V → List V) (n : Nat) (E : XK) (ta : TE) (tk : TA) : TE := fun σ H Q => ta σ H fun x H1 => ∃ a dx fs, x = .ref a ∧ H1 a = some (.ins C dx fs) ∧ fs.lookup m = none ∧
  tk σ H1 fun zs H2 => zs.length = n ∧ sp (gV [x] zs) H2 Q E
theorem pe_methK {pl : Sem Bool} {o : Expr} {m : Str} {kws : List Keyword} {ks : List Str} {ta : TE} {tk : TA} {pos apos : Pos} {g : List Value → List Value → List Value} {gV : List V → List V → List V}
    (he : PE X o ta) (c : Cls X.K C) (hm : Meth X.K C m f) (F : FnOk X.prog X.w X.K X.mg X.base CX k f fd ps sp) (room : Room k X.A) (kb : KBn X.K fd ps 1 ks g gV) (ex : Passes CX X E) (hk : PK X kws tk)
    (hall : (backToKw pos (keywordEach kws X.env)).all (·.1.isSome) = true := by rfl) (hks : (backToKw pos (keywordEach kws X.env)).filterMap (·.1) = ks := by rfl)
    (hpl : ((backTo pos (starEach [] X.env)).any (·.1) || (backToKw pos (keywordEach kws X.env)).any (·.1.isNone)) = false := by rfl)
    (ht : eval (.Call (.Attribute o m apos) [] kws pos) X.env = (do
      let ov ← eval o X.env
      standAt apos.atName
      let (f, first) ← holding [ov] (getMethod ov m pl)
      callWith pos f first (backTo pos (starEach [] X.env)) (backToKw pos (keywordEach kws X.env))) := by rfl) :
    PE X (.Call (.Attribute o m apos) [] kws pos) (tMethK C m sp gV ks.length E ta tk) := by
  refine ⟨fun pins s σ H Q I h => PySem.W.methodCall_KW (pl := pl) (thn (he.run pins s σ H _ I h) ?_) ht⟩
  rintro u s1 ⟨x, H1, I1, rx, a, dx, fs, rfl, e, no, q⟩
  obtain rfl : u = Value.ref a := rx
  refine getmeth_ok I1 e c hm no (PySem.W.callWith_KW0 (first := [.ref a]) (h₀ := X.base) I1.ok.mod.kin hm.kp hall (thn (hk.run pos pins s1 σ H1 _ I1 q) ?_) hpl)
  rintro ws s2 ⟨zs, H2, I2, rz, lz, want⟩
  refine ⟨I2.kIn, ?_⟩
  rw [hks]
  have lw : ws.length = ks.length := rz.length.symm.trans lz
  have rr : Vals (gV [V.ref a] zs) (g [Value.ref a] ws) := kb.rel (.cons (rvRef a) .nil) rz
  refine wpAny_call (codeAny_mono (F.run X.A X.stack s2 H2 ⟨[.ref a], ks.zip ws⟩ (g [.ref a] ws) (gV [.ref a] zs) Q E room I2.env0 (kb.to s2 [.ref a] ws I2.kIn rfl lw) rr want) fun res s' got => ?_)
  rcases res with er | fl
  · exact ex pins σ H2 s2 er s' I2 got
  · cases fl <;> first | exact I2.after got | exact False.elim got
end
end Rg
set_option Elab.async false
set_option maxRecDepth 100000
/-! len(set(text)) where no sign stands twice. -/
namespace Rg
open PySem L2 PySem.Spec PyProof.Rows
section
variable {prog : Program} {w : World} {A : Around}
/-- the signs of a text, each a text -/
def signs (x : Str) : List Str := x.cps.toList.map fun c => ⟨#[c]⟩
theorem signs_len (x : Str) : (signs x).length = x.cps.size := by unfold signs; simp
theorem signAt {x : Str} {i : Nat} {v : Value} (h : SignAt x i v) : ∃ z t, (signs x)[i]? = some z ∧ v = .str z t := by
  obtain ⟨c, u, e, rfl⟩ := h
  refine ⟨⟨#[c]⟩, u, ?_, rfl⟩
  unfold signs
  rw [List.getElem?_map, Array.getElem?_toList, e] <;> rfl
theorem take_has {zs : List Str} {i : Nat} {z : Str} (e : zs[i]? = some z) (k : Str) : ((zs.take i).any (· == k) || decide (k = z)) = (zs.take (i + 1)).any (· == k) := by
  rw [List.take_add_one, e, List.any_append]
  congr 1
  by_cases h : k = z
  · subst h; simp
  · have h' : (z == k) = false := by simpa using fun q : z = k => h q.symm
    simp [h, h']
theorem take_no {zs : List Str} {i : Nat} {z : Str} (nd : zs.Nodup) (e : zs[i]? = some z) : (zs.take i).any (· == z) = false := by
  rw [Bool.eq_false_iff]
  intro q
  obtain ⟨y, hy, ey⟩ := List.any_eq_true.mp q
  have : y = z := by simpa using ey
  subst this
  obtain ⟨j, hj, ej⟩ := List.getElem_of_mem hy
  rw [List.length_take] at hj
  obtain ⟨hi, ei⟩ := List.getElem?_eq_some_iff.mp e
  rw [List.getElem_take] at ej
  exact absurd (ej.trans ei.symm) (List.pairwise_iff_getElem.mp nd j i (by omega) hi (by omega))

/-- the loop of set(..) over a walk that hands out the texts zs -/
theorem fill {R : Result → Shared → Prop} {it S : Addr} {fp wr : List Addr} {G : Array GenState → Array GenState → Prop} {n : Nat} {P : Nat → Value → Prop} {St : Nat → Shared → Prop}
    (W : WalksS prog w A.in1 it fp wr G n P St) (far : S ∉ fp) (zs : List Str) (nd : zs.Nodup) (zn : zs.length = n) (few : n + 1 < scanBound) (val : ∀ i v, P i v → ∃ z t, zs[i]? = some z ∧ v = .str z t) (j : Nat) :
    ∀ (i : Nat) (s : Shared), i + j = n → St i s → s.heap.SetOf (PySem.strKind prog w) S (fun k => (zs.take i).any (· == k)) i →
      (∀ s', Moved (S :: wr) G s s' → s'.heap.SetOf (PySem.strKind prog w) S (fun k => (zs.take n).any (· == k)) n → R (.ok (.ret .none)) s') →
      codeAny (model prog w) A (.builtin "set.update.loop" ⟨[.ref S, .ref it], []⟩) R s := by
  have far' : S ∉ wr := fun q => far (W.sub _ q)
  have more : ∀ b ∈ wr, b ∈ S :: wr := fun _ q => List.mem_cons_of_mem _ q
  have keepS : ∀ {s s' : Shared} {f : Str → Bool} {m : Nat}, Moved wr G s s' → s.heap.SetOf (PySem.strKind prog w) S f m → s'.heap.SetOf (PySem.strKind prog w) S f m :=
    fun mv ⟨o, es, ep, t, ho, r⟩ => ⟨o, es, ep, t, mv.heap S _ far' ho, r⟩
  induction j with
  | zero =>
    intro i s hi st hS out
    obtain rfl : i = n := by omega
    refine codeAny_builtin PyProof.Rows.F.entry_set_update_loop ?_; rw [Around.under_plainId PyProof.Rows.F.plain_set_update_loop _]
    show wpAny _ A.in1 (pyNext (.ref it) >>= _) _ _ s; refine wpAny_bind (W.done s _ _ st fun s' mv => ?_)
    exact wpAny_pure (out s' (mv.mono more) (keepS mv hS))
  | succ j ih =>
    intro i s hi st hS out
    refine codeAny_builtin PyProof.Rows.F.entry_set_update_loop ?_; rw [Around.under_plainId PyProof.Rows.F.plain_set_update_loop _]
    show wpAny _ A.in1 (pyNext (.ref it) >>= _) _ _ s; refine wpAny_bind (W.item i s _ _ (by omega) st fun v s' hP st' mv => ?_)
    obtain ⟨z, t, ez, rfl⟩ := val i v hP
    have hS' := keepS mv hS
    show wpAny _ A.in1 (holding [Value.str z t] (setAdd S (.str z t)) >>= _) _ _ s'
    refine wpAny_bind (wpAny_holding ?_); unfold setAdd; refine wpAny_holding (wpAny_bind ((PySem.strKind prog w).pyHash (k := z) (strKind_is _ _ _ _) ?_))
    refine wpAny_setAddHashed_of (knd := PySem.strKind prog w) (s := { s' with toks := s'.toks + 1 }) (strKind_is _ _ _ _) rfl hS' (by omega) fun h' same new => ?_
    have new' : h'.SetOf (PySem.strKind prog w) S (fun k => (zs.take (i + 1)).any (· == k)) (i + 1) :=
      SetOf_congr new (fun k => take_has ez k) (by rw [take_no nd ez]; rfl)
    have other : ∀ b, b ≠ S → ∀ o, s'.heap.get? b = some o → h'.get? b = some o := fun b hb o e => (same.2 b hb).trans e
    refine wpAny_pure ⟨plainId_quiet PyProof.Rows.F.plain_set_update_loop _, ih (i + 1) _ (by omega) (W.frame _ s' _ _ st' (Nat.le_succ _) fun b hb o e => other b (fun q => far (q ▸ hb)) o e) new' fun s2 mv2 hS2 => ?_⟩
    exact out s2 (Moved.trans W.gtrans ((mv.mono more).then_heap (Nat.le_succ _) fun b o hb e => other b (fun q => hb (q ▸ List.mem_cons_self)) o e) mv2) hS2
end

section
variable {prog : Program} {w : World} {A : Around} {E : Value → Shared → Prop} {s : Shared}
abbrev bare (led : Bool) : Obj := { cls := .type "set", dict := none, data := .set #[] 0 (.fresh 0 0 led) }
set_option maxHeartbeats 3200000 in
theorem set_text {x : Str} {t : Tok} {Q : Value → Shared → Prop} (calm : A.handled = none) (nd : (signs x).Nodup) (few : x.cps.size + 1 < scanBound)
    (out : ∀ (h' : Heap) (tk : Nat), h'.SetOf (PySem.strKind prog w) s.heap.objs.size (fun k => ((signs x).take x.cps.size).any (· == k)) x.cps.size →
      (∀ b o, s.heap.get? b = some o → h'.get? b = some o) → Q (.ref s.heap.objs.size) { s with heap := h', toks := tk }) :
    wpAny (model prog w) A (call (.type "set") [.str x t]) Q E s := by
  obtain ⟨c, tl, hmro⟩ := PySem.F.called_set.mro
  have hmade := PySem.F.called_set.made
  have hsub := PySem.F.called_set.sub
  refine wpAny_call (codeAny_of_tree ?_); show wpAny _ _ (callAny (.type "set") _) _ _ _
  refine wpAny_pure ⟨Code.quiet_builtin _ (by decide +kernel), codeAny_builtin PySem.F.entry_type_call ?_⟩
  rw [Around.under_plain (weight_type_call_type "set" [.str x t] []) rfl]
  have h1 := PySem.F.called_set.notType
  have h2 := PySem.F.called_set.canCreate
  have hct := PySem.F.typeCall_set_1 (.str x t)
  repeat (any_goals (first | assumption | wp_step))
  refine codeAny_mono (code_set_new_1 (.str x t) (E := E) (Q₁ := fun v s1 => ∃ led : Bool, v = .ref s.heap.objs.size ∧ s1 = { s with heap := s.heap.push (bare led) }) fun led => ⟨led, rfl, rfl⟩) fun r s1 got => ?_
  rcases r with e | fl
  · exact got
  cases fl <;> first | exact got.elim | skip
  obtain ⟨led, rfl, rfl⟩ := got
  have hS : (s.heap.push (bare led)).get? s.heap.objs.size = some (bare led) := Heap.get?_push_size _ rfl
  have hT : Shared.TypeIs { s with heap := s.heap.push (bare led) } (.ref s.heap.objs.size) "set" := ⟨_, hS, rfl⟩
  have hli := PySem.F.called_set.init.lookup
  have hbi := PySem.F.called_set.init.bind (.ref s.heap.objs.size)
  repeat (any_goals (first | assumption | wp_step))
  refine codeAny_mono (codeAny_call_builtin (R := wants (fun r s2 => r = .none ∧ ∃ h' tk, s2 = { s with heap := h', toks := tk } ∧ h'.SetOf (PySem.strKind prog w) s.heap.objs.size (fun k => ((signs x).take x.cps.size).any (· == k)) x.cps.size ∧
      (∀ b o, s.heap.get? b = some o → h'.get? b = some o)) E) PySem.F.called_set.init.plain PySem.F.entry_set_init (check_set_init_1 hT ?_)) fun r2 s2 got2 => ?_
  · have e1 := PySem.F.sub_str_set
    have e2 := PySem.F.sub_str_frozenset
    unfold Builtin.«set.__init__» noKeywords Builtin.Frozenset.updateFrom
    generalize hPI : pyIter = PI
    wp_walk
    subst hPI
    refine wpAny_pyIter_str fun o St W st0 => wpAny_bind (wpAny_runValue ?_)
    have lt : s.heap.objs.size < (s.heap.push (bare led)).objs.size := by rw [Heap.size_push]; exact Nat.lt_succ_self _
    have apart : s.heap.objs.size ∉ [(s.heap.push (bare led)).objs.size] := fun q => absurd (List.mem_singleton.mp q) (Nat.ne_of_lt lt)
    refine fill ((W _ (by simp [calm])).toS) apart (signs x) nd (signs_len x) few (fun i v q => signAt q) x.cps.size 0 _ (Nat.zero_add _) st0 ?_ ?_
    · exact SetOf_congr ((setObjOf_fresh (knd := PySem.strKind prog w) led).setOf (Heap.get?_push_of_some _ hS) (by unfold scanBound; omega)) (fun _ => rfl) rfl
    · rintro ⟨h', g', d', tk', os'⟩ mv hS'
      obtain rfl : g' = s.gens := mv.gens
      obtain rfl : d' = s.drawn := mv.drawn
      obtain rfl : os' = s.os := mv.os
      refine wpAny_pure (wpAny_pure ⟨rfl, h', tk', rfl, hS', fun b o q => ?_⟩)
      have nb : b < s.heap.objs.size := Heap.lt_size q
      refine mv.heap b o ?_ (Heap.get?_push_of_some _ (Heap.get?_push_of_some _ q))
      intro m
      rcases List.mem_cons.mp m with e | m
      · exact absurd e (Nat.ne_of_lt nb)
      · exact absurd (List.mem_singleton.mp m) (Nat.ne_of_lt (Nat.lt_trans nb lt))
  · rcases r2 with e | fl2
    · exact got2
    cases fl2 <;> first | exact got2.elim | skip
    obtain ⟨rfl, h', tk, rfl, hS', keep⟩ := got2
    repeat (any_goals (first | assumption | wp_step))
    exact out _ _ hS' keep
end

section
variable {X : Cx}
/-- len(set(x)), x a text of few signs, none twice -/
def tLenSet (ta : TE) : TE := fun σ H Q => ta σ H fun v H1 => ∃ x : Str, v = .str x ∧ (signs x).Nodup ∧ x.cps.size ≤ 100 ∧ Q (.int x.cps.size) H1
theorem pe_lenSetT {a : Expr} {ta : TE} {p p2 q pos : Pos} (hc : X.calm = true) (g1 : Gl X "len") (m1 : X.mg "len" = none) (g2 : Gl X "set") (m2 : X.mg "set" = none) (ha : PE X a ta)
    (na : starEach [a] X.env = (false, eval a X.env) :: starEach [] X.env := by rfl) : PE X (.Call (.Name "len" p) [.Call (.Name "set" p2) [a] [] q] [] pos) (tLenSet ta) := by
  refine ⟨fun pins s σ H Q I h => Call_ (ld_blt I g1 m1 PySem.boot_len (callWith_builtin1 (args_cons (Call_ (ld_blt I g2 m2 boot_set (callWith_type1 (args_cons (thn (ha.run pins s σ H _ I h) ?_) na) na rfl))) rfl) rfl rfl))⟩
  rintro v s1 ⟨y, H1, I1, r1, x, rfl, nd, few, q1⟩
  obtain ⟨t, rfl⟩ := r1
  refine args_nil (set_text (I1.ok.hd hc) nd (by unfold scanBound; omega) fun h' tk hS keep => args_nil ?_)
  obtain ⟨o, es, ep, tb, ho, hex, hd, _, _, _, hf, hn⟩ := hS
  have I2 : Inv X pins σ H1 { s1 with heap := h', toks := tk } := I1.kept fun b o e => keep b o e
  exact call_len_set ho hex hd hf (by rw [hn]; omega) ⟨.int x.cps.size, H1, I2.tok _, ⟨_, by rw [hn]⟩, q1⟩
end
end Rg
set_option Elab.async false
set_option maxRecDepth 100000
/-! A def that is told that no repr runs around it; repr of data; the law's end with such a def. -/
namespace Rg
open PySem L2 PySem.Spec PyProof.Rows

/-- as FnOk, where nothing guards around the call -/
structure FnG (P : Program) (w : World) (K : PySem.W.Frag) (mg : Str → Option Value) (base : Heap) (CX : CXT) (k : Nat) (f : Addr) (fd : FuncData) (ps : List Str) (sp : Sp) : Prop where
  len : ∀ vs H Q E, sp vs H Q E → vs.length = ps.length
  run : ∀ (A : Around) (outer : List Env) (s : Shared) (H : Hp) (args : Args) (us : List Value) (vs : List V) (Q : VK) (E : XK), A.guards = some [] → Room k A → Env0 P w K mg base A outer s H → BindsTo s fd args (ps.zip us) → Vals vs us → sp vs H Q E →
    codeAny (model P w) A (.call (.ref f) args) (CR CX outer P w H s Q E) s

section
variable {P : Program} {w : World} {K : PySem.W.Frag} {mg : Str → Option Value} {base : Heap}
theorem funG {x qual : Str} {st : Stmt} {f : Addr} {fd : FuncData} {N ps : List Str} {k : Nat} {sp : Sp} (F : Fun K x qual st f fd) (S : FnScope N ps (defScope st)) (len : ∀ vs H Q E, sp vs H Q E → vs.length = ps.length)
    (body : ∀ (cdv : Value) (A : Around) (outer : List Env) (s : Shared) (H : Hp) (vs : List V) (Q : VK) (E : XK), A.guards = some [] → Room k (A.deeper (envOfC qual (defScope st) s.heap.objs.size f cdv)) → sp vs H Q E →
      ∃ t, PSs (cxOf CX0 P w K mg base N qual (defScope st) f cdv A outer s H E).nox (defBody st) t ∧ t { nx := fun _ H' => Q .non H', rt := Q } (start N vs) H) : FnG P w K mg base CX0 (k + 1) f fd ps sp := by
  obtain ⟨oc, od, kV, doc, pm, an, cdv, ct, osl, rfl, lk, hcd⟩ := F.ex
  refine ⟨len, fun A outer s H args us vs Q E hg hr e0 hb r want => ?_⟩
  have there : ∀ b o, base.get? b = some o → s.heap.get? b = some o := fun b o e => (e0.bs b o e).1
  have KX := e0.mod.kin.keeps there
  have kinds : ∀ y ∈ ps.zip us, (defScope st).names.lookup y.1 = some .local ∨ ((defScope st).names.lookup y.1 = some .cell ∧ ((cellsFrom (s.heap.objs.size + 1) (defScope st).names []).lookup y.1).isSome = true) := by
    rintro ⟨n, v⟩ hy
    rcases S.par n (List.of_mem_zip hy).1 with q | q
    · exact Or.inl q
    · exact Or.inr ⟨q, PySem.W.cellsFrom_some _ _ _ (Or.inl q)⟩
  refine codeAny_call_function hr.depth (KX _ _ lk) rfl S.co S.gen rfl (PySem.W.codeRec_of KX hcd) (hb _ _ _ _ (wpAny_newFunctionEnv_cells S.kind kinds ?_))
  intro env he s1 x
  subst he
  obtain ⟨t, ht, q⟩ := body cdv A outer s H vs Q E hg (hr.deeper _) want
  have I : Inv (cxOf CX0 P w K mg base N qual (defScope st) f cdv A outer s H E) [] (start N vs) H s1 := inv_start S hr.hd e0 (len _ _ _ _ want) r x
  refine ⟨(e0.mod.nolimit.keeps there).keeps x.toInCall.keep, codeAny_func (wpAny_mono (ht.nox.run [] s1 (start N vs) H _ I q) ?_ fun _ _ z => z)⟩
  intro fl s2 out
  cases fl with
  | ret u => obtain ⟨v, _, H2, J, rv, q2⟩ := out; exact ⟨v, H2, J.os, J.bare, J.base, J.hok, rv, q2⟩
  | next => obtain ⟨_, H2, J, q2⟩ := out; exact ⟨V.non, H2, J.os, J.bare, J.base, J.hok, rfl, q2⟩
  | brk => obtain ⟨_, _, _, q2⟩ := out; exact q2.elim
  | cont => obtain ⟨_, _, _, q2⟩ := out; exact q2.elim
end

section
variable {X : Cx} {CX : CXT} {k : Nat} {f : Addr} {fd : FuncData} {ps : List Str} {sp : Sp} {E : XK} {x : Str} {p pos : Pos} {e : Expr} {es : List Expr} {t : TA}
/-- f(e, ..), f such a def -/
theorem pe_callG (hg0 : X.A.guards = some []) (F : FnG X.prog X.w X.K X.mg X.base CX k f fd ps sp) (hr : Room k X.A) (hg : Gl X x) (hm : X.mg x = some (.ref f)) (hk : PySem.W.keepIn X.K (.ref f) = true) (bd : Binds X.K fd ps []) (ex : Passes CX X E)
    (ha : PA X (e :: es) t) (hdb : (x == ("__debug__" : Str)) = false := by decide) (he : starEach (e :: es) X.env = (false, eval e X.env) :: starEach es X.env := by rfl) (hpl : (backTo pos (starEach es X.env)).any (·.1) = false := by rfl) :
    PE X (.Call (.Name x p) (e :: es) [] pos) (tCall sp [] E t) := by
  refine ⟨fun pins s σ H Q I h => wpAny_Call_Name_kw (ld_glob I hg hm (PySem.W.callWith_K (h₀ := X.base) I.ok.mod.kin hk (thn (ha.run pos pins s σ H _ I h) ?_) he hpl) hdb)⟩
  rintro us s1 ⟨vs, H1, I1, r, want⟩
  rw [List.append_nil] at want
  refine ⟨I1.kIn, ?_⟩
  have len : us.length = ps.length := r.length.symm.trans (F.len _ _ _ _ want)
  have bt : BindsTo s1 fd ⟨us, []⟩ (ps.zip us) := by
    have z := bd s1 us I1.kIn (by rw [List.append_nil]; exact len)
    rw [List.append_nil] at z
    exact z
  refine wpAny_call (codeAny_mono (F.run X.A X.stack s1 H1 ⟨us, []⟩ us vs Q E hg0 hr I1.env0 bt r want) fun res s' got => ?_)
  rcases res with er | fl
  · exact ex pins σ H1 s1 er s' I1 got
  · cases fl <;> first | exact I1.after got | exact False.elim got
end

/-! ### repr -/
section
/-- how a value of the layer reads as data: no dict, no object of one's own -/
inductive Rp (K : PySem.W.Frag) (H : Hp) : V → PyData → Prop
  | non : Rp K H .non .none
  | bl (b) : Rp K H (.bl b) (.bool b)
  | int (i) : Rp K H (.int i) (.int i)
  | str (x) : Rp K H (.str x) (.str x)
  | lst {a xs ds} : SqL K H a xs → Paired (Rp K H) xs ds → Rp K H (.ref a) (.list ds)
  | tup {a xs ds} : SqT K H a xs → Paired (Rp K H) xs ds → Rp K H (.ref a) (.tuple ds)
variable {X : Cx} {pins : List (Addr × Obj)} {σ : L2.St} {H : Hp} {s : Shared}
mutual
theorem Rp.reads (I : Inv X pins σ H s) : ∀ {v : V} {d : PyData} {u : Value}, Rp X.K H v d → RelV v u → ∃ as, Reads s.heap u d as
  | _, _, _, .non, r => by cases r; exact ⟨_, .none⟩
  | _, _, _, .bl b, r => by cases r; exact ⟨_, .bool b⟩
  | _, _, _, .int i, r => by obtain ⟨t, rfl⟩ := r; exact ⟨_, .int i t⟩
  | _, _, _, .str x, r => by obtain ⟨t, rfl⟩ := r; exact ⟨_, .str x t⟩
  | _, _, _, .lst h all, r => by
    cases r
    obtain ⟨its, rv, ⟨o, n, eo, hc, _, hd⟩, _⟩ := I.list h
    obtain ⟨as, ra⟩ := Rp.readsAll I all rv
    exact ⟨_, .list eo hc hd ra⟩
  | _, _, _, .tup h all, r => by
    cases r
    obtain ⟨its, rv, ⟨o, eo, hc, n, hd⟩, _⟩ := I.tuple h
    obtain ⟨as, ra⟩ := Rp.readsAll I all rv
    exact ⟨_, .tuple eo hc hd ra⟩
theorem Rp.readsAll (I : Inv X pins σ H s) : ∀ {vs : List V} {ds : List PyData} {us : List Value}, Paired (Rp X.K H) vs ds → Vals vs us → ∃ as, ReadsAll s.heap us ds as
  | _, _, _, .nil, .nil => ⟨_, .nil⟩
  | _, _, _, .cons a b, .cons r t => by
    obtain ⟨as, h1⟩ := Rp.reads I a r
    obtain ⟨bs, h2⟩ := Rp.readsAll I b t
    exact ⟨_, .cons h1 h2⟩
end
/-- repr(v), v a list of data -/
def rRepr (K : PySem.W.Frag) : List V → Hp → VK → Prop := fun vs H Q => ∃ a d, vs = [.ref a] ∧ Rp K H (.ref a) d ∧ d.showable = true ∧ d.hasDict = false ∧ d.depth ≤ 20 ∧ d.shown.length ≤ sizeLine ∧ Q (.str d.shown) H
theorem cr_repr (hg : X.A.guards = some []) (hr : Room 0 X.A) : CallR X (.builtin "repr") (rRepr X.K) := by
  rintro pins s σ H xs us Q I r ⟨a, d, rfl, rd, h1, h2, h3, h4, q⟩
  cases r with
  | cons r0 r1 =>
    cases r1
    obtain ⟨as, R⟩ := Rp.reads I rd r0
    cases r0
    refine repr_of_reads' R h1 (fun z => absurd (h2.symm.trans z) Bool.false_ne_true) hg (by have := hr.un; omega) (fun _ _ e => e) (fun h' u tk keep => ?_) h4
    exact ⟨.str d.shown, H, I.kept keep, ⟨u, rfl⟩, q⟩
end

/-! ### the law's end -/
theorem lawG {P : Program} {w : World} {K : PySem.W.Frag} {mg mb : Str → Option Value} {k : Nat} {fa a : Addr} {fd : FuncData} {x : Str} {sp : Sp} {s₁ : Shared} {vs : List Value} {ns : List Int}
    (KX : K.In s₁.heap) (hns : s₁.heap.Ns mainGlobals mg) (hb : s₁.heap.Ns builtinsNs mb) (hbb : ∀ x : Str, x ≠ "__name__" → mb x = bootBuiltins x) (hlim : s₁.heap.NoLimit) (hg : s₁.gens = #[])
    (ha : s₁.heap.get? a = some { cls := .type "list", data := .seq vs.toArray }) (hi : IntsAre vs ns) (hl : ns.length ≤ sizeLine) (hr : Room k callerA)
    (F : ∀ base : Heap, K.In base → base.Ns mainGlobals mg → FnG P w K mg base CX0 k fa fd [x] sp) (bind : ∀ (s : Shared) (u : Value), BindsTo s fd ⟨[u], []⟩ [(x, u)])
    (want : ∀ H : Hp, Only H → SqL K H a (ns.map V.int) → sp [.ref a] H (fun v _ => v = .bl true) fun _ _ _ => False) :
    codeAny (model P w) callerA (.call (.ref fa) ⟨[.ref a], []⟩) (fun r s' => r = .ok (.ret (.bool true)) ∧ OldK s₁.heap s'.heap ∧ s'.os = s₁.os ∧ AllBare s'.gens) s₁ := by
  have rv := vals_ints hi
  have ln := hi.length
  -- H tracks the script at most
  have main : ∀ H : Hp, Only H → SqL K H a (ns.map V.int) → HOk P w H s₁.heap → (∀ b, H b ≠ none → b = a ∧ K.lookup a = none) →
      codeAny (model P w) callerA (.call (.ref fa) ⟨[.ref a], []⟩) (fun r s' => r = .ok (.ret (.bool true)) ∧ OldK s₁.heap s'.heap ∧ s'.os = s₁.os ∧ AllBare s'.gens) s₁ := by
    intro H only seq hok few
    have none_of : ∀ {b : Addr}, ¬ (b = a ∧ K.lookup a = none) → H b = none := fun {b} z => Decidable.by_contra fun q => z (few b q)
    have dicts : ∀ {b : Addr} {m : Str → Option Value}, s₁.heap.Ns b m → (hidT s₁.heap H).Ns b m := by
      rintro b m ⟨o, es, ep, e, d, r⟩
      refine ⟨o, es, ep, hidT_get e (none_of ?_), d, r⟩
      rintro ⟨rfl, _⟩
      cases ha.symm.trans e
      cases d
    have KB : K.In (hidT s₁.heap H) := fun b o e => hidT_get (KX b o e) (none_of (by
      rintro ⟨rfl, z⟩
      cases z.symm.trans e))
    have M : Mod K mg (hidT s₁.heap H) := ⟨KB, dicts hns, ⟨mb, dicts hb, hbb⟩, let ⟨mc, h1, h2⟩ := hlim; ⟨mc, dicts h1, h2⟩⟩
    have none0 : ∀ b, b ∉ frs ([] : List Env) := fun b => by unfold frs; simp
    have e0 : Env0 P w K mg (hidT s₁.heap H) callerA [] s₁ H := ⟨rfl, M, fun b o e => of_hidT e, Nat.le_of_eq (hidT_size _ _), trivial, fun b q => absurd q (none0 b), hok, .of_eq hg⟩
    refine codeAny_mono ((F _ KB (dicts hns)).run callerA [] s₁ H ⟨[.ref a], []⟩ [.ref a] [.ref a] _ _ rfl hr e0 (bind s₁ (.ref a)) (.cons rfl .nil) (want H only seq)) fun r s' got => ?_
    rcases r with er | fl
    · exact False.elim got
    cases fl <;> first | exact False.elim got | skip
    obtain ⟨v, H', os, bare, un, hok', r', q⟩ := got
    subst q
    cases r'
    refine ⟨rfl, OldK.of_keep fun b o e => ?_, os, bare⟩
    rcases only b with z | ⟨ob, xs, z⟩
    · exact un.keep b o e z (none0 b) (by simp)
    · obtain ⟨e1, _⟩ := hok b _ z
      obtain ⟨e2, _⟩ := hok' b _ (un.frzs b ob _ z)
      cases e1.symm.trans e
      exact e2
  cases hk : K.lookup a with
  | some o =>
    have e := KX a o hk
    cases ha.symm.trans e
    exact main (fun _ => none) (fun _ => Or.inl rfl) (Or.inr ⟨_, vs.toArray, _, hk, rfl, rfl, rfl, by rw [List.size_toArray, ln]; exact hl, by simpa using rv⟩) (fun b u z => by cases (show (none : Option HO) = some u from z)) fun b z => absurd rfl z
  | none =>
    let ob : Obj := { cls := .type "list", data := .seq vs.toArray }
    have at_ : ∀ {b : Addr} {u : HO}, (if b = a then some (HO.frz ob (.lst (ns.map V.int))) else none) = some u → b = a ∧ u = HO.frz ob (.lst (ns.map V.int)) := by
      intro b u z
      by_cases q : b = a
      · rw [if_pos q] at z; exact ⟨q, (Option.some.inj z).symm⟩
      · rw [if_neg q] at z; cases z
    refine main (fun b => if b = a then some (.frz ob (.lst (ns.map V.int))) else none) (fun b => ?_) (Or.inl (Or.inr ⟨ob, if_pos rfl⟩)) (fun b u z => ?_) (fun b z => ?_)
    · by_cases q : b = a
      · exact Or.inr ⟨_, _, if_pos q⟩
      · exact Or.inl (if_neg q)
    · obtain ⟨rfl, rfl⟩ := at_ z
      exact ⟨ha, by rw [List.length_map]; exact hl, vs, _, rv, ha⟩
    · cases q : (if b = a then some (HO.frz ob (.lst (ns.map V.int))) else none) with
      | none => exact absurd q z
      | some u => exact ⟨(at_ q).1, hk⟩
theorem walkG {l : PySem.W.OpenLaw} {n k : Nat} {q : Program} {loose : List Str} {XP : (Str → Option Value) → Heap → Prop} {YP : World → Heap → Prop} {d : DefRec} {K : Params → PySem.W.Frag} {sp : World → Sp} {x : Str}
    (hn : l.most = some n) (hn2 : n ≤ sizeLine) (hdf : d.params.defaults = []) (hr : Room k callerA) (hY : ∀ (w : World) (h : Heap), YP w h → (K w.params).In h)
    (F : ∀ (w : World) (mg : Str → Option Value) (fa : Addr) (h : Heap), (K w.params).In h → h.Ns mainGlobals mg → mg d.name = some (.ref fa) →
      ∃ fd : FuncData, (∀ (s : Shared) (u : Value), BindsTo s fd ⟨[u], []⟩ [(x, u)]) ∧ ∀ base : Heap, (K w.params).In base → base.Ns mainGlobals mg → FnG l.prog w (K w.params) mg base CX0 k fa fd [x] (sp w))
    (want : ∀ (w : World) (H : Hp) (a : Addr) (ns : List Int), ns.length ≤ n → (∀ z ∈ ns, Builtin.Int.intBits z ≤ 1048576) → Only H → SqL (K w.params) H a (ns.map V.int) → sp w [.ref a] H (fun v _ => v = .bl true) fun _ _ _ => False) :
    PySem.W.WalkO q loose XP YP l.row.toRowW d [] (fun f vs => PySem.call f vs) := by
  refine Att.attach_callB hn hdf fun w s₀ s₁ mg mb fa o pm cd doc a vs ns G Y ho hd hcd hmg hobj hints hlen hbits hg => ?_
  obtain ⟨fd, hb, hF⟩ := F w mg fa _ (hY w _ Y) G.T.g hmg
  exact lawG (hY w _ Y) G.T.g G.T.b G.T.builtins G.T.nolimit hg hobj hints (Nat.le_trans hlen hn2) hr hF hb fun H only seq => want w H a ns hlen hbits only seq
end Rg
set_option Elab.async false
set_option maxRecDepth 100000
/-! len(set(text)) where signs may stand twice. -/
namespace Rg
open PySem L2 PySem.Spec PyProof.Rows
section
variable {prog : Program} {w : World} {A : Around}
/-- how many unlike texts the first i are -/
def cnt (zs : List Str) : Nat → Nat
  | 0 => 0
  | i + 1 => if (zs.take i).any (· == zs.getD i Str.empty) then cnt zs i else cnt zs i + 1
theorem cnt_le (zs : List Str) : ∀ i, cnt zs i ≤ i
  | 0 => Nat.le_refl _
  | i + 1 => by
    have := cnt_le zs i
    unfold cnt
    split <;> omega
theorem cnt_next {zs : List Str} {i : Nat} {z : Str} (e : zs[i]? = some z) : (if (zs.take i).any (· == z) then cnt zs i else cnt zs i + 1) = cnt zs (i + 1) := by
  have q : zs.getD i Str.empty = z := by rw [List.getD_eq_getElem?_getD, e]; rfl
  rw [cnt, q]
/-- the loop of set(..) over a walk that hands out the texts zs -/
theorem fill2 {R : Result → Shared → Prop} {it S : Addr} {fp wr : List Addr} {G : Array GenState → Array GenState → Prop} {n : Nat} {P : Nat → Value → Prop} {St : Nat → Shared → Prop}
    (W : WalksS prog w A.in1 it fp wr G n P St) (far : S ∉ fp) (zs : List Str) (zn : zs.length = n) (few : n + 1 < scanBound) (val : ∀ i v, P i v → ∃ z t, zs[i]? = some z ∧ v = .str z t) (j : Nat) :
    ∀ (i : Nat) (s : Shared), i + j = n → St i s → s.heap.SetOf (PySem.strKind prog w) S (fun k => (zs.take i).any (· == k)) (cnt zs i) →
      (∀ s', Moved (S :: wr) G s s' → s'.heap.SetOf (PySem.strKind prog w) S (fun k => (zs.take n).any (· == k)) (cnt zs n) → R (.ok (.ret .none)) s') →
      codeAny (model prog w) A (.builtin "set.update.loop" ⟨[.ref S, .ref it], []⟩) R s := by
  have far' : S ∉ wr := fun q => far (W.sub _ q)
  have more : ∀ b ∈ wr, b ∈ S :: wr := fun _ q => List.mem_cons_of_mem _ q
  have keepS : ∀ {s s' : Shared} {f : Str → Bool} {m : Nat}, Moved wr G s s' → s.heap.SetOf (PySem.strKind prog w) S f m → s'.heap.SetOf (PySem.strKind prog w) S f m :=
    fun mv ⟨o, es, ep, t, ho, r⟩ => ⟨o, es, ep, t, mv.heap S _ far' ho, r⟩
  induction j with
  | zero =>
    intro i s hi st hS out
    obtain rfl : i = n := by omega
    refine codeAny_builtin PyProof.Rows.F.entry_set_update_loop ?_; rw [Around.under_plainId PyProof.Rows.F.plain_set_update_loop _]
    show wpAny _ A.in1 (pyNext (.ref it) >>= _) _ _ s; refine wpAny_bind (W.done s _ _ st fun s' mv => ?_)
    exact wpAny_pure (out s' (mv.mono more) (keepS mv hS))
  | succ j ih =>
    intro i s hi st hS out
    refine codeAny_builtin PyProof.Rows.F.entry_set_update_loop ?_; rw [Around.under_plainId PyProof.Rows.F.plain_set_update_loop _]
    show wpAny _ A.in1 (pyNext (.ref it) >>= _) _ _ s; refine wpAny_bind (W.item i s _ _ (by omega) st fun v s' hP st' mv => ?_)
    obtain ⟨z, t, ez, rfl⟩ := val i v hP
    have hS' := keepS mv hS
    show wpAny _ A.in1 (holding [Value.str z t] (setAdd S (.str z t)) >>= _) _ _ s'
    refine wpAny_bind (wpAny_holding ?_); unfold setAdd; refine wpAny_holding (wpAny_bind ((PySem.strKind prog w).pyHash (k := z) (strKind_is _ _ _ _) ?_))
    refine wpAny_setAddHashed_of (knd := PySem.strKind prog w) (s := { s' with toks := s'.toks + 1 }) (strKind_is _ _ _ _) rfl hS' (by have := cnt_le zs i; omega) fun h' same new => ?_
    have new' : h'.SetOf (PySem.strKind prog w) S (fun k => (zs.take (i + 1)).any (· == k)) (cnt zs (i + 1)) :=
      SetOf_congr new (fun k => take_has ez k) (cnt_next ez)
    have other : ∀ b, b ≠ S → ∀ o, s'.heap.get? b = some o → h'.get? b = some o := fun b hb o e => (same.2 b hb).trans e
    refine wpAny_pure ⟨plainId_quiet PyProof.Rows.F.plain_set_update_loop _, ih (i + 1) _ (by omega) (W.frame _ s' _ _ st' (Nat.le_succ _) fun b hb o e => other b (fun q => far (q ▸ hb)) o e) new' fun s2 mv2 hS2 => ?_⟩
    exact out s2 (Moved.trans W.gtrans ((mv.mono more).then_heap (Nat.le_succ _) fun b o hb e => other b (fun q => hb (q ▸ List.mem_cons_self)) o e) mv2) hS2
end

section
variable {prog : Program} {w : World} {A : Around} {E : Value → Shared → Prop} {s : Shared}
set_option maxHeartbeats 3200000 in
theorem set_text2 {x : Str} {t : Tok} {Q : Value → Shared → Prop} (calm : A.handled = none) (few : x.cps.size + 1 < scanBound)
    (out : ∀ (h' : Heap) (tk : Nat), h'.SetOf (PySem.strKind prog w) s.heap.objs.size (fun k => ((signs x).take x.cps.size).any (· == k)) (cnt (signs x) x.cps.size) →
      (∀ b o, s.heap.get? b = some o → h'.get? b = some o) → Q (.ref s.heap.objs.size) { s with heap := h', toks := tk }) :
    wpAny (model prog w) A (call (.type "set") [.str x t]) Q E s := by
  obtain ⟨c, tl, hmro⟩ := PySem.F.called_set.mro
  have hmade := PySem.F.called_set.made
  have hsub := PySem.F.called_set.sub
  refine wpAny_call (codeAny_of_tree ?_); show wpAny _ _ (callAny (.type "set") _) _ _ _
  refine wpAny_pure ⟨Code.quiet_builtin _ (by decide +kernel), codeAny_builtin PySem.F.entry_type_call ?_⟩
  rw [Around.under_plain (weight_type_call_type "set" [.str x t] []) rfl]
  have h1 := PySem.F.called_set.notType
  have h2 := PySem.F.called_set.canCreate
  have hct := PySem.F.typeCall_set_1 (.str x t)
  repeat (any_goals (first | assumption | wp_step))
  refine codeAny_mono (code_set_new_1 (.str x t) (E := E) (Q₁ := fun v s1 => ∃ led : Bool, v = .ref s.heap.objs.size ∧ s1 = { s with heap := s.heap.push (bare led) }) fun led => ⟨led, rfl, rfl⟩) fun r s1 got => ?_
  rcases r with e | fl
  · exact got
  cases fl <;> first | exact got.elim | skip
  obtain ⟨led, rfl, rfl⟩ := got
  have hS : (s.heap.push (bare led)).get? s.heap.objs.size = some (bare led) := Heap.get?_push_size _ rfl
  have hT : Shared.TypeIs { s with heap := s.heap.push (bare led) } (.ref s.heap.objs.size) "set" := ⟨_, hS, rfl⟩
  have hli := PySem.F.called_set.init.lookup
  have hbi := PySem.F.called_set.init.bind (.ref s.heap.objs.size)
  repeat (any_goals (first | assumption | wp_step))
  refine codeAny_mono (codeAny_call_builtin (R := wants (fun r s2 => r = .none ∧ ∃ h' tk, s2 = { s with heap := h', toks := tk } ∧ h'.SetOf (PySem.strKind prog w) s.heap.objs.size (fun k => ((signs x).take x.cps.size).any (· == k)) (cnt (signs x) x.cps.size) ∧
      (∀ b o, s.heap.get? b = some o → h'.get? b = some o)) E) PySem.F.called_set.init.plain PySem.F.entry_set_init (check_set_init_1 hT ?_)) fun r2 s2 got2 => ?_
  · have e1 := PySem.F.sub_str_set
    have e2 := PySem.F.sub_str_frozenset
    unfold Builtin.«set.__init__» noKeywords Builtin.Frozenset.updateFrom
    generalize hPI : pyIter = PI
    wp_walk
    subst hPI
    refine wpAny_pyIter_str fun o St W st0 => wpAny_bind (wpAny_runValue ?_)
    have lt : s.heap.objs.size < (s.heap.push (bare led)).objs.size := by rw [Heap.size_push]; exact Nat.lt_succ_self _
    have apart : s.heap.objs.size ∉ [(s.heap.push (bare led)).objs.size] := fun q => absurd (List.mem_singleton.mp q) (Nat.ne_of_lt lt)
    refine fill2 ((W _ (by simp [calm])).toS) apart (signs x) (signs_len x) few (fun i v q => signAt q) x.cps.size 0 _ (Nat.zero_add _) st0 ?_ ?_
    · exact SetOf_congr ((setObjOf_fresh (knd := PySem.strKind prog w) led).setOf (Heap.get?_push_of_some _ hS) (by unfold scanBound; omega)) (fun _ => rfl) rfl
    · rintro ⟨h', g', d', tk', os'⟩ mv hS'
      obtain rfl : g' = s.gens := mv.gens
      obtain rfl : d' = s.drawn := mv.drawn
      obtain rfl : os' = s.os := mv.os
      refine wpAny_pure (wpAny_pure ⟨rfl, h', tk', rfl, hS', fun b o q => ?_⟩)
      have nb : b < s.heap.objs.size := Heap.lt_size q
      refine mv.heap b o ?_ (Heap.get?_push_of_some _ (Heap.get?_push_of_some _ q))
      intro m
      rcases List.mem_cons.mp m with e | m
      · exact absurd e (Nat.ne_of_lt nb)
      · exact absurd (List.mem_singleton.mp m) (Nat.ne_of_lt (Nat.lt_trans nb lt))
  · rcases r2 with e | fl2
    · exact got2
    cases fl2 <;> first | exact got2.elim | skip
    obtain ⟨rfl, h', tk, rfl, hS', keep⟩ := got2
    repeat (any_goals (first | assumption | wp_step))
    exact out _ _ hS' keep
end

section
variable {X : Cx}
/-- len(set(x)), x any text of few signs -/
def tLenSet2 (ta : TE) : TE := fun σ H Q => ta σ H fun v H1 => ∃ x : Str, v = .str x ∧ x.cps.size ≤ 100 ∧ Q (.int (cnt (signs x) x.cps.size)) H1
theorem pe_lenSet2 {a : Expr} {ta : TE} {p p2 q pos : Pos} (hc : X.calm = true) (g1 : Gl X "len") (m1 : X.mg "len" = none) (g2 : Gl X "set") (m2 : X.mg "set" = none) (ha : PE X a ta)
    (na : starEach [a] X.env = (false, eval a X.env) :: starEach [] X.env := by rfl) : PE X (.Call (.Name "len" p) [.Call (.Name "set" p2) [a] [] q] [] pos) (tLenSet2 ta) := by
  refine ⟨fun pins s σ H Q I h => Call_ (ld_blt I g1 m1 PySem.boot_len (callWith_builtin1 (args_cons (Call_ (ld_blt I g2 m2 boot_set (callWith_type1 (args_cons (thn (ha.run pins s σ H _ I h) ?_) na) na rfl))) rfl) rfl rfl))⟩
  rintro v s1 ⟨y, H1, I1, r1, x, rfl, few, q1⟩
  obtain ⟨t, rfl⟩ := r1
  have cl := cnt_le (signs x) x.cps.size
  refine args_nil (set_text2 (I1.ok.hd hc) (by unfold scanBound; omega) fun h' tk hS keep => args_nil ?_)
  obtain ⟨o, es, ep, tb, ho, hex, hd, _, _, _, hf, hn⟩ := hS
  have I2 : Inv X pins σ H1 { s1 with heap := h', toks := tk } := I1.kept fun b o e => keep b o e
  exact call_len_set ho hex hd hf (by rw [hn]; omega) ⟨.int (cnt (signs x) x.cps.size), H1, I2.tok _, ⟨_, by rw [hn]⟩, q1⟩
end
end Rg
set_option Elab.async false
set_option maxRecDepth 100000
namespace Kx
open PySem L2 PySem.Spec PyProof.Rows Rg
def top (i : Nat) : Stmt := PySem.Challenge.pw_rowgames_k18_machines_refused.main.body.getD i (.Pass ⟨0, 0, 0, 0⟩)
abbrev sPen : Stmt := top 44
abbrev sDraw : Stmt := top 45
abbrev sPick : Stmt := top 46

/-! ### heaps that grow, but for the pen -/
def Ext1 (p : Addr) (H H' : Hp) : Prop := ∀ b o, b ≠ p → H b = some o → H' b = some o
theorem Ext1.refl (p : Addr) (H : Hp) : Ext1 p H H := fun _ _ _ e => e
theorem Ext1.trans {p : Addr} {H H1 H2 : Hp} (a : Ext1 p H H1) (b : Ext1 p H1 H2) : Ext1 p H H2 := fun c o n e => b c o n (a c o n e)
theorem Ext1.new {p q : Addr} {H : Hp} {o : HO} (h : H q = none) : Ext1 p H (upd H q o) := fun b u _ e => by rw [upd_ne (ne_of_none e h)]; exact e
theorem Ext1.put {p : Addr} {H : Hp} {o : HO} : Ext1 p H (upd H p o) := fun b u n e => by rw [upd_ne n]; exact e

/-- at p the pen: at most n cells were taken -/
def PenAt (c : Addr) (n : Nat) (H : Hp) (p : Addr) : Prop := ∃ (ns : List Int) (a g : Int), H p = some (.lst [.ref c, .int a, .int g]) ∧ H c = some (.lst (ns.map V.int)) ∧ c ≠ p ∧ ns.length ≤ 63 ∧ 0 ≤ a ∧ a ≤ n
theorem PenAt.mono {c : Addr} {n m : Nat} {H : Hp} {p : Addr} (h : PenAt c n H p) (l : n ≤ m) : PenAt c m H p := by
  obtain ⟨ns, a, g, h1, h2, h3, h4, h5, h6⟩ := h
  exact ⟨ns, a, g, h1, h2, h3, h4, h5, by omega⟩
theorem PenAt.ext {c : Addr} {n : Nat} {H H' : Hp} {p : Addr} (h : PenAt c n H p) (e : ∀ b o, H b = some o → H' b = some o) : PenAt c n H' p := by
  obtain ⟨ns, a, g, h1, h2, h3⟩ := h
  exact ⟨ns, a, g, e _ _ h1, e _ _ h2, h3⟩
theorem PenAt.new {c : Addr} {n : Nat} {H : Hp} {p q : Addr} {o : HO} (h : PenAt c n H p) (f : H q = none) : PenAt c n (upd H q o) p := h.ext fun b u e => by rw [upd_ne (ne_of_none e f)]; exact e

/-! ### what the built-in names are -/
structure Txt (mg : Str → Option Value) : Prop where
  len : mg "len" = none
  int : mg "int" = none
  abs : mg "abs" = none
  list : mg "list" = none
  tuple : mg "tuple" = none
  range : mg "range" = none
  repr : mg "repr" = none
  isi : mg "isinstance" = none
  all : mg "all" = none
  set : mg "set" = none

/-! ### _law_draw -/
def spDraw : Sp := fun vs H Q _ => ∃ (c p : Addr) (m : Int) (n : Nat), vs = [.ref p, .int m] ∧ 0 < m ∧ m < 1000000 ∧ n ≤ 1000000 ∧ PenAt c n H p ∧ ∀ r H', 0 ≤ r → r < m → PenAt c (n + 1) H' p → Ext1 p H H' → Q (.int r) H'

theorem dpInts (K : PySem.W.Frag) (H : Hp) : ∀ ns : List Int, DpAll K H (ns.map V.int) (ns.map PyData.int)
  | [] => .nil
  | n :: r => .cons (.int n) (dpInts K H r)
theorem layInts : ∀ ns : List Int, PyData.canLayAll0 (ns.map PyData.int) = true
  | [] => rfl
  | _ :: r => layInts r
theorem depthInts : ∀ ns : List Int, PyData.depthAll (ns.map PyData.int) = 0
  | [] => rfl
  | _ :: r => by
    show max 0 (PyData.depthAll (r.map PyData.int)) = 0
    rw [depthInts r] <;> rfl
theorem shapedInts (ns : List Int) : SeqAt.shaped (.list (ns.map PyData.int)) = true := by
  show (PyData.canLayAll0 (ns.map PyData.int) && decide (PyData.depthAll (ns.map PyData.int) + 1 ≤ 64)) = true
  rw [layInts, depthInts] <;> rfl
theorem mixed1 {z a c d n : Int} (n0 : 0 < n) (nb : n < 2 ^ 32) (c0 : 0 ≤ c) (cb : c ≤ 100000) (d0 : 0 ≤ d) (db : d ≤ 100000) (a0 : 0 ≤ a) (ab : a ≤ 1000000) : (z % n + c * a + d).natAbs < 2 ^ 64 := by
  have h1 := Int.emod_nonneg z (b := n) (by omega)
  have h2 := Int.emod_lt_of_pos z n0
  have h3 : c * a ≤ 100000 * 1000000 := Int.mul_le_mul cb ab a0 (by omega)
  have h4 : 0 ≤ c * a := Int.mul_nonneg c0 a0
  omega
theorem mixed2 {x a b c d n : Int} (x0 : 0 ≤ x) (xb : x < n) (nb : n < 2 ^ 32) (b0 : 0 ≤ b) (bb : b ≤ 100000) (c0 : 0 ≤ c) (cb : c ≤ 100000) (d0 : 0 ≤ d) (db : d ≤ 100000) (a0 : 0 ≤ a) (ab : a ≤ 1000000) : (x * (2 * a + b) + c * a * a + d).natAbs < 2 ^ 64 := by
  have h1 : x * (2 * a + b) ≤ 2 ^ 32 * 2100000 := Int.mul_le_mul (by omega) (by omega) (by omega) (by omega)
  have h2 : 0 ≤ x * (2 * a + b) := Int.mul_nonneg x0 (by omega)
  have h3 : c * a ≤ 100000 * 1000000 := Int.mul_le_mul cb ab a0 (by omega)
  have h4 : 0 ≤ c * a := Int.mul_nonneg c0 a0
  have h5 : c * a * a ≤ 100000 * 1000000 * 1000000 := Int.mul_le_mul h3 ab a0 (by omega)
  have h6 : 0 ≤ c * a * a := Int.mul_nonneg h4 a0
  omega
theorem atMod {ns : List Int} (a : Int) (pos : 0 < ns.length) : ∃ z, atI (ns.map V.int) (a % (ns.length : Int)) = some (.int z) := by
  have h1 := Int.emod_nonneg a (b := (ns.length : Int)) (by omega)
  have h2 := Int.emod_lt_of_pos a (b := (ns.length : Int)) (by omega)
  generalize a % (ns.length : Int) = j at h1 h2
  have hj : j.toNat < ns.length := by omega
  refine ⟨ns[j.toNat], ?_⟩
  have e : (j.toNat : Int) = j := by omega
  have q : atI (ns.map V.int) ((j.toNat : Nat) : Int) = some (.int ns[j.toNat]) := atI_nat (by simp [hj])
  rw [e] at q
  exact q
theorem eqv_nil (ns : List Int) : PyData.eqv (.list (ns.map PyData.int)) (.list []) = ns.isEmpty := by
  cases ns with
  | nil => rfl
  | cons a t => rfl
section
variable {P : Program} {w : World} {K : PySem.W.Frag} {mg : Str → Option Value} {base : Heap}
theorem scDraw : FnScope ["_law_pen_here", "_law_many", "_law_digit", "_law_at", "_law_cell", "_law_great", "_law_mixed"] ["_law_pen_here", "_law_many"] (defScope sDraw) := ⟨rfl, rfl, rfl, by decide +kernel, rfl, by decide +kernel, by decide +kernel⟩
theorem bLen {X : Cx} {e : Expr} {te : TE} {p pos : Pos} (hg : Gl X "len") (m : X.mg "len" = none) (he : PE X e te) (na : starEach [e] X.env = (false, eval e X.env) :: starEach [] X.env := by rfl) : PE X (.Call (.Name "len" p) [e] [] pos) (tCB (fun xs H Q => ∃ x n, xs = [x] ∧ LenV X.K x H n ∧ Q (.int n) H) (tCons te tNil)) := pe_callB call_len hg m PySem.boot_len (pa_cons he pa_nil na) (he := na)
theorem bInt {X : Cx} {e : Expr} {te : TE} {p pos : Pos} (hg : Gl X "int") (m : X.mg "int" = none) (he : PE X e te) (na : starEach [e] X.env = (false, eval e X.env) :: starEach [] X.env := by rfl) : PE X (.Call (.Name "int" p) [e] [] pos) (tCB (fun xs H Q => (∃ i, xs = [.int i] ∧ Q (.int i) H) ∨ ∃ k, xs = [.bl k] ∧ Q (.int (if k then 1 else 0)) H) (tCons te tNil)) :=
  pe_callTy call_int1 hg m (by decide +kernel) (pa_cons he pa_nil na) (he := na)
theorem bAbs {X : Cx} {e : Expr} {te : TE} {p pos : Pos} (hg : Gl X "abs") (m : X.mg "abs" = none) (he : PE X e te) (na : starEach [e] X.env = (false, eval e X.env) :: starEach [] X.env := by rfl) : PE X (.Call (.Name "abs" p) [e] [] pos) (tCB (fun xs H Q => ∃ i, xs = [.int i] ∧ Q (.int (if i < 0 then -i else i)) H) (tCons te tNil)) :=
  pe_callB call_abs hg m (by decide +kernel) (pa_cons he pa_nil na) (he := na)
theorem bIx {X : Cx} {a b : Expr} {ta tb : TE} {pos : Pos} (ha : PE X a ta) (hb : PE X b tb) (hs : PlainIx b := by intro _ _; rfl) : PE X (.Subscript a b pos) (tOp (rIxL X.K) ta tb) := pe_ix ix_list ha hb hs
theorem ok_draw {f : Addr} {fd : FuncData} (F : Fun K "_law_draw" "_law_draw" sDraw f fd) (T : Txt mg) : FnOk P w K mg base CX0 1 f fd ["_law_pen_here", "_law_many"] spDraw := by
  refine F.ok scDraw (fun vs H Q E h => ?_) (fun cdv A outer s H vs Q E hr h => ?_)
  · obtain ⟨c, p, m, n, rfl, _⟩ := h
    rfl
  · obtain ⟨c, p, m, n, rfl, m0, mb, nb, pen, k⟩ := h
    have nd := scDraw.nd
    refine ⟨_, pss_cons (ps_if (pt_cmpR op_gt (bIx (pv 0) pe_int) pe_int (nomark _))
        (pss_cons (ps_set (i := 2) nd rfl (.inl rfl) (pe_op op_mod (bInt (by rfl) T.int (bIx (pv 0) pe_int)) (pv 1)))
          (pss_cons (ps_asg (pe_op op_fdivN (bInt (by rfl) T.int (bIx (pv 0) pe_int)) (pv 1)) (pg_sub (pv 0) pe_int set_list)) (pss_one (ps_ret (pv 2))))) pss_nil)
      (pss_cons (ps_set (i := 3) nd rfl (.inl rfl) (bIx (pv 0) pe_int))
      (pss_cons (ps_asg (pe_op op_add (pv 3) pe_int) (pg_sub (pv 0) pe_int set_list))
      (pss_cons (ps_set (i := 4) nd rfl (.inl rfl) (pe_op op_add (pe_op op_mul pe_int (pv 3)) pe_int))
      (C8.pss_cut (ps_if (pt_cmpR (op_neD hr.units) (bIx (pv 0) pe_int) (pe_lst pa_nil) (nomark _))
        (pss_one (ps_set (i := 4) nd rfl (.inl rfl) (bIx (bIx (pv 0) pe_int) (pe_op op_mod (bInt (by rfl) T.int (pv 3)) (bLen (by rfl) T.len (bIx (pv 0) pe_int)))))) pss_nil)
      (C8.pss_cut (ps_if (PW.pt (pw_and (pt_cmpR op_lt (pv 3) (bLen (by rfl) T.len (bIx (pv 0) pe_int)) (nomark _)) (pw_and1 (pt_cmpR op_ge (bAbs (by rfl) T.abs (pv 4)) (pe_op op_pow pe_int pe_int) (nomark _)))))
        (pss_cons (ps_set (i := 5) nd rfl (.inl rfl) (pe_op op_add (pe_op op_mul pe_int (pe_op op_sub (bAbs (by rfl) T.abs (pv 4)) (pe_op op_pow pe_int pe_int))) (bInt (by rfl) T.int (pe_cmpR op_lt (pv 4) pe_int (nomark _)))))
          (pss_cons (ps_asg (pe_op op_fdivN (bInt (by rfl) T.int (pv 5)) (pv 1)) (pg_sub (pv 0) pe_int set_list)) (pss_one (ps_ret (pe_op op_mod (bInt (by rfl) T.int (pv 5)) (pv 1)))))) pss_nil)
      (pss_cons (ps_set (i := 6) nd rfl (.inl rfl) (pe_op op_mod (bInt (by rfl) T.int (pe_op op_pow (pe_op op_add (pe_op op_add (pe_op op_mod (bInt (by rfl) T.int (pv 4)) pe_int) (pe_op op_mul pe_int (pv 3))) pe_int) pe_int)) pe_int))
      (pss_cons (ps_set (i := 6) nd rfl (.inl rfl) (pe_op op_mod (bInt (by rfl) T.int (pe_op op_pow (pe_op op_add (pe_op op_add (pe_op op_mul (pv 6) (pe_op op_add (pe_op op_mul pe_int (pv 3)) pe_int)) (pe_op op_mul (pe_op op_mul pe_int (pv 3)) (pv 3))) pe_int) pe_int)) pe_int))
      (pss_one (ps_ret (pe_op op_mod (bInt (by rfl) T.int (pe_op op_fdivN (pv 6) pe_int)) (pv 1))))))))))), ?_⟩
    obtain ⟨ns, a, g, hp, hc, cp, hl, a0, an⟩ := pen
    have md : ∀ x : Int, 0 ≤ x % m ∧ x % m < m := fun x => ⟨Int.emod_nonneg x (by omega), Int.emod_lt_of_pos x m0⟩
    have ms : m ≠ 0 ∧ m.natAbs < 1073741824 := ⟨by omega, by omega⟩
    refine ⟨_, rfl, p, _, 2, _, rfl, rfl, SqL.of hp, rfl, g, 0, rfl, rfl, _, rfl, ite2 (fun hg => ?_) (fun hg => ?_)⟩
    · refine ⟨_, rfl, p, _, 2, _, rfl, rfl, SqL.of hp, rfl, .inl ⟨_, rfl, _, rfl, _, _, rfl, rfl, m0, ?_⟩⟩
      refine ⟨_, rfl, p, _, 2, _, rfl, rfl, SqL.of hp, rfl, .inl ⟨_, rfl, _, rfl, _, _, rfl, rfl, ms, ?_⟩⟩
      refine ⟨_, rfl, p, _, 2, 2, rfl, rfl, hp, rfl, ?_⟩
      refine ⟨_, rfl, k _ _ (md g).1 (md g).2 ⟨ns, a, _, upd_same, ?_, cp, hl, a0, by omega⟩ Ext1.put⟩
      rw [upd_ne cp]; exact hc
    refine ⟨_, rfl, p, _, 1, _, rfl, rfl, SqL.of hp, rfl, ?_⟩
    refine ⟨_, rfl, _, _, rfl, rfl, ?_⟩
    refine ⟨_, rfl, p, _, 1, 1, rfl, rfl, hp, rfl, ?_⟩
    have mul64 : ∀ {x y : Int}, -(2 ^ 64) < x → x < 2 ^ 64 → CMul x y := fun h1 h2 => Or.inl ⟨h1, h2⟩
    generalize hH1 : upd H p (HO.lst ([V.ref c, V.int a, V.int g].set 1 (V.int (a + 1)))) = H1
    have hp1 : H1 p = some (.lst [.ref c, .int (a + 1), .int g]) := by rw [← hH1]; exact upd_same
    have hc1 : H1 c = some (.lst (ns.map V.int)) := by rw [← hH1, upd_ne cp]; exact hc
    have x1 : Ext1 p H H1 := by rw [← hH1]; exact Ext1.put
    refine ⟨_, rfl, _, _, rfl, rfl, mul64 (by decide) (by decide), _, _, rfl, rfl, ?_⟩
    refine ⟨fun σ' H' => ∃ (z : Int) (q : Addr), σ' = [some (.ref p), some (.int m), none, some (.int a), some (.int z), none, none] ∧ H1 q = none ∧ H' = upd H1 q (.lst []), ?_, ?_⟩
    · refine ⟨_, rfl, p, _, 0, _, rfl, rfl, SqL.of hp1, rfl, Nat.zero_le _, fun q hq => ?_⟩
      have cq : c ≠ q := ne_of_none hc1 hq
      have pq : p ≠ q := ne_of_none hp1 hq
      have hc2 : (upd H1 q (.lst [])) c = some (.lst (ns.map V.int)) := by rw [upd_ne cq]; exact hc1
      have hp2 : (upd H1 q (.lst [])) p = some (.lst [.ref c, .int (a + 1), .int g]) := by rw [upd_ne pq]; exact hp1
      refine ⟨.list (ns.map PyData.int), .list [], .lst (SqL.of hc2) (dpInts _ _ ns), .lst (SqL.of upd_same) .nil, shapedInts ns, rfl, _, rfl, ?_⟩
      rw [eqv_nil]
      refine ite2 (fun hne => ?_) (fun _ => ⟨_, q, rfl, hq, rfl⟩)
      have pos : 0 < ns.length := by
        cases ns with
        | nil => exact absurd hne (by decide)
        | cons _ _ => exact Nat.succ_pos _
      obtain ⟨z, hz⟩ := atMod a pos
      refine ⟨_, rfl, p, _, 0, _, rfl, rfl, SqL.of hp2, rfl, _, rfl, .inl ⟨_, rfl, _, rfl, p, _, 0, _, rfl, rfl, SqL.of hp2, rfl, _, _, rfl, .inl ⟨_, SqL.of hc2, rfl⟩, ?_⟩⟩
      refine ⟨_, _, rfl, rfl, by rw [List.length_map]; omega, c, _, _, .int z, rfl, rfl, SqL.of hc2, ?_, z, q, rfl, hq, rfl⟩
      rw [List.length_map]; exact hz
    rintro σ2 H2 ⟨z, q, rfl, hq, rfl⟩
    have cq : c ≠ q := ne_of_none hc1 hq
    have pq : p ≠ q := ne_of_none hp1 hq
    have hc2 : (upd H1 q (.lst [])) c = some (.lst (ns.map V.int)) := by rw [upd_ne cq]; exact hc1
    have hp2 : (upd H1 q (.lst [])) p = some (.lst [.ref c, .int (a + 1), .int g]) := by rw [upd_ne pq]; exact hp1
    have x2 : Ext1 p H (upd H1 q (.lst [])) := x1.trans (Ext1.new hq)
    generalize upd H1 q (.lst []) = H2 at hc2 hp2 x2 ⊢
    have done : ∀ r, 0 ≤ r → r < m → Q (.int r) H2 := fun r r0 r1 => k r H2 r0 r1 ⟨ns, a + 1, g, hp2, hc2, cp, hl, by omega, by omega⟩ x2
    have fin : ∀ y : Int, Q (.int (y % m)) H2 := fun y => done _ (md y).1 (md y).2
    have a1 : a ≤ 1000000 := by omega
    refine ⟨fun σ' H' => σ' = [some (.ref p), some (.int m), none, some (.int a), some (.int z), none, none] ∧ H' = H2, ?_, ?_⟩
    · refine ⟨_, rfl, _, rfl, p, _, 0, _, rfl, rfl, SqL.of hp2, rfl, _, _, rfl, .inl ⟨_, SqL.of hc2, rfl⟩, _, _, rfl, rfl, _, rfl, ite2 (fun _ => ?_) (fun _ => iteF ⟨rfl, rfl⟩)⟩
      refine ⟨_, rfl, z, rfl, _, _, rfl, rfl, ⟨by decide, by decide, by decide⟩, _, _, rfl, rfl, _, rfl, ite2 (fun _ => ?_) (fun _ => ⟨rfl, rfl⟩)⟩
      refine ⟨_, rfl, z, rfl, _, _, rfl, rfl, ⟨by decide, by decide, by decide⟩, _, _, rfl, rfl, _, _, rfl, rfl, mul64 (by decide) (by decide), _, rfl, _, _, rfl, rfl, .inr ⟨_, rfl, _, _, rfl, rfl, ?_⟩⟩
      refine ⟨_, rfl, .inl ⟨_, rfl, _, rfl, _, _, rfl, rfl, ms, _, rfl, p, _, 2, 2, rfl, rfl, hp2, rfl, ?_⟩⟩
      refine ⟨_, rfl, .inl ⟨_, rfl, _, rfl, _, _, rfl, rfl, m0, ?_⟩⟩
      refine k _ _ (md _).1 (md _).2 ⟨ns, a + 1, _, upd_same, ?_, cp, hl, by omega, by omega⟩ (x2.trans Ext1.put)
      rw [upd_ne cp]; exact hc2
    rintro σ3 H3 ⟨rfl, rfl⟩
    refine ⟨_, rfl, .inl ⟨_, rfl, _, _, rfl, rfl, (show (0 : Int) < 2147483563 by decide), _, rfl, _, _, rfl, rfl, mul64 (by decide) (by decide), _, _, rfl, rfl, _, _, rfl, rfl, _, _, rfl, rfl, ⟨by decide, by decide, mixed1 (by decide) (by decide) (by decide) (by decide) (by decide) (by decide) a0 a1⟩, .inl ⟨_, rfl, _, _, rfl, rfl, (show (0 : Int) < 2147483647 by decide), ?_⟩⟩⟩
    have xx : ∀ y : Int, 0 ≤ y % 2147483647 ∧ y % 2147483647 < 2147483647 := fun y => ⟨Int.emod_nonneg _ (by decide), Int.emod_lt_of_pos _ (by decide)⟩
    refine ⟨_, rfl, _, rfl, _, _, rfl, rfl, mul64 (by decide) (by decide), _, _, rfl, rfl, _, _, rfl, rfl, mul64 (Int.lt_of_lt_of_le (by decide) (xx _).1) (Int.lt_trans (xx _).2 (by decide)), _, rfl, _, _, rfl, rfl, mul64 (by decide) (by decide), _, rfl, _, _, rfl, rfl, Or.inr ⟨by omega, by omega⟩, _, _, rfl, rfl, _, _, rfl, rfl, _, _, rfl, rfl,
      ⟨by decide, by decide, mixed2 (xx _).1 (xx _).2 (by decide) (by decide) (by decide) (by decide) (by decide) (by decide) (by decide) a0 a1⟩, .inl ⟨_, rfl, _, _, rfl, rfl, (show (0 : Int) < 2147483549 by decide), ?_⟩⟩
    exact ⟨_, rfl, _, _, rfl, rfl, ⟨by decide, by decide⟩, .inl ⟨_, rfl, _, rfl, _, _, rfl, rfl, m0, fin _⟩⟩
end
end Kx
set_option Elab.async false
set_option maxRecDepth 100000
set_option autoImplicit false
namespace Kx
open PySem L2 PySem.Spec PyProof.Rows Rg
abbrev sFromTo : Stmt := top 11
abbrev sAreLetters : Stmt := top 12
abbrev sAreSigns : Stmt := top 13
abbrev sWrong : Stmt := top 14
abbrev sCheckRow : Stmt := top 15
abbrev sLedOn : Stmt := top 20
abbrev sCheckSigns : Stmt := top 37
abbrev sAreSteps : Stmt := top 39
abbrev sAreStates : Stmt := top 40
abbrev sAreAnswers : Stmt := top 41

/-! ### the texts that are drawn -/
def five : List Str := ["xo", "ox", "a", "abc", "zyxw"]
def abc : Str := "abcdefghijklmnopqrstuvwxyz"
def posn (z : Str) (c : Nat) : Nat := (Txt.index0 z ⟨#[c]⟩).getD 0
theorem five_facts : five.all (fun z => decide (0 < z.length) && decide (z.length ≤ 4) && decide (Txt.stripChars z abc = Str.empty) && decide ((Rg.signs z).Nodup) && z.cps.toList.all fun c => decide (Txt.index0 z ⟨#[c]⟩ = some (posn z c)) && decide (posn z c < z.length)) = true := by decide +kernel
structure Zok (z : Str) : Prop where
  pos : 0 < z.length
  few : z.length ≤ 4
  strip : Txt.stripChars z abc = Str.empty
  nd : (Rg.signs z).Nodup
  ix : ∀ c ∈ z.cps.toList, Txt.index0 z ⟨#[c]⟩ = some (posn z c) ∧ posn z c < z.length
theorem zok {z : Str} (h : z ∈ five) : Zok z := by
  have q := List.all_eq_true.mp five_facts z h
  simp only [Bool.and_eq_true, decide_eq_true_eq, List.all_eq_true] at q
  obtain ⟨⟨⟨⟨a, b⟩, c⟩, d⟩, e⟩ := q
  exact ⟨a, b, c, d, e⟩
theorem len_small {z : Str} (h : z.length ≤ 1000) : z.length ≤ sizeLine := Nat.le_trans h (by decide)
def Word (z w : Str) : Prop := ∀ c ∈ w.cps.toList, c ∈ z.cps.toList

/-! ### the text of a word over the signs loses all its signs -/
theorem take_all (p : Nat → Bool) : ∀ l : List Nat, (∀ c ∈ l, p c = true) → l.takeWhile p = l
  | [], _ => rfl
  | c :: r, h => by
    rw [List.takeWhile_cons, h c List.mem_cons_self, if_pos rfl, take_all p r fun d hd => h d (List.mem_cons_of_mem _ hd)]
theorem strip_word {z w : Str} (h : Word z w) : Txt.lstripChars w z = Str.empty := by
  have e : w.cps.toList.takeWhile z.cps.contains = w.cps.toList := take_all _ _ fun c hc => by
    have q := h c hc
    simpa using q
  have el : w.cps.toList.length = w.length := by simp [Str.length]
  have lo : stripLo z.cps.contains true w = w.length := by unfold stripLo; simp [e, el]
  show Txt.stripBy z.cps.contains true false w = Str.empty
  unfold Txt.stripBy stripSame stripped
  rw [lo]
  have hi : stripHi z.cps.contains false w w.length = w.length := rfl
  rw [hi]
  by_cases q : w.length = 0
  · have e0 : w = Str.empty := by
      obtain ⟨a⟩ := w
      have : a = #[] := Array.eq_empty_of_size_eq_zero q
      subst this; rfl
    subst e0; rfl
  · have f : (w.length == 0) = false := by simpa using q
    rw [f, Bool.false_and, if_neg Bool.false_ne_true]
    show (⟨w.cps.extract w.length w.length⟩ : Str) = Str.empty
    have : w.cps.extract w.length w.length = #[] := by
      simp
      exact Nat.min_le_left _ _
    rw [this]; rfl

/-! ### is_integer, is_from_to -/
def spFromTo : Sp := fun vs H Q _ => ∃ v lo hi : Int, vs = [.int v, .int lo, .int hi] ∧ Q (.bl (decide (lo ≤ v) && decide (v ≤ hi))) H
theorem bIsi {X : Cx} {e c : Expr} {te tc : TE} {p pos : Pos} (hg : Gl X "isinstance") (m : X.mg "isinstance" = none) (he : PE X e te) (hc : PE X c tc) (na : starEach [e, c] X.env = (false, eval e X.env) :: starEach [c] X.env := by rfl)
    (nb : starEach [c] X.env = (false, eval c X.env) :: starEach [] X.env := by rfl) (hpl : (backTo pos (starEach [c] X.env)).any (·.1) = false := by rfl) : PE X (.Call (.Name "isinstance" p) [e, c] [] pos) (tCB (rIsi X.K) (tCons te (tCons tc tNil))) :=
  pe_callB call_isi hg m boot_isinstance (pa_cons he (pa_cons hc pa_nil nb) na) (he := na) (hpl := hpl)
section
variable {P : Program} {w : World} {K : PySem.W.Frag} {mg : Str → Option Value} {base : Heap}
theorem scFromTo : FnScope ["value", "low", "high"] ["value", "low", "high"] (defScope sFromTo) := ⟨rfl, rfl, rfl, by decide +kernel, rfl, by decide +kernel, by decide +kernel⟩
theorem ok_fromTo {f : Addr} {fd : FuncData} (F : Fun K "is_from_to" "is_from_to" sFromTo f fd) (T : Txt mg) (mI : mg "int" = none) (mB : mg "bool" = none) :
    FnOk P w K mg base CX0 2 f fd ["value", "low", "high"] spFromTo := by
  refine F.ok scFromTo (fun vs H Q E h => ?_) (fun cdv A outer s H vs Q E hr h => ?_)
  · obtain ⟨v, lo, hi, rfl, _⟩ := h
    rfl
  · obtain ⟨v, lo, hi, rfl, k⟩ := h
    refine ⟨_, pss_one (ps_ret (pe_and (bIsi (by rfl) T.isi (pv 0) (pe_bltn (v := .ty "int") (by rfl) mI (by decide +kernel) rfl)) (pe_and (pe_not (bIsi (by rfl) T.isi (pv 0) (pe_bltn (v := .ty "bool") (by rfl) mB (by decide +kernel) rfl))) (pe_one (pe_chain op_le op_le (pv 1) (pv 0) (pv 2)))))), ?_⟩
    refine ⟨_, rfl, .int v, .ty "int", _, _, true, rfl, .ty "int", .base (.int v), kit_ty (by decide +kernel), true, rfl, iteT ⟨_, rfl, .int v, .ty "bool", _, _, false, rfl, .ty "bool", .base (.int v), kit_ty (by decide +kernel), false, rfl, true, rfl, iteT ⟨_, rfl, _, rfl, _, _, rfl, rfl, _, rfl, ?_⟩⟩⟩
    by_cases h : lo ≤ v
    · rw [if_pos (decide_eq_true h)]
      refine ⟨_, rfl, _, _, rfl, rfl, ?_⟩
      rw [decide_eq_true h, Bool.true_and] at k
      exact k
    · rw [if_neg (by simpa using h)]
      rw [decide_eq_false h, Bool.false_and] at k
      exact k

/-! ### are_letters, are_signs, check_signs -/
def spAreLetters : Sp := fun vs H Q _ => ∃ z : Str, vs = [.str z, .int 1, .int 4] ∧ Zok z ∧ Q (.bl true) H
theorem scAreLetters : FnScope ["value", "least", "most"] ["value", "least", "most"] (defScope sAreLetters) := ⟨rfl, rfl, rfl, by decide +kernel, rfl, by decide +kernel, by decide +kernel⟩
theorem ok_areLetters {f : Addr} {fd : FuncData} (F : Fun K "are_letters" "are_letters" sAreLetters f fd) (T : Txt mg) (mS : mg "str" = none) {tk : Tok} (mL : mg "LETTERS" = some (.str abc tk)) : FnOk P w K mg base CX0 1 f fd ["value", "least", "most"] spAreLetters := by
  refine F.ok scAreLetters (fun vs H Q E h => ?_) (fun cdv A outer s H vs Q E hr h => ?_)
  · obtain ⟨z, rfl, _⟩ := h
    rfl
  · obtain ⟨z, rfl, zk, k⟩ := h
    have l1 := zk.pos
    have l2 := zk.few
    refine ⟨_, pss_one (ps_ret (pe_and (bIsi (by rfl) T.isi (pv 0) (pe_bltn (v := .ty "str") (by rfl) mS (by decide +kernel) rfl)) (pe_and (pe_chain op_le op_le (pv 1) (bLen (by rfl) T.len (pv 0)) (pv 2))
      (pe_one (pe_cmpR op_eq (pe_bm PySem.F.plainAttrs_str PySem.F.slot_str_strip PySem.F.type_str_strip mt_stripChars (pv 0) (pa_cons (pe_glob (v := .str abc) (by rfl) mL ⟨_, rfl⟩) pa_nil)) pe_str (nomark _)))))), ?_⟩
    refine ⟨_, rfl, .str z, .ty "str", _, _, true, rfl, .ty "str", .base (.str z), kit_ty (by decide +kernel), true, rfl, iteT ?_⟩
    refine ⟨_, rfl, _, rfl, _, z.length, rfl, ⟨len_small (by omega), rfl⟩, _, _, rfl, rfl, _, rfl, ?_⟩
    rw [if_pos (decide_eq_true (by omega))]
    refine ⟨_, rfl, _, _, rfl, rfl, _, rfl, ?_⟩
    rw [if_pos (decide_eq_true (by omega))]
    refine ⟨_, rfl, rfl, z, abc, rfl, rfl, len_small (by omega), ?_⟩
    rw [zk.strip]
    exact ⟨rfl, k⟩
def spAreSigns : Sp := fun vs H Q _ => ∃ z : Str, vs = [.str z] ∧ Zok z ∧ Q (.bl true) H
theorem scAreSigns : FnScope ["value"] ["value"] (defScope sAreSigns) := ⟨rfl, rfl, rfl, by decide +kernel, rfl, by decide +kernel, by decide +kernel⟩
theorem ok_areSigns {f f1 : Addr} {fd fd1 : FuncData} (F : Fun K "are_signs" "are_signs" sAreSigns f fd) (T : Txt mg) (G : FnOk P w K mg base CX0 1 f1 fd1 ["value", "least", "most"] spAreLetters) (m1 : mg "are_letters" = some (.ref f1)) (k1 : PySem.W.keepIn K (.ref f1) = true)
    (b1 : Binds K fd1 ["value", "least", "most"] []) : FnOk P w K mg base CX0 2 f fd ["value"] spAreSigns := by
  refine F.ok scAreSigns (fun vs H Q E h => ?_) (fun cdv A outer s H vs Q E hr h => ?_)
  · obtain ⟨z, rfl, _⟩ := h
    rfl
  · obtain ⟨z, rfl, zk, k⟩ := h
    have l2 := zk.few
    refine ⟨_, pss_one (ps_ret (pe_and (pe_call G hr (by rfl) m1 k1 b1 .nil pass0 (pa_cons (pv 0) (pa_cons pe_int (pa_cons pe_int pa_nil)))) (pe_one (pe_cmpR op_eq (pe_lenSetT rfl (by rfl) T.len (by rfl) T.set (pv 0)) (bLen (by rfl) T.len (pv 0)) (nomark _))))), ?_⟩
    refine ⟨_, rfl, z, rfl, zk, true, rfl, iteT ⟨_, rfl, z, rfl, zk.nd, by have : z.cps.size = z.length := rfl; omega, _, rfl, _, z.length, rfl, ⟨len_small (by omega), rfl⟩, rfl, ?_⟩⟩
    rw [show decide (V.int (z.cps.size : Int) = V.int (z.length : Int)) = true from decide_eq_true rfl]
    exact k
def spUnit (R : List V → Hp → Prop) : Sp := fun vs H Q _ => R vs H ∧ Q .non H
def spCheckSigns : Sp := fun vs H Q _ => ∃ z : Str, vs = [.str z] ∧ Zok z ∧ Q .non H
theorem scCheckSigns : FnScope ["value"] ["value"] (defScope sCheckSigns) := ⟨rfl, rfl, rfl, by decide +kernel, rfl, by decide +kernel, by decide +kernel⟩
theorem ok_checkSigns {f f1 : Addr} {fd fd1 : FuncData} (F : Fun K "check_signs" "check_signs" sCheckSigns f fd) (G : FnOk P w K mg base CX0 2 f1 fd1 ["value"] spAreSigns) (m1 : mg "are_signs" = some (.ref f1)) (k1 : PySem.W.keepIn K (.ref f1) = true)
    (b1 : Binds K fd1 ["value"] []) : FnOk P w K mg base CX0 3 f fd ["value"] spCheckSigns := by
  refine F.ok scCheckSigns (fun vs H Q E h => ?_) (fun cdv A outer s H vs Q E hr h => ?_)
  · obtain ⟨z, rfl, _⟩ := h
    rfl
  · obtain ⟨z, rfl, zk, k⟩ := h
    refine ⟨_, pss_one (ps_if (pt_not (pt_val (pe_call G hr (by rfl) m1 k1 b1 .nil pass0 (pa_cons (pv 0) pa_nil)))) (pss_one ps_never) pss_nil), ?_⟩
    exact ⟨_, rfl, z, rfl, zk, true, rfl, iteF k⟩

/-! ### wrong_at, check_row -/
def spWrong : Sp := fun vs H Q _ => ∃ z wd : Str, vs = [.str z, .str wd] ∧ Word z wd ∧ wd.length ≤ 1000 ∧ Q .non H
theorem scWrong : FnScope ["signs", "value", "rest"] ["signs", "value"] (defScope sWrong) := ⟨rfl, rfl, rfl, by decide +kernel, rfl, by decide +kernel, by decide +kernel⟩
theorem ok_wrong {f : Addr} {fd : FuncData} (F : Fun K "wrong_at" "wrong_at" sWrong f fd) (T : Txt mg) (mS : mg "str" = none) : FnOk P w K mg base CX0 1 f fd ["signs", "value"] spWrong := by
  refine F.ok scWrong (fun vs H Q E h => ?_) (fun cdv A outer s H vs Q E hr h => ?_)
  · obtain ⟨z, wd, rfl, _⟩ := h
    rfl
  · obtain ⟨z, wd, rfl, hw, hl, k⟩ := h
    have nd := scWrong.nd
    refine ⟨_, pss_cons (ps_if (pt_not (pt_val (bIsi (by rfl) T.isi (pv 1) (pe_bltn (v := .ty "str") (by rfl) mS (by decide +kernel) rfl)))) (pss_one (ps_ret pe_int)) pss_nil)
      (pss_cons (ps_set (i := 2) nd rfl (.inl rfl) (pe_bm PySem.F.plainAttrs_str PySem.F.slot_str_lstrip PySem.F.type_str_lstrip mt_lstripChars (pv 1) (pa_cons (pv 0) pa_nil)))
      (pss_cons (ps_if (pt_cmpR op_eq (pv 2) pe_str (nomark _)) (pss_one (ps_ret pe_non)) pss_nil) (pss_one ps_never))), ?_⟩
    refine ⟨_, rfl, .str wd, .ty "str", _, _, true, rfl, .ty "str", .base (.str wd), kit_ty (by decide +kernel), true, rfl, iteF ?_⟩
    refine ⟨_, rfl, rfl, _, rfl, wd, z, rfl, rfl, len_small hl, ?_⟩
    rw [strip_word hw]
    exact ⟨_, rfl, rfl, _, rfl, iteT k⟩
theorem scCheckRow : FnScope ["signs", "value", "at"] ["signs", "value"] (defScope sCheckRow) := ⟨rfl, rfl, rfl, by decide +kernel, rfl, by decide +kernel, by decide +kernel⟩
theorem ok_checkRow {f f1 : Addr} {fd fd1 : FuncData} (F : Fun K "check_row" "check_row" sCheckRow f fd) (G : FnOk P w K mg base CX0 1 f1 fd1 ["signs", "value"] spWrong) (m1 : mg "wrong_at" = some (.ref f1)) (k1 : PySem.W.keepIn K (.ref f1) = true)
    (b1 : Binds K fd1 ["signs", "value"] []) : FnOk P w K mg base CX0 2 f fd ["signs", "value"] spWrong := by
  refine F.ok scCheckRow (fun vs H Q E h => ?_) (fun cdv A outer s H vs Q E hr h => ?_)
  · obtain ⟨z, wd, rfl, _⟩ := h
    rfl
  · obtain ⟨z, wd, rfl, hw, hl, k⟩ := h
    have nd := scCheckRow.nd
    refine ⟨_, pss_cons (ps_set (i := 2) nd rfl (.inl rfl) (pe_call G hr (by rfl) m1 k1 b1 .nil pass0 (pa_cons (pv 0) (pa_cons (pv 1) pa_nil)))) (pss_one (ps_if (pt_cmp (pc_notN (pv 2))) (pss_one ps_never) pss_nil)), ?_⟩
    exact ⟨_, rfl, _, rfl, z, wd, rfl, hw, hl, _, rfl, _, rfl, iteF k⟩
end
end Kx
set_option Elab.async false
set_option maxRecDepth 100000
set_option autoImplicit false
namespace Kx
open PySem L2 PySem.Spec PyProof.Rows Rg
/-! ### led_on -/
def stepZ (z : Str) (tb : List (List Int)) (s : Int) (c : Nat) : Int := (tb.getD s.toNat []).getD (posn z c) 0
def runZ (z : Str) (tb : List (List Int)) (s : Int) (wd : List Nat) : Int := wd.foldl (stepZ z tb) s
structure Tab (z : Str) (tb : List (List Int)) : Prop where
  pos : 0 < tb.length
  few : tb.length ≤ 8
  row : ∀ r ∈ tb, r.length = z.length ∧ ∀ v ∈ r, 0 ≤ v ∧ v < tb.length
theorem Tab.at_ {z : Str} {tb : List (List Int)} (T : Tab z tb) {i : Nat} (h : i < tb.length) : (tb.getD i []).length = z.length ∧ ∀ v ∈ tb.getD i [], 0 ≤ v ∧ v < tb.length := by
  rw [List.getD_eq_getElem?_getD, List.getElem?_eq_getElem h]
  exact T.row _ (List.getElem_mem h)
theorem stepZ_ok {z : Str} {tb : List (List Int)} (Z : Zok z) (T : Tab z tb) {s : Int} (s0 : 0 ≤ s) (s1 : s < tb.length) {c : Nat} (hc : c ∈ z.cps.toList) : 0 ≤ stepZ z tb s c ∧ stepZ z tb s c < tb.length := by
  have hs : s.toNat < tb.length := by omega
  obtain ⟨hl, hv⟩ := T.at_ hs
  have hp : posn z c < (tb.getD s.toNat []).length := by rw [hl]; exact (Z.ix c hc).2
  unfold stepZ
  rw [List.getD_eq_getElem?_getD (i := posn z c), List.getElem?_eq_getElem hp]
  exact hv _ (List.getElem_mem hp)
theorem runZ_ok {z : Str} {tb : List (List Int)} (Z : Zok z) (T : Tab z tb) : ∀ (wd : List Nat) {s : Int}, 0 ≤ s → s < tb.length → (∀ c ∈ wd, c ∈ z.cps.toList) → 0 ≤ runZ z tb s wd ∧ runZ z tb s wd < tb.length
  | [], _, s0, s1, _ => ⟨s0, s1⟩
  | c :: r, s, s0, s1, h => by
    have q := stepZ_ok Z T s0 s1 (h c List.mem_cons_self)
    exact runZ_ok Z T r q.1 q.2 fun d hd => h d (List.mem_cons_of_mem _ hd)
theorem runZ_take {z : Str} {tb : List (List Int)} {s : Int} {wd : List Nat} {i : Nat} {c : Nat} (h : wd[i]? = some c) : runZ z tb s (wd.take (i + 1)) = stepZ z tb (runZ z tb s (wd.take i)) c := by
  unfold runZ
  rw [List.take_add_one, h, List.foldl_append]
  rfl
theorem atI_int {α : Type} {xs : List α} {s : Int} {v : α} (s0 : 0 ≤ s) (h : xs[s.toNat]? = some v) : atI xs s = some v := by
  have e : ((s.toNat : Nat) : Int) = s := by omega
  have q := atI_nat h
  rw [e] at q
  exact q
/-- a table that is laid: its rows are such objects as R tells -/
def Rows (R : Addr → List V → Prop) (xs : List V) (tb : List (List Int)) : Prop := xs.length = tb.length ∧ ∀ i, i < tb.length → ∃ a, xs[i]? = some (.ref a) ∧ R a ((tb.getD i []).map V.int)
def TupTab (H : Hp) (st : Addr) (tb : List (List Int)) : Prop := ∃ xs, H st = some (.tup xs) ∧ Rows (fun a ys => H a = some (.tup ys)) xs tb
theorem Rows.mono {R R' : Addr → List V → Prop} {xs : List V} {tb : List (List Int)} (h : Rows R xs tb) (f : ∀ a ys, R a ys → R' a ys) : Rows R' xs tb := ⟨h.1, fun i hi => let ⟨a, e, r⟩ := h.2 i hi; ⟨a, e, f _ _ r⟩⟩
/-- one step: the row at s, the item at the sign's place -/
theorem Rows.step {R : Addr → List V → Prop} {xs : List V} {z : Str} {tb : List (List Int)} (h : Rows R xs tb) (Z : Zok z) (T : Tab z tb) {s : Int} (s0 : 0 ≤ s) (s1 : s < tb.length) {c : Nat} (hc : c ∈ z.cps.toList) :
    ∃ a ys, atI xs s = some (.ref a) ∧ R a ys ∧ atI ys ((posn z c : Nat) : Int) = some (.int (stepZ z tb s c)) := by
  have hs : s.toNat < tb.length := by omega
  obtain ⟨a, e, r⟩ := h.2 _ hs
  refine ⟨a, _, atI_int s0 e, r, atI_nat ?_⟩
  have hp : posn z c < (tb.getD s.toNat []).length := by rw [(T.at_ hs).1]; exact (Z.ix c hc).2
  unfold stepZ
  rw [List.getElem?_map, List.getD_eq_getElem?_getD (i := posn z c), List.getElem?_eq_getElem hp] <;> rfl

def spLedOn : Sp := fun vs H Q _ => ∃ (z : Str) (st : Addr) (tb : List (List Int)) (s : Int) (wd : Str), vs = [.str z, .ref st, .int s, .str wd] ∧ Zok z ∧ Tab z tb ∧ TupTab H st tb ∧ 0 ≤ s ∧ s < tb.length ∧ Word z wd ∧ Q (.int (runZ z tb s wd.cps.toList)) H
section
variable {P : Program} {w : World} {K : PySem.W.Frag} {mg : Str → Option Value} {base : Heap}
abbrev W0 : WX := fun _ _ _ _ => False
theorem bIndex {X : Cx} (hc : X.calm = true) (tk : Takes X W0) {o e : Expr} {to te : TE} {apos cpos : Pos} (ho : PE X o to) (he : PE X e te) (hbase : attributeBase o "index" X.env (eval o X.env) = eval o X.env := by rfl)
    (hfew : ((backTo cpos (starEach [e] X.env)).all (fun x => !x.1) && (backToKw cpos (keywordEach [] X.env)).all (fun x => x.1.isSome) && decide ([e].length + ([] : List Keyword).length + (if ([] : List Keyword).isEmpty then 0 else 1) < 30)) = true := by rfl)
    (hline : (apos.endLine == cpos.line) = true := by rfl) (hs : starEach [e] X.env = (false, eval e X.env) :: starEach [] X.env := by rfl) (hplain : (backTo cpos (starEach [] X.env)).any (·.1) = false := by rfl) :
    PE X (.Call (.Attribute o "index" apos) [e] [] cpos) (tBMS X.K "str" (rIndexX W0) to (tCons te tNil)) :=
  pe_bmS PySem.F.plainAttrs_str PySem.F.slot_str_index PySem.F.type_str_index (mt_indexX hc tk) ho (pa_cons he pa_nil hs) hbase hfew hline hs hplain
theorem scLedOn : FnScope ["signs", "steps", "state", "text", "sign"] ["signs", "steps", "state", "text"] (defScope sLedOn) := ⟨rfl, rfl, rfl, by decide +kernel, rfl, by decide +kernel, by decide +kernel⟩
theorem ok_ledOn {f : Addr} {fd : FuncData} (F : Fun K "led_on" "led_on" sLedOn f fd) : FnOk P w K mg base CX0 1 f fd ["signs", "steps", "state", "text"] spLedOn := by
  refine F.ok scLedOn (fun vs H Q E h => ?_) (fun cdv A outer s H vs Q E hr h => ?_)
  · obtain ⟨z, st, tb, s, wd, rfl, _⟩ := h
    rfl
  · obtain ⟨z, st, tb, i0, wd, rfl, Z, T, ⟨xs, hst, rows⟩, i1, i2, hw, k⟩ := h
    have nd := scLedOn.nd
    refine ⟨_, pss_cons (ps_for PassesOwn.never rfl (pi_str (pv 3)) (pg_name (i := 4) nd rfl (Or.inl rfl))
        (pss_one (ps_set (i := 2) nd rfl (.inl rfl) (pe_ix ix_tup (pe_ix ix_tup (pv 1) (pv 2) (fun _ _ => rfl)) (bIndex rfl takes0 (pv 0) (pv 4)) (fun _ _ => rfl))))) (pss_one (ps_ret (pv 2))), ?_⟩
    refine ⟨_, rfl, wd, rfl, for_it walk_str (fun j σ' H' => ∃ y, σ' = [some (.str z), some (.ref st), some (.int (runZ z tb i0 (wd.cps.toList.take j))), some (.str wd), y] ∧ H' = H) ⟨none, rfl, rfl⟩ (fun _ _ _ _ _ => trivial) ?_ ?_⟩
    · rintro j x σ' H' H2 hj ⟨y, rfl, rfl⟩ ⟨rfl, c, hc, rfl⟩
      have hc' : wd.cps.toList[j]? = some c := by rw [Array.getElem?_toList]; exact hc
      have hin : c ∈ z.cps.toList := hw c (List.mem_of_getElem? hc')
      have sub : ∀ d ∈ wd.cps.toList.take j, d ∈ z.cps.toList := fun d hd => hw d (List.mem_of_mem_take hd)
      obtain ⟨r0, r1⟩ := runZ_ok Z T (wd.cps.toList.take j) i1 i2 sub
      obtain ⟨a, ys, e1, e2, e3⟩ := rows.step Z T r0 r1 hin
      refine ⟨_, rfl, _, rfl, st, _, _, _, rfl, rfl, SqT.of hst, e1, _, rfl, rfl, _, rfl, z, ⟨#[c]⟩, rfl, rfl, fun m hm => ?_, fun q => ?_⟩
      · rw [(Z.ix c hin).1] at hm
        cases hm
        refine ⟨a, _, _, _, rfl, rfl, SqT.of e2, e3, some (.str ⟨#[c]⟩), ?_, rfl⟩
        show [some (V.str z), some (.ref st), some (.int (stepZ z tb (runZ z tb i0 (wd.cps.toList.take j)) c)), some (.str wd), some (.str ⟨#[c]⟩)] = _
        rw [runZ_take hc']
      · rw [(Z.ix c hin).1] at q
        cases q
    · rintro σ' H' ⟨y, rfl, rfl⟩
      have e : wd.cps.toList.take wd.cps.size = wd.cps.toList := by rw [List.take_of_length_le]; simp
      rw [e]
      exact ⟨_, rfl, k⟩
end
end Kx
set_option Elab.async false
set_option maxRecDepth 100000
set_option autoImplicit false
namespace Kx
open PySem L2 PySem.Spec PyProof.Rows Rg
/-- a list or a tuple -/
def Sq (H : Hp) (a : Addr) (xs : List V) : Prop := H a = some (.lst xs) ∨ H a = some (.tup xs)
theorem Sq.same {H H' : Hp} {a : Addr} {xs : List V} (h : Sq H a xs) (e : Same H H') : Sq H' a xs := h.elim (fun q => .inl (e _ _ q)) fun q => .inr (e _ _ q)
theorem Sq.len {K : PySem.W.Frag} {H : Hp} {a : Addr} {xs : List V} (h : Sq H a xs) : LenV K (.ref a) H xs.length := h.elim (fun q => .inl ⟨_, SqL.of q, rfl⟩) fun q => .inr ⟨_, SqT.of q, rfl⟩
theorem Same.new {H : Hp} {q : Addr} {o : HO} (h : H q = none) : Same H (upd H q o) := fun b u e => by rw [upd_ne (ne_of_none e h)]; exact e
theorem Same.putNew {H H' : Hp} {q : Addr} {o : HO} (h : H q = none) (e : Same H H') : Same H (upd H' q o) := fun b u z => by rw [upd_ne (ne_of_none z h)]; exact e _ _ z
theorem PI_or {X : Cx} {tg iter : Expr} {w1 w2 : TI} (h1 : PI X tg iter w1) (h2 : PI X tg iter w2) : PI X tg iter (fun σ H R => w1 σ H R ∨ w2 σ H R) := ⟨fun pins s σ H R I h => h.elim (h1.run pins s σ H R I) (h2.run pins s σ H R I)⟩
theorem wipe1 (σ : L2.St) (v : Nat) (x : V) : wipe ((wipe σ [v]).set v (some x)) [v] = wipe σ [v] := by
  show ((σ.set v none).set v (some x)).set v none = σ.set v none
  rw [List.set_set, List.set_set]
/-- a comprehension whose elements are told by the turn, over a heap that only grows -/
theorem lcMap {J : It} {n : Nat} {G : Hp → Prop} {Y : Nat → Hp → V → Hp → Prop} (w : Walk J n G Y) {v : Nat} {te : TE} {σ : L2.St} {H1 : Hp} {D : Addr} {Qd : Hp → Prop} (f : Nat → V) (hn : n < sizeLine) (hD : H1 D = none) (hG : ∀ H', Same H1 H' → G H')
    (hY : ∀ i H' x H2, Y i H' x H2 → H2 = H')
    (el : ∀ i x H' (Q : VK), i < n → Same H1 H' → Y i H' x H' → (∀ H4, Same H' H4 → Q (f i) H4) → te ((wipe σ [v]).set v (some x)) H' Q)
    (hd : ∀ H', Same H1 H' → H' D = some (.lst ((List.range n).map f)) → Qd H') :
    ∃ W : Nat → Nat → Hp → Prop, (∃ m, W 0 m (upd H1 D (.lst []))) ∧ ∀ i m H, W i m H →
      (J.stop i H ∧ Qd H) ∨ (J.go i H ∧ ∃ Nx : Hp → Prop, (∀ H', Nx H' → ∃ m', m' < m ∧ W (i + 1) m' H') ∧ ∀ x H', J.yld i H x H' → gName v x (wipe σ [v]) H' fun σ2 H2 => wipe σ2 [v] = wipe σ [v] ∧ tYes σ2 H2 fun b H3 =>
        if b = true then te σ2 H3 fun y H4 => ∃ acc, H4 D = some (.lst acc) ∧ acc.length < sizeLine ∧ Nx (upd H4 D (.lst (acc ++ [y]))) else Nx H3) := by
  refine lc_it w (fun i H' => Same H1 H' ∧ H' D = some (.lst ((List.range i).map f))) ⟨Same.new hD, upd_same⟩ (fun i H' _ q => hG H' q.1) ?_ fun H' q => hd H' q.1 q.2
  rintro i x H' H2 hi ⟨s1, hl⟩ y
  obtain rfl := hY _ _ _ _ y
  refine ⟨wipe1 σ v x, ?_⟩
  unfold tYes
  dsimp only
  rw [if_pos rfl]
  refine el i x H2 _ hi s1 y fun H4 s4 => ⟨_, s4 _ _ hl, ?_, Same.putNew hD (s1.trans s4), ?_⟩
  · rw [List.length_map, List.length_range]; omega
  rw [upd_same, List.range_succ, List.map_append]
  rfl
theorem range_const {n : Nat} {x : V} : (List.range n).map (fun _ => x) = List.replicate n x := by
  rw [List.map_const', List.length_range]

theorem cls2 : Paired ClsV [V.ty "list", V.ty "tuple"] [Value.type "list", Value.type "tuple"] := .cons (.ty _) (.cons (.ty _) .nil)
theorem seqTy {K : PySem.W.Frag} {H : Hp} {a : Addr} {xs : List V} (h : Sq H a xs) : ∃ t, TyX K H (.ref a) t ∧ PySem.W.kitAny K t [.type "list", .type "tuple"] = some true := by
  rcases h with h | h
  · exact ⟨_, .base (.lst h), kitAny_cons (kit_ty (b := "list") (r := true) (by decide +kernel)) (fun z => nomatch z) fun _ => rfl⟩
  · exact ⟨_, .base (.tup h), kitAny_cons (kit_ty (b := "list") (r := false) (by decide +kernel)) (fun _ => kitAny_cons (kit_ty (b := "tuple") (r := true) (by decide +kernel)) (fun z => nomatch z) fun _ => rfl) (fun z => nomatch z)⟩
theorem bIsiSq {X : Cx} {e : Expr} {te : TE} {p p1 p2 tp pos : Pos} {kk : Nat} (hg : Gl X "isinstance") (m : X.mg "isinstance" = none) (g1 : Gl X "list") (m1 : X.mg "list" = none) (g2 : Gl X "tuple") (m2 : X.mg "tuple" = none) (he : PE X e te)
    (na : starEach [e, .Tuple [.Name "list" p1, .Name "tuple" p2] kk tp] X.env = (false, eval e X.env) :: starEach [.Tuple [.Name "list" p1, .Name "tuple" p2] kk tp] X.env := by rfl)
    (nb : starEach [.Tuple [.Name "list" p1, .Name "tuple" p2] kk tp] X.env = (false, eval (.Tuple [.Name "list" p1, .Name "tuple" p2] kk tp) X.env) :: starEach [] X.env := by rfl) (hpl : (backTo pos (starEach [.Tuple [.Name "list" p1, .Name "tuple" p2] kk tp] X.env)).any (·.1) = false := by rfl) :
    PE X (.Call (.Name "isinstance" p) [e, .Tuple [.Name "list" p1, .Name "tuple" p2] kk tp] [] pos) (tCB (rIsiT X.K) (tCons te (tCons (tTup (tCons (tC (.ty "list")) (tCons (tC (.ty "tuple")) tNil))) tNil))) :=
  pe_callB call_isiT hg m boot_isinstance (pa_cons he (pa_cons (pe_tup (pa_cons (pe_bltn (v := .ty "list") g1 m1 (by decide +kernel) rfl) (pa_cons (pe_bltn (v := .ty "tuple") g2 m2 (by decide +kernel) rfl) pa_nil))) pa_nil nb) na) (he := na) (hpl := hpl)

def spAreStates : Sp := fun vs H Q _ => ∃ (a : Addr) (r : List Int) (last : Int), vs = [.ref a, .int r.length, .int last] ∧ Sq H a (r.map V.int) ∧ r.length ≤ 1000 ∧ (∀ v ∈ r, 0 ≤ v ∧ v ≤ last) ∧ ∀ H', Same H H' → Q (.bl true) H'
section
variable {P : Program} {w : World} {K : PySem.W.Frag} {mg : Str → Option Value} {base : Heap}
theorem scAreStates : FnScope ["value", "many", "last", "state"] ["value", "many", "last"] (defScope sAreStates) := ⟨rfl, rfl, rfl, by decide +kernel, rfl, by decide +kernel, by decide +kernel⟩
theorem ok_areStates {f f1 : Addr} {fd fd1 : FuncData} (F : Fun K "are_states" "are_states" sAreStates f fd) (T : Txt mg) (G : FnOk P w K mg base CX0 2 f1 fd1 ["value", "low", "high"] spFromTo) (m1 : mg "is_from_to" = some (.ref f1)) (k1 : PySem.W.keepIn K (.ref f1) = true)
    (b1 : Binds K fd1 ["value", "low", "high"] []) : FnOk P w K mg base CX0 3 f fd ["value", "many", "last"] spAreStates := by
  refine F.ok scAreStates (fun vs H Q E h => ?_) (fun cdv A outer s H vs Q E hr h => ?_)
  · obtain ⟨a, r, last, rfl, _⟩ := h
    rfl
  · obtain ⟨a, r, last, rfl, sq, few, rng, k⟩ := h
    have nd := scAreStates.nd
    refine ⟨_, pss_cons (ps_if (PW.pt (pw_or (pt_not (pt_val (bIsiSq (by rfl) T.isi (by rfl) T.list (by rfl) T.tuple (pv 0)))) (pw_or1 (pt_cmpR op_ne (bLen (by rfl) T.len (pv 0)) (pv 1) (nomark _))))) (pss_one (ps_ret pe_bl)) pss_nil)
      (pss_one (ps_ret (pe_callB (cr_all rfl) (by rfl) T.all boot_all (pa_cons (pe_lc (own := [("state", 3)]) (g := gName 3) (tt := tYes) rfl nd (PI_or (pi_list (pv 0)) (pi_tup (pv 0))) (blkOk_by (N := ["value", "many", "last", "state"]) (sc := defScope sAreStates) (by decide +kernel))
        (fun _ _ _ _ _ => pg_name (i := 3) nd rfl (Or.inl rfl)) (fun _ _ _ _ _ => pts_nil) (fun _ _ _ _ _ => pe_call G hr (by rfl) m1 k1 b1 .nil pass0 (pa_cons (pv 3) (pa_cons pe_int (pa_cons (pv 2) pa_nil))))) pa_nil)))), ?_⟩
    refine ⟨_, rfl, by show 2 ≤ sizeLine; decide, fun q hq => ?_⟩
    have s1 : Same H (upd H q (.tup [.ty "list", .ty "tuple"])) := Same.new hq
    obtain ⟨t, ty, kt⟩ := seqTy (K := K) (sq.same s1)
    refine ⟨.ref a, q, _, t, _, true, rfl, upd_same, cls2, ty, kt, true, rfl, iteF ?_⟩
    refine ⟨_, rfl, _, _, rfl, (sq.same s1).len, _, rfl, ?_⟩
    refine ⟨rfl, _, rfl, ?_⟩
    have el : decide (V.int ((r.map V.int).length : Nat) = V.int (r.length : Nat)) = true := decide_eq_true (by rw [List.length_map])
    rw [el]
    refine iteF ?_
    have fin : ∀ (D : Addr) (H' : Hp), Same (upd H q (.tup [.ty "list", .ty "tuple"])) H' → H' D = some (.lst ((List.range (r.map V.int).length).map fun _ => V.bl true)) →
        ∃ (b : Addr) (bs : List Bool), [V.ref D] = [V.ref b] ∧ SqL K H' b (bs.map V.bl) ∧ Q (.bl (bs.all id)) H' := by
      intro D H' s2 hD
      refine ⟨D, List.replicate r.length true, rfl, SqL.of ?_, ?_⟩
      · rw [hD, range_const, List.length_map, List.map_replicate]
      · rw [show (List.replicate r.length true).all id = true by simp]
        exact k H' (s1.trans s2)
    have el : ∀ (i : Nat) (x : V) (H' : Hp) (Q' : VK), (r.map V.int)[i]? = some x → (∀ H4, Same H' H4 → Q' (.bl true) H4) →
        tCall spFromTo [] E0 (tCons (tVar 3) (tCons (tC (.int 0)) (tCons (tVar 2) tNil))) ((wipe [some (V.ref a), some (.int r.length), some (.int last), none] [3]).set 3 (some x)) H' Q' := by
      intro i x H' Q' hx q
      rw [List.getElem?_map] at hx
      cases e : r[i]? with
      | none => rw [e] at hx; cases hx
      | some v =>
        rw [e] at hx
        cases hx
        have hv := rng v (List.mem_of_getElem? e)
        refine ⟨_, rfl, _, rfl, v, 0, last, rfl, ?_⟩
        rw [decide_eq_true hv.1, decide_eq_true hv.2]
        exact q H' (Same.refl H')
    have few' : (r.map V.int).length < sizeLine := by rw [List.length_map, sizeLine_eq]; omega
    rcases sq.same s1 with hl | ht
    · exact .inl ⟨_, rfl, a, rfl, ⟨_, SqL.of hl⟩, fun D hD => lcMap walk_list (fun _ => .bl true) few' hD (fun H' e => SqL.of (e _ _ hl)) (fun _ _ _ _ y => y.1) (fun i x H' Q' _ _ y q => el i x H' Q' y.2 q) (fin D)⟩
    · exact .inr ⟨_, rfl, a, rfl, ⟨_, SqT.of ht⟩, fun D hD => lcMap walk_tup (fun _ => .bl true) few' hD (fun H' e => SqT.of (e _ _ ht)) (fun _ _ _ _ y => y.1) (fun i x H' Q' _ _ y q => el i x H' Q' y.2 q) (fin D)⟩
end
end Kx
set_option Elab.async false
set_option maxRecDepth 100000
set_option autoImplicit false
namespace Kx
open PySem L2 PySem.Spec PyProof.Rows Rg
/-- a comprehension over any walk, by an invariant of turn, heap and what is made so far -/
theorem lcGen {J : It} {n : Nat} {G : Hp → Prop} {Y : Nat → Hp → V → Hp → Prop} (w : Walk J n G Y) {v : Nat} {te : TE} {σ : L2.St} {H1 : Hp} {D : Addr} {Qd : Hp → Prop} (Iv : Nat → Hp → List V → Prop) (hn : n < sizeLine)
    (h0 : Iv 0 (upd H1 D (.lst [])) []) (hG : ∀ i H' acc, i ≤ n → Iv i H' acc → G H') (hY : ∀ i H' x H2, Y i H' x H2 → H2 = H')
    (el : ∀ i x H' acc (Q : VK), i < n → H' D = some (.lst acc) → acc.length = i → Iv i H' acc → Y i H' x H' → (∀ y H4, H4 D = some (.lst acc) → Iv (i + 1) (upd H4 D (.lst (acc ++ [y]))) (acc ++ [y]) → Q y H4) → te ((wipe σ [v]).set v (some x)) H' Q)
    (hd : ∀ H' acc, H' D = some (.lst acc) → acc.length = n → Iv n H' acc → Qd H') :
    ∃ W : Nat → Nat → Hp → Prop, (∃ m, W 0 m (upd H1 D (.lst []))) ∧ ∀ i m H, W i m H →
      (J.stop i H ∧ Qd H) ∨ (J.go i H ∧ ∃ Nx : Hp → Prop, (∀ H', Nx H' → ∃ m', m' < m ∧ W (i + 1) m' H') ∧ ∀ x H', J.yld i H x H' → gName v x (wipe σ [v]) H' fun σ2 H2 => wipe σ2 [v] = wipe σ [v] ∧ tYes σ2 H2 fun b H3 =>
        if b = true then te σ2 H3 fun y H4 => ∃ acc, H4 D = some (.lst acc) ∧ acc.length < sizeLine ∧ Nx (upd H4 D (.lst (acc ++ [y]))) else Nx H3) := by
  refine lc_it w (fun i H' => ∃ acc, H' D = some (.lst acc) ∧ acc.length = i ∧ Iv i H' acc) ⟨[], upd_same, rfl, h0⟩ (fun i H' hi ⟨acc, _, _, q⟩ => hG i H' acc hi q) ?_ fun H' ⟨acc, q1, q2, q3⟩ => hd H' acc q1 q2 q3
  rintro i x H' H2 hi ⟨acc, ha, hl, iv⟩ y
  obtain rfl := hY _ _ _ _ y
  refine ⟨wipe1 σ v x, ?_⟩
  unfold tYes
  dsimp only
  rw [if_pos rfl]
  refine el i x H2 acc _ hi ha hl iv y fun y H4 h4 i4 => ⟨acc, h4, by omega, _, upd_same, ?_, i4⟩
  rw [List.length_append, hl]
  rfl

theorem bBool {X : Cx} {e : Expr} {te : TE} {p p1 pos : Pos} (hg : Gl X "isinstance") (m : X.mg "isinstance" = none) (g1 : Gl X "bool") (m1 : X.mg "bool" = none) (he : PE X e te) (na : starEach [e, .Name "bool" p1] X.env = (false, eval e X.env) :: starEach [.Name "bool" p1] X.env := by rfl)
    (nb : starEach [.Name "bool" p1] X.env = (false, eval (.Name "bool" p1) X.env) :: starEach [] X.env := by rfl) (hpl : (backTo pos (starEach [.Name "bool" p1] X.env)).any (·.1) = false := by rfl) : PE X (.Call (.Name "isinstance" p) [e, .Name "bool" p1] [] pos) (tCB (rIsi X.K) (tCons te (tCons (tC (.ty "bool")) tNil))) :=
  bIsi hg m he (pe_bltn (v := .ty "bool") g1 m1 (by decide +kernel) rfl) na nb hpl
abbrev sInit : Stmt := inClass (top 36) 0
abbrev sSigns : Stmt := inClass (top 36) 1
abbrev sSteps : Stmt := inClass (top 36) 2
abbrev sTold : Stmt := inClass (top 36) 3
abbrev sLen : Stmt := inClass (top 36) 4
abbrev sItem : Stmt := inClass (top 36) 5
abbrev sHas : Stmt := inClass (top 36) 7
abbrev sState : Stmt := inClass (top 36) 8
abbrev sStep : Stmt := inClass (top 36) 9

def spAreAnswers : Sp := fun vs H Q _ => ∃ (a : Addr) (r : List Bool), vs = [.ref a, .int r.length] ∧ Sq H a (r.map V.bl) ∧ r.length ≤ 1000 ∧ ∀ H', Same H H' → Q (.bl true) H'
def spAreSteps : Sp := fun vs H Q _ => ∃ (a : Addr) (z : Str) (xs : List V) (tb : List (List Int)), vs = [.ref a, .int z.length] ∧ Sq H a xs ∧ Rows (Sq H) xs tb ∧ Zok z ∧ Tab z tb ∧ ∀ H', Same H H' → Q (.bl true) H'
section
variable {P : Program} {w : World} {K : PySem.W.Frag} {mg : Str → Option Value} {base : Heap}
theorem scAreAnswers : FnScope ["value", "many", "answer"] ["value", "many"] (defScope sAreAnswers) := ⟨rfl, rfl, rfl, by decide +kernel, rfl, by decide +kernel, by decide +kernel⟩
theorem ok_areAnswers {f : Addr} {fd : FuncData} (F : Fun K "are_answers" "are_answers" sAreAnswers f fd) (T : Txt mg) (mB : mg "bool" = none) : FnOk P w K mg base CX0 1 f fd ["value", "many"] spAreAnswers := by
  refine F.ok scAreAnswers (fun vs H Q E h => ?_) (fun cdv A outer s H vs Q E hr h => ?_)
  · obtain ⟨a, r, rfl, _⟩ := h
    rfl
  · obtain ⟨a, r, rfl, sq, few, k⟩ := h
    have nd := scAreAnswers.nd
    refine ⟨_, pss_cons (ps_if (PW.pt (pw_or (pt_not (pt_val (bIsiSq (by rfl) T.isi (by rfl) T.list (by rfl) T.tuple (pv 0)))) (pw_or1 (pt_cmpR op_ne (bLen (by rfl) T.len (pv 0)) (pv 1) (nomark _))))) (pss_one (ps_ret pe_bl)) pss_nil)
      (pss_one (ps_ret (pe_callB (cr_all rfl) (by rfl) T.all boot_all (pa_cons (pe_lc (own := [("answer", 2)]) (g := gName 2) (tt := tYes) (te := tCB (rIsi K) (tCons (tVar 2) (tCons (tC (.ty "bool")) tNil))) rfl nd (PI_or (pi_list (pv 0)) (pi_tup (pv 0))) (blkOk_by (N := ["value", "many", "answer"]) (sc := defScope sAreAnswers) (by decide +kernel))
        (fun _ _ _ _ _ => pg_name (i := 2) nd rfl (Or.inl rfl)) (fun _ _ _ _ _ => pts_nil) (fun _ _ _ _ _ => bBool (by rfl) T.isi (by rfl) mB (pv 2))) pa_nil)))), ?_⟩
    refine ⟨_, rfl, by show 2 ≤ sizeLine; decide, fun q hq => ?_⟩
    have s1 : Same H (upd H q (.tup [.ty "list", .ty "tuple"])) := Same.new hq
    obtain ⟨t, ty, kt⟩ := seqTy (K := K) (sq.same s1)
    refine ⟨.ref a, q, _, t, _, true, rfl, upd_same, cls2, ty, kt, true, rfl, iteF ?_⟩
    refine ⟨_, rfl, _, _, rfl, (sq.same s1).len, _, rfl, rfl, _, rfl, ?_⟩
    have el : decide (V.int ((r.map V.bl).length : Nat) = V.int (r.length : Nat)) = true := decide_eq_true (by rw [List.length_map])
    rw [el]
    refine iteF ?_
    have fin : ∀ (D : Addr) (H' : Hp), Same (upd H q (.tup [.ty "list", .ty "tuple"])) H' → H' D = some (.lst ((List.range (r.map V.bl).length).map fun _ => V.bl true)) →
        ∃ (b : Addr) (bs : List Bool), [V.ref D] = [V.ref b] ∧ SqL K H' b (bs.map V.bl) ∧ Q (.bl (bs.all id)) H' := by
      intro D H' s2 hD
      refine ⟨D, List.replicate r.length true, rfl, SqL.of ?_, ?_⟩
      · rw [hD, range_const, List.length_map, List.map_replicate]
      · rw [show (List.replicate r.length true).all id = true by simp]
        exact k H' (s1.trans s2)
    have el : ∀ (i : Nat) (x : V) (H' : Hp) (Q' : VK), (r.map V.bl)[i]? = some x → (∀ H4, Same H' H4 → Q' (.bl true) H4) →
        tCB (rIsi K) (tCons (tVar 2) (tCons (tC (.ty "bool")) tNil)) ((wipe [some (V.ref a), some (.int r.length), none] [2]).set 2 (some x)) H' Q' := by
      intro i x H' Q' hx q
      rw [List.getElem?_map] at hx
      cases e : r[i]? with
      | none => rw [e] at hx; cases hx
      | some v =>
        rw [e] at hx
        cases hx
        exact ⟨_, rfl, .bl v, .ty "bool", _, _, true, rfl, .ty "bool", .base (.bl v), kit_ty (by decide +kernel), q H' (Same.refl H')⟩
    have few' : (r.map V.bl).length < sizeLine := by rw [List.length_map, sizeLine_eq]; omega
    rcases sq.same s1 with hl | ht
    · exact .inl ⟨_, rfl, a, rfl, ⟨_, SqL.of hl⟩, fun D hD => lcMap walk_list (fun _ => .bl true) few' hD (fun H' e => SqL.of (e _ _ hl)) (fun _ _ _ _ y => y.1) (fun i x H' Q' _ _ y q => el i x H' Q' y.2 q) (fin D)⟩
    · exact .inr ⟨_, rfl, a, rfl, ⟨_, SqT.of ht⟩, fun D hD => lcMap walk_tup (fun _ => .bl true) few' hD (fun H' e => SqT.of (e _ _ ht)) (fun _ _ _ _ y => y.1) (fun i x H' Q' _ _ y q => el i x H' Q' y.2 q) (fin D)⟩
theorem scAreSteps : FnScope ["value", "many", "last", "onward"] ["value", "many"] (defScope sAreSteps) := ⟨rfl, rfl, rfl, by decide +kernel, rfl, by decide +kernel, by decide +kernel⟩
theorem ok_areSteps {f f1 : Addr} {fd fd1 : FuncData} (F : Fun K "are_steps" "are_steps" sAreSteps f fd) (T : Txt mg) (G : FnOk P w K mg base CX0 3 f1 fd1 ["value", "many", "last"] spAreStates) (m1 : mg "are_states" = some (.ref f1)) (k1 : PySem.W.keepIn K (.ref f1) = true)
    (b1 : Binds K fd1 ["value", "many", "last"] []) : FnOk P w K mg base CX0 4 f fd ["value", "many"] spAreSteps := by
  refine F.ok scAreSteps (fun vs H Q E h => ?_) (fun cdv A outer s H vs Q E hr h => ?_)
  · obtain ⟨a, z, xs, tb, rfl, _⟩ := h
    rfl
  · obtain ⟨a, z, xs, tb, rfl, sq, rows, Z, Tb, k⟩ := h
    have nd := scAreSteps.nd
    have hp := Tb.pos
    have hf := Tb.few
    have hx := rows.1
    refine ⟨_, pss_cons (ps_if (PW.pt (pw_or (pt_not (pt_val (bIsiSq (by rfl) T.isi (by rfl) T.list (by rfl) T.tuple (pv 0)))) (pw_or1 (pt_cmpR op_eq (bLen (by rfl) T.len (pv 0)) pe_int (nomark _))))) (pss_one (ps_ret pe_bl)) pss_nil)
      (pss_cons (ps_set (i := 2) nd rfl (.inr rfl) (pe_op op_sub (bLen (by rfl) T.len (pv 0)) pe_int))
      (pss_one (ps_ret (pe_callB (cr_all rfl) (by rfl) T.all boot_all (pa_cons (pe_lc (own := [("onward", 3)]) (g := gName 3) (tt := tYes) rfl nd (PI_or (pi_list (pv 0)) (pi_tup (pv 0))) (blkOk_by (N := ["value", "many", "last", "onward"]) (sc := defScope sAreSteps) (by decide +kernel))
        (fun _ _ _ _ _ => pg_name (i := 3) nd rfl (Or.inl rfl)) (fun _ _ _ _ _ => pts_nil) (fun _ _ _ _ _ => pe_call G hr (by rfl) m1 k1 b1 .nil pass0 (pa_cons (pv 3) (pa_cons (pv 1) (pa_cons (pv 2) pa_nil))))) pa_nil))))), ?_⟩
    refine ⟨_, rfl, by show 2 ≤ sizeLine; decide, fun q hq => ?_⟩
    have s1 : Same H (upd H q (.tup [.ty "list", .ty "tuple"])) := Same.new hq
    obtain ⟨t, ty, kt⟩ := seqTy (K := K) (sq.same s1)
    refine ⟨.ref a, q, _, t, _, true, rfl, upd_same, cls2, ty, kt, true, rfl, iteF ?_⟩
    refine ⟨_, rfl, _, _, rfl, (sq.same s1).len, rfl, _, rfl, ?_⟩
    have el : decide (V.int (xs.length : Nat) = V.int 0) = false := decide_eq_false fun z => by
      have z' : ((xs.length : Nat) : Int) = 0 := V.int.inj z
      omega
    rw [el]
    refine iteF ?_
    refine ⟨_, rfl, _, _, rfl, (sq.same s1).len, _, _, rfl, rfl, ?_⟩
    have fin : ∀ (D : Addr) (H' : Hp), Same (upd H q (.tup [.ty "list", .ty "tuple"])) H' → H' D = some (.lst ((List.range xs.length).map fun _ => V.bl true)) →
        ∃ (b : Addr) (bs : List Bool), [V.ref D] = [V.ref b] ∧ SqL K H' b (bs.map V.bl) ∧ Q (.bl (bs.all id)) H' := by
      intro D H' s2 hD
      refine ⟨D, List.replicate xs.length true, rfl, SqL.of ?_, ?_⟩
      · rw [hD, range_const, List.map_replicate]
      · rw [show (List.replicate xs.length true).all id = true by simp]
        exact k H' (s1.trans s2)
    have el : ∀ (i : Nat) (x : V) (H' : Hp) (Q' : VK), Same (upd H q (.tup [.ty "list", .ty "tuple"])) H' → xs[i]? = some x → (∀ H4, Same H' H4 → Q' (.bl true) H4) →
        tCall spAreStates [] E0 (tCons (tVar 3) (tCons (tVar 1) (tCons (tVar 2) tNil))) ((wipe [some (V.ref a), some (.int z.length), some (.int ((xs.length : Nat) - 1)), none] [3]).set 3 (some x)) H' Q' := by
      intro i x H' Q' s2 hx' q
      have hi : i < tb.length := by
        have := (List.getElem?_eq_some_iff.mp hx').1
        omega
      obtain ⟨r, e1, e2⟩ := rows.2 i hi
      rw [e1] at hx'
      cases hx'
      obtain ⟨l1, l2⟩ := Tb.at_ hi
      have zf := Z.few
      refine ⟨_, rfl, _, rfl, _, rfl, r, tb.getD i [], ((tb.length : Nat) : Int) - 1, ?_, e2.same (s1.trans s2), by omega, fun v hv => ?_, q⟩
      · show [V.ref r, V.int (z.length : Nat), V.int ((xs.length : Nat) - 1)] = [V.ref r, V.int ((tb.getD i []).length : Nat), V.int ((tb.length : Nat) - 1)]
        rw [l1, hx]
      · have := l2 v hv
        omega
    have few' : xs.length < sizeLine := by rw [sizeLine_eq]; omega
    rcases sq.same s1 with hl | ht
    · exact .inl ⟨_, rfl, a, rfl, ⟨_, SqL.of hl⟩, fun D hD => lcMap walk_list (fun _ => .bl true) few' hD (fun H' e => SqL.of (e _ _ hl)) (fun _ _ _ _ y => y.1) (fun i x H' Q' _ e y q => el i x H' Q' e y.2 q) (fin D)⟩
    · exact .inr ⟨_, rfl, a, rfl, ⟨_, SqT.of ht⟩, fun D hD => lcMap walk_tup (fun _ => .bl true) few' hD (fun H' e => SqT.of (e _ _ ht)) (fun _ _ _ _ y => y.1) (fun i x H' Q' _ e y q => el i x H' Q' e y.2 q) (fin D)⟩
end
end Kx
set_option Elab.async false
set_option maxRecDepth 100000
set_option autoImplicit false
namespace Kx
open PySem L2 PySem.Spec PyProof.Rows Rg
/-! ### the machine's fields -/
theorem f12 : ¬ (("_signs" : Str) = "_steps") := by decide +kernel
theorem f13 : ¬ (("_signs" : Str) = "_told") := by decide +kernel
theorem f23 : ¬ (("_steps" : Str) = "_told") := by decide +kernel
def mf1 (z : Str) : List (Str × V) := putF "_signs" (.str z) []
def mf2 (z : Str) (st : Addr) : List (Str × V) := putF "_steps" (.ref st) (mf1 z)
def mf (z : Str) (st tt : Addr) : List (Str × V) := putF "_told" (.ref tt) (mf2 z st)
theorem mf1_len (z : Str) : (mf1 z).length < 1000 := by show 1 < 1000; decide
theorem mf2_eq (z : Str) (st : Addr) : mf2 z st = ([("_signs", V.str z), ("_steps", V.ref st)] : List (Str × V)) := by
  show (if ("_signs" : Str) = "_steps" then [(("_signs" : Str), V.ref st)] else (("_signs" : Str), V.str z) :: putF "_steps" (V.ref st) []) = ([("_signs", V.str z), ("_steps", V.ref st)] : List (Str × V))
  rw [if_neg f12]
  all_goals rfl
theorem mf2_len (z : Str) (st : Addr) : (mf2 z st).length < 1000 := by rw [mf2_eq]; show 2 < 1000; decide
theorem mf_signs (z : Str) (st tt : Addr) : (mf z st tt).lookup ("_signs" : Str) = some (.str z) := by
  unfold mf mf2 mf1
  rw [lookup_putF, if_neg f13, lookup_putF, if_neg f12, lookup_putF, if_pos rfl]
theorem mf_steps (z : Str) (st tt : Addr) : (mf z st tt).lookup ("_steps" : Str) = some (.ref st) := by
  unfold mf mf2
  rw [lookup_putF, if_neg f23, lookup_putF, if_pos rfl]
theorem mf_told (z : Str) (st tt : Addr) : (mf z st tt).lookup ("_told" : Str) = some (.ref tt) := by
  unfold mf
  rw [lookup_putF, if_pos rfl]
theorem mf_no (z : Str) (st tt : Addr) {m : Str} (h1 : ¬ m = "_signs") (h2 : ¬ m = "_steps") (h3 : ¬ m = "_told") : (mf z st tt).lookup m = none := by
  unfold mf mf2 mf1
  rw [lookup_putF, if_neg h3, lookup_putF, if_neg h2, lookup_putF, if_neg h1]
  all_goals rfl
/-- at p a machine: signs, steps, told -/
def Mach (C : Addr) (H : Hp) (p : Addr) (z : Str) (tb : List (List Int)) (mk : List Bool) : Prop := ∃ dx st tt, H p = some (.ins C dx (mf z st tt)) ∧ TupTab H st tb ∧ H tt = some (.tup (mk.map V.bl))
theorem Same.sq {H H' : Hp} (e : Same H H') {a : Addr} {xs : List V} (h : Sq H a xs) : Sq H' a xs := h.same e
theorem sq_ne {H : Hp} {a p C dx : Addr} {xs : List V} {fs : List (Str × V)} (h : Sq H a xs) (e : H p = some (.ins C dx fs)) : a ≠ p := by
  rintro rfl
  rcases h with h | h <;> (rw [h] at e; cases e)
theorem Sq.ext {H H' : Hp} {a p : Addr} {xs : List V} (h : Sq H a xs) (n : a ≠ p) (e : Ext1 p H H') : Sq H' a xs := h.elim (fun q => .inl (e _ _ n q)) fun q => .inr (e _ _ n q)
theorem Same.ext1 {H H' : Hp} (p : Addr) (e : Same H H') : Ext1 p H H' := fun b o _ q => e b o q

structure MT (K : PySem.W.Frag) (mg : Str → Option Value) (C : Addr) : Prop where
  cl : Cls K C
  n1 : NoAttr K C "_signs"
  n2 : NoAttr K C "_steps"
  n3 : NoAttr K C "_told"
  mgC : mg "Machine" = some (.ref C)

def rTup (K : PySem.W.Frag) : List V → Hp → VK → Prop := fun xs H Q => ∃ p ys, xs = [.ref p] ∧ ((SqL K H p ys ∧ ∀ l, H l = none → Q (.ref l) (upd H l (.tup ys))) ∨ (SqT K H p ys ∧ Q (.ref p) H))
theorem bTup {X : Cx} {e : Expr} {te : TE} {p pos : Pos} (hg : Gl X "tuple") (m : X.mg "tuple" = none) (he : PE X e te) (na : starEach [e] X.env = (false, eval e X.env) :: starEach [] X.env := by rfl) : PE X (.Call (.Name "tuple" p) [e] [] pos) (tCB (rTup X.K) (tCons te tNil)) :=
  pe_callTy call_tuple_of hg m (by decide +kernel) (pa_cons he pa_nil na) (he := na)
/-- tuple of a list or of a tuple, over a heap that only grows -/
theorem rTup_of {K : PySem.W.Frag} {H : Hp} {a : Addr} {xs : List V} {Q : VK} (h : Sq H a xs) (k : ∀ l H', Same H H' → (∀ b, H b ≠ none → H' b = H b) → H' l = some (.tup xs) → Q (.ref l) H') : rTup K [.ref a] H Q := by
  rcases h with h | h
  · exact ⟨a, xs, rfl, .inl ⟨SqL.of h, fun l hl => k l _ (Same.new hl) (fun b nb => upd_ne fun q => nb (q ▸ hl)) upd_same⟩⟩
  · exact ⟨a, xs, rfl, .inr ⟨SqT.of h, k a H (Same.refl H) (fun _ _ => rfl) h⟩⟩

def spInit (C : Addr) : Sp := fun vs H Q _ => ∃ (p dx a b : Addr) (z : Str) (xs : List V) (tb : List (List Int)) (mk : List Bool), vs = [.ref p, .str z, .ref a, .ref b] ∧ H p = some (.ins C dx []) ∧ Zok z ∧ Sq H a xs ∧ Rows (Sq H) xs tb ∧ Tab z tb ∧ Sq H b (mk.map V.bl) ∧ mk.length = tb.length ∧
  ∀ H', Ext1 p H H' → Mach C H' p z tb mk → Q .non H'
section
variable {P : Program} {w : World} {K : PySem.W.Frag} {mg : Str → Option Value} {base : Heap}
theorem scInit : FnScope ["self", "signs", "steps", "told", "onward"] ["self", "signs", "steps", "told"] (defScope sInit) := ⟨rfl, rfl, rfl, by decide +kernel, rfl, by decide +kernel, by decide +kernel⟩
theorem ok_init {C f f1 f2 f3 : Addr} {fd fd1 fd2 fd3 : FuncData} (F : Fun K "__init__" "Machine.__init__" sInit f fd) (T : Txt mg) (M : MT K mg C)
    (G1 : FnOk P w K mg base CX0 3 f1 fd1 ["value"] spCheckSigns) (m1 : mg "check_signs" = some (.ref f1)) (k1 : PySem.W.keepIn K (.ref f1) = true) (b1 : Binds K fd1 ["value"] [])
    (G2 : FnOk P w K mg base CX0 4 f2 fd2 ["value", "many"] spAreSteps) (m2 : mg "are_steps" = some (.ref f2)) (k2 : PySem.W.keepIn K (.ref f2) = true) (b2 : Binds K fd2 ["value", "many"] [])
    (G3 : FnOk P w K mg base CX0 1 f3 fd3 ["value", "many"] spAreAnswers) (m3 : mg "are_answers" = some (.ref f3)) (k3 : PySem.W.keepIn K (.ref f3) = true) (b3 : Binds K fd3 ["value", "many"] []) :
    FnOk P w K mg base CX0 5 f fd ["self", "signs", "steps", "told"] (spInit C) := by
  refine F.ok scInit (fun vs H Q E h => ?_) (fun cdv A outer s H vs Q E hr h => ?_)
  · obtain ⟨p, dx, a, b, z, xs, tb, mk, rfl, _⟩ := h
    rfl
  · obtain ⟨p, dx, a, b, z, xs, tb, mk, rfl, hp, Z, sa, rows, Tb, sb, ml, k⟩ := h
    have nd := scInit.nd
    have hr3 := hr.mono (show 3 ≤ 4 by decide)
    have hr1 := hr.mono (show 1 ≤ 4 by decide)
    refine ⟨_, pss_cons (ps_expr (pe_call G1 hr3 (by rfl) m1 k1 b1 .nil pass0 (pa_cons (pv 1) pa_nil)))
      (pss_cons (ps_if (pt_not (pt_val (pe_call G2 hr (by rfl) m2 k2 b2 .nil pass0 (pa_cons (pv 2) (pa_cons (bLen (by rfl) T.len (pv 1)) pa_nil))))) (pss_one ps_never) pss_nil)
      (pss_cons (ps_if (pt_not (pt_val (pe_call G3 hr1 (by rfl) m3 k3 b3 .nil pass0 (pa_cons (pv 3) (pa_cons (bLen (by rfl) T.len (pv 2)) pa_nil))))) (pss_one ps_never) pss_nil)
      (pss_cons (ps_fld (pv 0) (pv 1) rfl)
      (pss_cons (ps_fld (pv 0) (bTup (by rfl) T.tuple (pe_lc (own := [("onward", 4)]) (g := gName 4) (tt := tYes) (te := tCB (rTup K) (tCons (tVar 4) tNil)) rfl nd (PI_or (pi_list (pv 2)) (pi_tup (pv 2))) (blkOk_by (N := ["self", "signs", "steps", "told", "onward"]) (sc := defScope sInit) (by decide +kernel))
        (fun _ _ _ _ _ => pg_name (i := 4) nd rfl (Or.inl rfl)) (fun _ _ _ _ _ => pts_nil) (fun _ _ _ _ _ => bTup (by rfl) T.tuple (pv 4)))) rfl)
      (pss_one (ps_fld (pv 0) (bTup (by rfl) T.tuple (pv 3)) rfl)))))), ?_⟩
    have zf := Z.few
    have hx := rows.1
    refine ⟨_, rfl, z, rfl, Z, ?_⟩
    refine ⟨_, rfl, _, rfl, _, z.length, rfl, ⟨len_small (by omega), rfl⟩, a, z, xs, tb, rfl, sa, rows, Z, Tb, fun H1 s1 => ⟨true, rfl, iteF ?_⟩⟩
    refine ⟨_, rfl, _, rfl, _, _, rfl, (sa.same s1).len, b, mk, ?_, sb.same s1, by have := Tb.few; omega, fun H2 s2 => ⟨true, rfl, iteF ?_⟩⟩
    · rw [hx, ml]
      rfl
    have s02 : Same H H2 := Same.trans s1 s2
    have hp2 := s02 _ _ hp
    have na := sq_ne sa hp
    have nb := sq_ne sb hp
    refine ⟨_, rfl, _, rfl, p, C, dx, [], rfl, hp2, M.cl, M.n1, by show 0 < 1000; decide, ?_⟩
    have h3p : upd H2 p (.ins C dx (putF "_signs" (.str z) [])) p = some (.ins C dx (mf1 z)) := upd_same
    have x3 : Ext1 p H (upd H2 p (.ins C dx (putF "_signs" (.str z) []))) := Ext1.trans (Same.ext1 p s02) Ext1.put
    generalize upd H2 p (.ins C dx (putF "_signs" (.str z) [])) = H3 at h3p x3 ⊢
    have sa3 : Sq H3 a xs := sa.ext na x3
    have sb3 : Sq H3 b (mk.map V.bl) := sb.ext nb x3
    have rows3 : Rows (Sq H3) xs tb := rows.mono fun r ys h => h.ext (sq_ne h hp) x3
    have few' : xs.length < sizeLine := by have := Tb.few; rw [sizeLine_eq]; omega
    have rest : ∀ (D : Addr) (H' : Hp) (acc : List V), H3 D = none → H' D = some (.lst acc) → acc.length = xs.length → (Same H3 H' ∧ ∀ j, j < xs.length → ∃ r, acc[j]? = some (.ref r) ∧ H' r = some (.tup ((tb.getD j []).map V.int))) →
        rTup K [.ref D] H' fun y H5 => tVar 0 (L2.start ["self", "signs", "steps", "told", "onward"] [V.ref p, .str z, .ref a, .ref b]) H5 fun x H6 => ∃ a1 C dx fs, x = .ref a1 ∧ H6 a1 = some (.ins C dx fs) ∧ Cls K C ∧ NoAttr K C "_steps" ∧ fs.length < 1000 ∧
          sFld K (tVar 0) (tCB (rTup K) (tCons (tVar 3) tNil)) "_told" { nx := fun _ H' => Q .non H', rt := Q } (L2.start ["self", "signs", "steps", "told", "onward"] [V.ref p, .str z, .ref a, .ref b]) (upd H6 a1 (.ins C dx (putF "_steps" y fs))) := by
      intro D H' acc dn hD hl ⟨s4, hr4⟩
      refine rTup_of (.inl hD) fun st H5 s5 _ hst => ?_
      have p5 : H5 p = some (.ins C dx (mf1 z)) := s5 _ _ (s4 _ _ h3p)
      refine ⟨_, rfl, p, C, dx, _, rfl, p5, M.cl, M.n2, mf1_len z, ?_⟩
      refine ⟨_, rfl, ?_⟩
      dsimp only [tNil]
      refine rTup_of (xs := mk.map V.bl) ?_ fun tt H7 s7 _ htt => ?_
      · exact ((sb3.same s4).same s5).ext nb Ext1.put
      have p6 : H7 p = some (.ins C dx (mf2 z st)) := s7 _ _ upd_same
      refine ⟨_, rfl, p, C, dx, _, rfl, p6, M.cl, M.n3, mf2_len z st, ?_⟩
      have tp : ∀ {l : Addr} {ys : List V}, H5 l = some (.tup ys) → upd H7 p (.ins C dx (mf z st tt)) l = some (.tup ys) := fun {l ys} e => by
        have n : l ≠ p := by rintro rfl; rw [p5] at e; cases e
        rw [upd_ne n]
        refine s7 _ _ ?_
        rw [upd_ne n]; exact e
      refine k _ ?_ ⟨dx, st, tt, upd_same, ⟨acc, tp hst, hl.trans hx, fun j hj => ?_⟩, ?_⟩
      · exact Ext1.trans x3 (Ext1.trans (Same.ext1 p s4) (Ext1.trans (Same.ext1 p s5) (Ext1.trans Ext1.put (Ext1.trans (Same.ext1 p s7) Ext1.put))))
      · obtain ⟨r, e1, e2⟩ := hr4 j (by omega)
        exact ⟨r, e1, tp (s5 _ _ e2)⟩
      · have n : tt ≠ p := by rintro rfl; rw [p6] at htt; cases htt
        rw [upd_ne n]; exact htt
    have el : ∀ (D : Addr) (i : Nat) (x : V) (H' : Hp) (acc : List V) (Q' : VK), H3 D = none → xs[i]? = some x → H' D = some (.lst acc) → acc.length = i → (Same H3 H' ∧ ∀ j, j < i → ∃ r, acc[j]? = some (.ref r) ∧ H' r = some (.tup ((tb.getD j []).map V.int))) →
        (∀ y H4, H4 D = some (.lst acc) → (Same H3 (upd H4 D (.lst (acc ++ [y]))) ∧ ∀ j, j < i + 1 → ∃ r, (acc ++ [y])[j]? = some (.ref r) ∧ upd H4 D (.lst (acc ++ [y])) r = some (.tup ((tb.getD j []).map V.int))) → Q' y H4) →
        tCB (rTup K) (tCons (tVar 4) tNil) ((wipe (L2.start ["self", "signs", "steps", "told", "onward"] [V.ref p, .str z, .ref a, .ref b]) [4]).set 4 (some x)) H' Q' := by
      intro D i x H' acc Q' dn hxi hD hl ⟨s4, hr4⟩ q
      have hi : i < tb.length := by
        have := (List.getElem?_eq_some_iff.mp hxi).1
        omega
      obtain ⟨r, e1, e2⟩ := rows3.2 i hi
      rw [e1] at hxi
      cases hxi
      refine ⟨_, rfl, rTup_of (e2.same s4) fun l H5 s5 _ h5 => q _ H5 (s5 _ _ hD) ⟨Same.putNew dn (Same.trans s4 s5), fun j hj => ?_⟩⟩
      have nD : ∀ {c : Addr} {ys : List V}, H5 c = some (.tup ys) → c ≠ D := fun {c ys} e => by rintro rfl; rw [s5 _ _ hD] at e; cases e
      rcases Nat.lt_succ_iff_lt_or_eq.mp hj with hj | rfl
      · obtain ⟨r, e3, e4⟩ := hr4 j hj
        refine ⟨r, ?_, ?_⟩
        · rw [List.getElem?_append_left (by omega)]; exact e3
        · rw [upd_ne (nD (s5 _ _ e4))]; exact s5 _ _ e4
      · refine ⟨l, ?_, ?_⟩
        · rw [← hl]; simp
        · rw [upd_ne (nD h5)]; exact h5
    rcases sa3 with hl | ht
    · refine .inl ⟨_, rfl, a, rfl, ⟨_, SqL.of hl⟩, fun D hD => lcGen walk_list (fun i H' acc => Same H3 H' ∧ ∀ j, j < i → ∃ r, acc[j]? = some (.ref r) ∧ H' r = some (.tup ((tb.getD j []).map V.int))) few' ⟨Same.new hD, fun j hj => absurd hj (Nat.not_lt_zero _)⟩ (fun i H' acc _ q => SqL.of (q.1 _ _ hl)) (fun _ _ _ _ y => y.1)
        (fun i x H' acc Q' _ h1 h2 h3 y h4 => el D i x H' acc Q' hD y.2 h1 h2 h3 h4) (fun H' acc h1 h2 h3 => rest D H' acc hD h1 h2 h3)⟩
    · refine .inr ⟨_, rfl, a, rfl, ⟨_, SqT.of ht⟩, fun D hD => lcGen walk_tup (fun i H' acc => Same H3 H' ∧ ∀ j, j < i → ∃ r, acc[j]? = some (.ref r) ∧ H' r = some (.tup ((tb.getD j []).map V.int))) few' ⟨Same.new hD, fun j hj => absurd hj (Nat.not_lt_zero _)⟩ (fun i H' acc _ q => SqT.of (q.1 _ _ ht)) (fun _ _ _ _ y => y.1)
        (fun i x H' acc Q' _ h1 h2 h3 y h4 => el D i x H' acc Q' hD y.2 h1 h2 h3 h4) (fun H' acc h1 h2 h3 => rest D H' acc hD h1 h2 h3)⟩
end
end Kx
set_option Elab.async false
set_option maxRecDepth 100000
set_option autoImplicit false
namespace Kx
open PySem L2 PySem.Spec PyProof.Rows Rg
abbrev sLetters : Stmt := top 47
abbrev sPlan : Stmt := top 48
abbrev sLaw : Stmt := top 53

/-! ### the pen at p, its cells at c; all else grows -/
def Ink (c p : Addr) (n : Nat) (H H' : Hp) : Prop := Ext1 p H H' ∧ PenAt c n H' p
theorem PenAt.ne1 {c p q : Addr} {n : Nat} {H : Hp} (h : PenAt c n H p) (e : H q = none) : q ≠ p := by
  rintro rfl
  obtain ⟨ns, a, g, h1, _⟩ := h
  rw [h1] at e; cases e
theorem PenAt.ne2 {c p q : Addr} {n : Nat} {H : Hp} (h : PenAt c n H p) (e : H q = none) : q ≠ c := by
  rintro rfl
  obtain ⟨ns, a, g, _, h2, _⟩ := h
  rw [h2] at e; cases e
theorem PenAt.put {c p q : Addr} {n : Nat} {H : Hp} {o : HO} (h : PenAt c n H p) (n1 : q ≠ p) (n2 : q ≠ c) : PenAt c n (upd H q o) p := by
  obtain ⟨ns, a, g, h1, h2, h3⟩ := h
  exact ⟨ns, a, g, by rw [upd_ne n1.symm]; exact h1, by rw [upd_ne n2.symm]; exact h2, h3⟩
theorem Ink.start {c p : Addr} {n : Nat} {H : Hp} (h : PenAt c n H p) : Ink c p n H H := ⟨Ext1.refl p H, h⟩
theorem Ink.trans {c p : Addr} {n m : Nat} {H H1 H2 : Hp} (a : Ink c p n H H1) (b : Ink c p m H1 H2) : Ink c p m H H2 := ⟨Ext1.trans a.1 b.1, b.2⟩
theorem Ink.same {c p : Addr} {n : Nat} {H H1 H2 : Hp} (a : Ink c p n H H1) (b : Same H1 H2) : Ink c p n H H2 := ⟨Ext1.trans a.1 (Same.ext1 p b), a.2.ext b⟩
theorem Ink.new {c p q : Addr} {n : Nat} {H H1 : Hp} {o : HO} (a : Ink c p n H H1) (e : H1 q = none) : Ink c p n H (upd H1 q o) := a.same (Same.new e)
theorem Ink.mono {c p : Addr} {n m : Nat} {H H1 : Hp} (a : Ink c p n H H1) (l : n ≤ m) : Ink c p m H H1 := ⟨a.1, a.2.mono l⟩
/-- what is new to H may change: H grows all the same -/
theorem Ext1.putNew {p q : Addr} {H H1 : Hp} {o : HO} (a : Ext1 p H H1) (e : H q = none) : Ext1 p H (upd H1 q o) := fun b u n z => by rw [upd_ne (ne_of_none z e)]; exact a b u n z
theorem Ink.putNew {c p q : Addr} {n k : Nat} {H H1 : Hp} {o : HO} (a : Ink c p n H H1) (s : PenAt c k H p) (e : H q = none) : Ink c p n H (upd H1 q o) := ⟨a.1.putNew e, a.2.put (s.ne1 e) (s.ne2 e)⟩

/-! ### _law_pen -/
def spPen (K : PySem.W.Frag) : Sp := fun vs H Q _ => ∃ (a : Addr) (ns : List Int), vs = [.ref a] ∧ SqL K H a (ns.map V.int) ∧ ns.length ≤ 63 ∧ ∀ c p H', Same H H' → PenAt c 0 H' p → Q (.ref p) H'
theorem bList {X : Cx} {e : Expr} {te : TE} {p pos : Pos} (hg : Gl X "list") (m : X.mg "list" = none) (he : PE X e te) (na : starEach [e] X.env = (false, eval e X.env) :: starEach [] X.env := by rfl) :
    PE X (.Call (.Name "list" p) [e] [] pos) (tCB (fun xs H Q => ∃ p ys, xs = [.ref p] ∧ (SqL X.K H p ys ∨ SqT X.K H p ys) ∧ ∀ l, H l = none → Q (.ref l) (upd H l (.lst ys))) (tCons te tNil)) :=
  pe_callTy call_list_of hg m (by decide +kernel) (pa_cons he pa_nil na) (he := na)
section
variable {P : Program} {w : World} {K : PySem.W.Frag} {mg : Str → Option Value} {base : Heap}
theorem scPen : FnScope ["_law_script"] ["_law_script"] (defScope sPen) := ⟨rfl, rfl, rfl, by decide +kernel, rfl, by decide +kernel, by decide +kernel⟩
theorem ok_pen {f : Addr} {fd : FuncData} (F : Fun K "_law_pen" "_law_pen" sPen f fd) (T : Txt mg) : FnOk P w K mg base CX0 1 f fd ["_law_script"] (spPen K) := by
  refine F.ok scPen (fun vs H Q E h => ?_) (fun cdv A outer s H vs Q E hr h => ?_)
  · obtain ⟨a, ns, rfl, _⟩ := h
    rfl
  · obtain ⟨a, ns, rfl, hs, hl, k⟩ := h
    refine ⟨_, pss_one (ps_ret (pe_lst (pa_cons (bList (by rfl) T.list (pe_slice sl_list (pv 0) po_none (po_some pe_int))) (pa_cons pe_int (pa_cons pe_int pa_nil))))), ?_⟩
    refine ⟨_, rfl, _, rfl, a, _, rfl, hs, fun q hq => ?_⟩
    have e : cutV (ns.map V.int) none (some 63) = ns.map V.int := by
      unfold cutV
      rw [show HT.sIx (ns.map V.int).length 0 none = 0 from rfl, show HT.sIx (ns.map V.int).length (ns.map V.int).length (some 63) = min 63 (ns.map V.int).length from HT.sIx_nat _ _ 63, List.drop_zero, Nat.sub_zero]
      exact List.take_of_length_le (by rw [List.length_map]; omega)
    rw [e]
    refine ⟨q, _, rfl, .inl (SqL.of upd_same), fun c hc => ⟨by show 3 ≤ sizeLine; decide, fun p hp => ?_⟩⟩
    have cp : c ≠ p := by rintro rfl; rw [upd_same] at hp; cases hp
    refine k c p _ ?_ ⟨ns, 0, 0, upd_same, by rw [upd_ne cp, upd_same], cp, hl, by decide, by decide⟩
    exact Same.trans (Same.new hq) (Same.trans (Same.new hc) (Same.new hp))

/-! ### _law_pick, _law_letters -/
theorem ix_or {X : Cx} {r1 r2 : R2} (h1 : IxR X r1) (h2 : IxR X r2) : IxR X (fun x y H Q => r1 x y H Q ∨ r2 x y H Q) := fun a b pins s σ H x y v u Q I rx ry h hs => h.elim (fun h => h1 a b pins s σ H x y v u Q I rx ry h hs) (fun h => h2 a b pins s σ H x y v u Q I rx ry h hs)
def spPick : Sp := fun vs H Q _ => ∃ (c p : Addr) (n : Nat), n ≤ 1000000 ∧ PenAt c n H p ∧
  ((∃ a xs, vs = [.ref p, .ref a] ∧ a ≠ p ∧ H a = some (.lst xs) ∧ 0 < xs.length ∧ xs.length ≤ 1000 ∧ ∀ v H', v ∈ xs → PenAt c (n + 1) H' p → Ext1 p H H' → Q v H') ∨
  (∃ z : Str, vs = [.ref p, .str z] ∧ 0 < z.length ∧ z.length ≤ 1000 ∧ ∀ d H', d ∈ z.cps.toList → PenAt c (n + 1) H' p → Ext1 p H H' → Q (.str ⟨#[d]⟩) H'))
theorem atI_some {α : Type} {xs : List α} {i : Int} (i0 : 0 ≤ i) (i1 : i < xs.length) : ∃ v, v ∈ xs ∧ atI xs i = some v := by
  have h : i.toNat < xs.length := by omega
  exact ⟨xs[i.toNat], List.getElem_mem h, atI_int i0 (List.getElem?_eq_getElem h)⟩
theorem scPick : FnScope ["_law_pen_here", "_law_some"] ["_law_pen_here", "_law_some"] (defScope sPick) := ⟨rfl, rfl, rfl, by decide +kernel, rfl, by decide +kernel, by decide +kernel⟩
theorem ok_pick {f f1 : Addr} {fd fd1 : FuncData} (F : Fun K "_law_pick" "_law_pick" sPick f fd) (T : Txt mg) (G : FnOk P w K mg base CX0 1 f1 fd1 ["_law_pen_here", "_law_many"] spDraw) (m1 : mg "_law_draw" = some (.ref f1)) (k1 : PySem.W.keepIn K (.ref f1) = true)
    (b1 : Binds K fd1 ["_law_pen_here", "_law_many"] []) : FnOk P w K mg base CX0 2 f fd ["_law_pen_here", "_law_some"] spPick := by
  refine F.ok scPick (fun vs H Q E h => ?_) (fun cdv A outer s H vs Q E hr h => ?_)
  · obtain ⟨c, p, n, _, _, ⟨a, xs, rfl, _⟩ | ⟨z, rfl, _⟩⟩ := h <;> rfl
  · obtain ⟨c, p, n, nb, pen, h⟩ := h
    refine ⟨_, pss_one (ps_ret (pe_ix (ix_or ix_list ix_str) (pv 1) (pe_call G hr (by rfl) m1 k1 b1 .nil pass0 (pa_cons (pv 0) (pa_cons (bLen (by rfl) T.len (pv 1)) pa_nil))) (fun _ _ => rfl))), ?_⟩
    rcases h with ⟨a, xs, rfl, ap, ha, l0, l1, k⟩ | ⟨z, rfl, l0, l1, k⟩
    · refine ⟨_, rfl, _, rfl, _, rfl, _, _, rfl, Sq.len (.inl ha), c, p, _, n, rfl, by omega, by omega, nb, pen, fun r H' r0 r1 pen' x => ?_⟩
      obtain ⟨v, hv, e⟩ := atI_some r0 r1
      exact .inl ⟨a, xs, r, v, rfl, rfl, SqL.of (x _ _ ap ha), e, k v H' hv pen' x⟩
    · refine ⟨_, rfl, _, rfl, _, rfl, _, z.length, rfl, ⟨len_small l1, rfl⟩, c, p, _, n, rfl, by omega, by omega, nb, pen, fun r H' r0 r1 pen' x => ?_⟩
      obtain ⟨v, hv, e⟩ := atI_some (xs := z.cps.toList) r0 (by rw [Array.length_toList]; exact r1)
      exact .inr ⟨z, r, v, rfl, rfl, len_small l1, e, k v H' hv pen' x⟩
def spLetters : Sp := fun vs H Q _ => ∃ (c p : Addr) (n : Nat), vs = [.ref p] ∧ n ≤ 1000000 ∧ PenAt c n H p ∧ ∀ z H', z ∈ five → Ink c p (n + 1) H H' → Q (.str z) H'
theorem scLetters : FnScope ["_law_pen_here"] ["_law_pen_here"] (defScope sLetters) := ⟨rfl, rfl, rfl, by decide +kernel, rfl, by decide +kernel, by decide +kernel⟩
theorem ok_letters {f f1 : Addr} {fd fd1 : FuncData} (F : Fun K "_law_letters" "_law_letters" sLetters f fd) (G : FnOk P w K mg base CX0 2 f1 fd1 ["_law_pen_here", "_law_some"] spPick) (m1 : mg "_law_pick" = some (.ref f1)) (k1 : PySem.W.keepIn K (.ref f1) = true)
    (b1 : Binds K fd1 ["_law_pen_here", "_law_some"] []) : FnOk P w K mg base CX0 3 f fd ["_law_pen_here"] spLetters := by
  refine F.ok scLetters (fun vs H Q E h => ?_) (fun cdv A outer s H vs Q E hr h => ?_)
  · obtain ⟨c, p, n, rfl, _⟩ := h
    rfl
  · obtain ⟨c, p, n, rfl, nb, pen, k⟩ := h
    refine ⟨_, pss_one (ps_ret (pe_call G hr (by rfl) m1 k1 b1 .nil pass0 (pa_cons (pv 0) (pa_cons (pe_lst (pa_cons pe_str (pa_cons pe_str (pa_cons pe_str (pa_cons pe_str (pa_cons pe_str (pa_cons pe_str pa_nil))))))) pa_nil)))), ?_⟩
    refine ⟨_, rfl, by show 6 ≤ sizeLine; decide, fun q hq => ⟨c, p, n, nb, pen.new hq, .inl ⟨q, _, rfl, pen.ne1 hq, upd_same, by decide, by decide, fun v H' hv pen' x => ?_⟩⟩⟩
    have i1 : Ink c p (n + 1) H H' := ⟨Ext1.trans (Ext1.new hq) x, pen'⟩
    simp only [List.mem_cons, List.not_mem_nil, or_false] at hv
    rcases hv with rfl | rfl | rfl | rfl | rfl | rfl <;> exact k _ _ (by decide) i1

/-! ### _law_spot -/
/-- at a a table as lists, beside the pen -/
def LTab (p : Addr) (H : Hp) (a : Addr) (tb : List (List Int)) : Prop := a ≠ p ∧ ∃ xs, H a = some (.lst xs) ∧ Rows (fun r ys => r ≠ p ∧ H r = some (.lst ys)) xs tb
theorem LTab.ext {p a : Addr} {H H' : Hp} {tb : List (List Int)} (h : LTab p H a tb) (e : Ext1 p H H') : LTab p H' a tb := by
  obtain ⟨n, xs, h1, h2⟩ := h
  exact ⟨n, xs, e _ _ n h1, h2.mono fun r ys q => ⟨q.1, e _ _ q.1 q.2⟩⟩
end
end Kx
set_option Elab.async false
set_option maxRecDepth 100000
set_option autoImplicit false
namespace Kx
open PySem L2 PySem.Spec PyProof.Rows Rg
theorem Rows.snoc {R : Addr → List V → Prop} {xs : List V} {tb : List (List Int)} {a : Addr} {row : List Int} (h : Rows R xs tb) (r : R a (row.map V.int)) : Rows R (xs ++ [.ref a]) (tb ++ [row]) := by
  refine ⟨by rw [List.length_append, List.length_append, h.1] <;> rfl, fun i hi => ?_⟩
  rw [List.length_append, List.length_singleton] at hi
  rcases Nat.lt_succ_iff_lt_or_eq.mp hi with hi | rfl
  · obtain ⟨b, e, q⟩ := h.2 i hi
    refine ⟨b, by rw [List.getElem?_append_left (by rw [h.1]; exact hi)]; exact e, ?_⟩
    rw [List.getD_eq_getElem?_getD, List.getElem?_append_left hi, ← List.getD_eq_getElem?_getD]
    exact q
  · refine ⟨a, by rw [List.getElem?_append_right (by rw [h.1] <;> exact Nat.le_refl _), h.1, Nat.sub_self] <;> rfl, ?_⟩
    rw [List.getD_eq_getElem?_getD, List.getElem?_append_right (Nat.le_refl _), Nat.sub_self]
    exact r
theorem Rows.nil {R : Addr → List V → Prop} : Rows R [] [] := ⟨rfl, fun _ h => absurd h (Nat.not_lt_zero _)⟩
def spPlan : Sp := fun vs H Q _ => ∃ (c p : Addr) (n : Nat) (z : Str) (b : Int), vs = [.ref p, .str z, .int b] ∧ 0 < b ∧ b ≤ 8 ∧ n ≤ 900000 ∧ PenAt c n H p ∧ Zok z ∧
  ∀ (t a b : Addr) (tb : List (List Int)) (mk : List Bool) (H' : Hp), H' t = some (.tup [.ref a, .ref b]) → LTab p H' a tb → Tab z tb → b ≠ p → H' b = some (.lst (mk.map V.bl)) → mk.length = tb.length → Ink c p (n + 41) H H' → Q (.ref t) H'
section
variable {P : Program} {w : World} {K : PySem.W.Frag} {mg : Str → Option Value} {base : Heap}
def plScope : Scope := { kind := .function, names := [(".0", .local), ("_law_spot", .local), ("_law_letters_here", .cell), ("_law_many", .cell), ("_law_pen_here", .cell)], isGenerator := false, isCoroutine := false }
abbrev nPlan : List Str := ["_law_pen_here", "_law_letters_here", "_law_bound", "_law_many", "_law_table", "_law_letter", "_law_spot"]
theorem scPlan : FnScope nPlan ["_law_pen_here", "_law_letters_here", "_law_bound"] (defScope sPlan) := ⟨rfl, rfl, rfl, by decide +kernel, rfl, by decide +kernel, by decide +kernel⟩
theorem ok_plan {f f1 : Addr} {fd fd1 : FuncData} (F : Fun K "_law_plan" "_law_plan" sPlan f fd) (T : Txt mg)
    (G1 : FnOk P w K mg base CX0 1 f1 fd1 ["_law_pen_here", "_law_many"] spDraw) (m1 : mg "_law_draw" = some (.ref f1)) (k1 : PySem.W.keepIn K (.ref f1) = true) (b1 : Binds K fd1 ["_law_pen_here", "_law_many"] []) :
    FnOk P w K mg base CX0 2 f fd ["_law_pen_here", "_law_letters_here", "_law_bound"] spPlan := by
  refine F.ok scPlan (fun vs H Q E h => ?_) (fun cdv A outer s H vs Q E hr h => ?_)
  · obtain ⟨c, p, n, z, b, rfl, _⟩ := h
    rfl
  · obtain ⟨c, p, n, z, bd, rfl, bd0, bd8, nb, pen, Z, k⟩ := h
    have nd := scPlan.nd
    have zf := Z.few
    refine ⟨_, pss_cons (ps_set (i := 3) nd rfl (.inr rfl) (pe_op op_add pe_int (pe_call G1 hr (by rfl) m1 k1 b1 .nil pass0 (pa_cons (pv 0) (pa_cons (pv 2) pa_nil)))))
      (pss_cons (ps_setLc (i := 4) (own := [("_law_spot", 6)]) (g := gName 6) (tt := tYes) (te := tLc (iStr (tVar 1)) (gName 5) tYes (tCall spDraw [] E0 (tCons (tVar 0) (tCons (tVar 3) tNil))) [5]) rfl nd rfl rfl rfl (pi_range1 (by rfl) T.range (pa_cons (pv 3) pa_nil))
          (blkOk_by (N := nPlan) (sc := defScope sPlan) (by decide +kernel)) (fun _ _ _ _ _ => pg_name (i := 6) nd rfl (Or.inl rfl)) (fun _ _ _ _ _ => pts_nil)
          (fun _ _ _ _ _ => pe_lc (own := [("_law_letter", 5)]) (g := gName 5) (tt := tYes) rfl nd (pi_str (pv 1)) (blkOk_by (N := nPlan) (sc := plScope) (by decide +kernel)) (fun _ _ _ _ _ => pg_name (i := 5) nd rfl (Or.inl rfl)) (fun _ _ _ _ _ => pts_nil)
            (fun _ _ _ _ _ => pe_call G1 hr (by rfl) m1 k1 b1 .nil pass0 (pa_cons (pv 0) (pa_cons (pv 3) pa_nil)))))
      (pss_one (ps_ret (pe_tup (pa_cons (pv 4) (pa_cons (pe_lc (own := [("_law_spot", 6)]) (g := gName 6) (tt := tYes) rfl nd (pi_range1 (by rfl) T.range (pa_cons (pv 3) pa_nil))
          (blkOk_by (N := nPlan) (sc := defScope sPlan) (by decide +kernel)) (fun _ _ _ _ _ => pg_name (i := 6) nd rfl (Or.inl rfl)) (fun _ _ _ _ _ => pts_nil)
          (fun _ _ _ _ _ => pe_cmpR op_eq (pe_call G1 hr (by rfl) m1 k1 b1 .nil pass0 (pa_cons (pv 0) (pa_cons pe_int pa_nil))) pe_int (nomark _))) pa_nil)))))), ?_⟩
    refine ⟨_, rfl, _, rfl, c, p, bd, n, rfl, bd0, by omega, by omega, pen, fun r H0 r0 r1 pen0 x0 => ⟨_, _, rfl, rfl, ?_⟩⟩
    have hm0 : 0 < 1 + r := by omega
    have hm8 : 1 + r ≤ 8 := by omega
    have hn : (1 + r).toNat ≤ 8 := by omega
    have hmN : (((1 + r).toNat : Nat) : Int) = (1 + r) := by omega
    refine ⟨_, rfl, (1 + r), rfl, by omega, by omega, fun D hD => ?_⟩
    refine lcGen walk_range (fun i H' acc => Ink c p (n + 1 + 4 * i) H0 H' ∧ ∃ tb : List (List Int), tb.length = i ∧ (∀ row ∈ tb, row.length = z.length ∧ ∀ v ∈ row, 0 ≤ v ∧ v < (1 + r)) ∧ Rows (fun a ys => a ≠ p ∧ a ≠ D ∧ H' a = some (.lst ys)) acc tb) (by rw [sizeLine_eq]; omega)
      ⟨(Ink.start pen0).putNew pen0 hD, [], rfl, fun d hd => absurd hd (List.not_mem_nil), Rows.nil⟩ (fun _ _ _ _ _ => trivial) (fun _ _ _ _ y => y.1) ?_ ?_
    · rintro i x H' acc Q' hi hDl hl ⟨ink, tb, tl, wide, rows⟩ y q
      refine ⟨_, rfl, z, rfl, fun D2 hD2 => ?_⟩
      have d2p := ink.2.ne1 hD2
      have d2D : D2 ≠ D := by rintro rfl; rw [hDl] at hD2; cases hD2
      have dp := pen0.ne1 hD
      refine lcGen walk_str (fun j H4 acc2 => Ink c p (n + 1 + 4 * i + j) H' H4 ∧ ∃ row : List Int, acc2 = row.map V.int ∧ ∀ v ∈ row, 0 ≤ v ∧ v < (1 + r)) (by show z.length < sizeLine; rw [sizeLine_eq]; omega) ⟨(Ink.start ink.2).putNew ink.2 hD2, [], rfl, fun d hd => absurd hd (List.not_mem_nil)⟩ (fun _ _ _ _ _ => trivial) (fun _ _ _ _ y => y.1) ?_ ?_
      · rintro j x2 H4 acc2 Q2 hj hD2l hl2 ⟨ink2, row, rfl, sub⟩ y2 q2
        have hj' : j < z.length := hj
        refine ⟨_, rfl, _, rfl, c, p, (1 + r), n + 1 + 4 * i + j, rfl, hm0, by omega, by omega, ink2.2, fun v H5 v0 v1 pen5 x5 => q2 _ H5 (x5 _ _ d2p hD2l) ⟨(Ink.trans ink2 ⟨x5, pen5⟩).putNew ink.2 hD2, row ++ [v], by simp, fun u hu => ?_⟩⟩
        rcases List.mem_append.mp hu with hu | hu
        · exact sub u hu
        · rw [List.mem_singleton.mp hu]; exact ⟨v0, v1⟩
      · rintro H4 acc2 hD2l hl2 ⟨ink2, row, rfl, sub⟩
        rw [List.length_map] at hl2
        have hl2' : row.length = z.length := hl2
        refine q (.ref D2) H4 (ink2.1 _ _ dp hDl) ⟨((Ink.trans ink ink2).mono (by show _ + z.length ≤ _; omega)).putNew pen0 hD, tb ++ [row], by rw [List.length_append, tl] <;> rfl, fun rw' hr => ?_, Rows.snoc (rows.mono fun a ys h => ⟨h.1, h.2.1, ?_⟩) ⟨d2p, d2D, ?_⟩⟩
        · rcases List.mem_append.mp hr with hr | hr
          · exact wide rw' hr
          · rw [List.mem_singleton.mp hr]; exact ⟨hl2', sub⟩
        · rw [upd_ne h.2.1]; exact ink2.1 _ _ h.1 h.2.2
        · rw [upd_ne d2D]; exact hD2l
    · rintro H1 acc hDl hl ⟨ink, tb, tl, wide, rows⟩
      have dp := pen0.ne1 hD
      have ink1 : Ink c p (n + 33) H H1 := ⟨Ext1.trans x0 ink.1, ink.2.mono (by omega)⟩
      have tab : Tab z tb := ⟨by omega, by omega, fun row hr => ⟨(wide row hr).1, fun v hv => by have := (wide row hr).2 v hv; omega⟩⟩
      refine ⟨_, rfl, _, rfl, (1 + r), rfl, by omega, by omega, fun B hB => ?_⟩
      have bp := ink1.2.ne1 hB
      have bD : B ≠ D := by rintro rfl; rw [hDl] at hB; cases hB
      refine lcGen walk_range (fun i H' acc2 => Ink c p (n + 33 + i) H1 H' ∧ ∃ mk : List Bool, acc2 = mk.map V.bl) (by rw [sizeLine_eq]; omega) ⟨(Ink.start ink1.2).putNew ink1.2 hB, [], rfl⟩ (fun _ _ _ _ _ => trivial) (fun _ _ _ _ y => y.1) ?_ ?_
      · rintro i x H' acc2 Q' hi hBl hl2 ⟨ink2, mk, rfl⟩ y q
        refine ⟨_, rfl, c, p, 2, n + 33 + i, rfl, by decide, by decide, by omega, ink2.2, fun v H5 v0 v1 pen5 x5 => ?_⟩
        exact ⟨rfl, q _ H5 (x5 _ _ bp hBl) ⟨(Ink.trans ink2 ⟨x5, pen5⟩).putNew ink1.2 hB, mk ++ [decide (V.int v = V.int 0)], by simp⟩⟩
      · rintro H2 acc2 hBl hl2 ⟨ink2, mk, rfl⟩
        rw [List.length_map] at hl2
        refine ⟨by show 2 ≤ sizeLine; decide, fun t ht => ?_⟩
        have tD : t ≠ D := by rintro rfl; rw [ink2.1 _ _ dp hDl] at ht; cases ht
        have tB : t ≠ B := by rintro rfl; rw [hBl] at ht; cases ht
        have i3 : Ext1 p H1 (upd H2 t (.tup [.ref D, .ref B])) := Ext1.trans ink2.1 (Ext1.new ht)
        refine k t D B tb mk _ upd_same ⟨dp, acc, i3 _ _ dp hDl, rows.mono fun a ys h => ⟨h.1, i3 _ _ h.1 h.2.2⟩⟩ tab bp (by rw [upd_ne tB.symm]; exact hBl) (by omega) ⟨Ext1.trans ink1.1 i3, ?_⟩
        exact (ink2.2.mono (by omega)).new ht
end
end Kx
set_option Elab.async false
set_option maxRecDepth 100000
set_option autoImplicit false
namespace Kx
open PySem L2 PySem.Spec PyProof.Rows Rg
/-! ### keywords -/
theorem kbMk {K : PySem.W.Frag} {x qual : Str} {st : Stmt} {f : Addr} {fd : FuncData} {ps ks : List Str} {n : Nat} {g : List Value → List Value → List Value} {gV : List V → List V → List V} (F : L2.Fun K x qual st f fd)
    (h : ∀ (kV doc pm : Value) (an : Option Addr) (cdv ct : Value) (us ws : List Value), us.length = n → ws.length = ks.length → bindArgs (PySem.W.fnOf x qual (defArgs st) (defBody st) (defScope st) .none kV doc pm an cdv ct) ⟨us, ks.zip ws⟩ = pure (ps.zip (g us ws)))
    (rel : ∀ {vs : List V} {us : List Value} {zs : List V} {ws : List Value}, Vals vs us → Vals zs ws → Vals (gV vs zs) (g us ws)) : KBn K fd ps n ks g gV := by
  obtain ⟨oc, od, kV, doc, pm, an, cdv, ct, osl, rfl, lk, hcd⟩ := F.ex
  exact ⟨fun s us ws _ l1 l2 => .of_eq (h kV doc pm an cdv ct us ws l1 l2), rel⟩
theorem vapp {vs : List V} {us : List Value} {zs : List V} {ws : List Value} (a : Vals vs us) (b : Vals zs ws) : Vals (vs ++ zs) (us ++ ws) := by
  induction a with
  | nil => exact b
  | cons r _ ih => exact .cons r ih
theorem vrev {vs : List V} {us : List Value} (a : Vals vs us) : Vals vs.reverse us.reverse := by
  induction a with
  | nil => exact .nil
  | cons r _ ih => rw [List.reverse_cons, List.reverse_cons]; exact vapp ih (.cons r .nil)

/-! ### what stays with a machine -/
theorem Mach.keep {C q : Addr} {H H' : Hp} {z : Str} {tb : List (List Int)} {mk : List Bool} (h : Mach C H q z tb mk) (e : ∀ b o, H b = some o → (∀ xs, o ≠ .lst xs) → H' b = some o) : Mach C H' q z tb mk := by
  obtain ⟨dx, st, tt, h1, ⟨xs, h2, h3⟩, h4⟩ := h
  exact ⟨dx, st, tt, e _ _ h1 (fun _ z => nomatch z), ⟨xs, e _ _ h2 (fun _ z => nomatch z), h3.mono fun a ys q => e _ _ q (fun _ z => nomatch z)⟩, e _ _ h4 (fun _ z => nomatch z)⟩
theorem Mach.put {C q a : Addr} {H : Hp} {o : HO} {xs : List V} {z : Str} {tb : List (List Int)} {mk : List Bool} (h : Mach C H q z tb mk) (l : H a = some (.lst xs)) : Mach C (upd H a o) q z tb mk :=
  h.keep fun b u e n => by
    rw [upd_ne]
    · exact e
    · rintro rfl
      rw [l] at e
      exact n xs (Option.some.inj e).symm
theorem Mach.same {C q : Addr} {H H' : Hp} {z : Str} {tb : List (List Int)} {mk : List Bool} (h : Mach C H q z tb mk) (e : Same H H') : Mach C H' q z tb mk := h.keep fun b u q _ => e b u q
theorem Mach.ink {C c p q : Addr} {n m : Nat} {H H' : Hp} {z : Str} {tb : List (List Int)} {mk : List Bool} (h : Mach C H q z tb mk) (pen : PenAt c m H p) (i : Ink c p n H H') : Mach C H' q z tb mk := h.keep fun b u e k => i.1 b u (by
    rintro rfl
    obtain ⟨ns, a, g, h1, _⟩ := pen
    rw [h1] at e
    exact k _ (Option.some.inj e).symm) e
theorem Ink.free {c p q : Addr} {n m : Nat} {H H' : Hp} (i : Ink c p n H H') (pen : PenAt c m H p) (e : H' q = none) : H q = none := by
  cases z : H q with
  | none => rfl
  | some o =>
    rw [i.1 q o (i.2.ne1 e) z] at e
    cases e

/-! ### rows laid anew -/
def LcW (J : It) (v : Nat) (te : TE) (σ : L2.St) (H1 : Hp) (D : Addr) (Qd : Hp → Prop) : Prop := ∃ W : Nat → Nat → Hp → Prop, (∃ m, W 0 m (upd H1 D (.lst []))) ∧ ∀ i m H, W i m H →
      (J.stop i H ∧ Qd H) ∨ (J.go i H ∧ ∃ Nx : Hp → Prop, (∀ H', Nx H' → ∃ m', m' < m ∧ W (i + 1) m' H') ∧ ∀ x H', J.yld i H x H' → gName v x (wipe σ [v]) H' fun σ2 H2 => wipe σ2 [v] = wipe σ [v] ∧ tYes σ2 H2 fun b H3 =>
        if b = true then te σ2 H3 fun y H4 => ∃ acc, H4 D = some (.lst acc) ∧ acc.length < sizeLine ∧ Nx (upd H4 D (.lst (acc ++ [y]))) else Nx H3)
def rLst (K : PySem.W.Frag) : List V → Hp → VK → Prop := fun xs H Q => ∃ p ys, xs = [.ref p] ∧ (SqL K H p ys ∨ SqT K H p ys) ∧ ∀ l, H l = none → Q (.ref l) (upd H l (.lst ys))
theorem bLst {X : Cx} {e : Expr} {te : TE} {p pos : Pos} (hg : Gl X "list") (m : X.mg "list" = none) (he : PE X e te) (na : starEach [e] X.env = (false, eval e X.env) :: starEach [] X.env := by rfl) :
    PE X (.Call (.Name "list" p) [e] [] pos) (tCB (rLst X.K) (tCons te tNil)) := bList hg m he na
/-- rows of a list, each told by what a copy's maker makes: f tells its kind -/
theorem lcRows {K : PySem.W.Frag} {a : Addr} {xs : List V} {tb : List (List Int)} {v : Nat} {te : TE} {σ : L2.St} {H1 : Hp} {D : Addr} {Qd : Hp → Prop} (f : List V → HO) (hD : H1 D = none) (ha : H1 a = some (.lst xs)) (rows : Rows (fun r ys => H1 r = some (.lst ys)) xs tb) (few : tb.length ≤ 8)
    (el : ∀ (r : Addr) (ys : List V) (H' : Hp) (Q : VK), H' r = some (.lst ys) → (∀ l, H' l = none → Q (.ref l) (upd H' l (f ys))) → te ((wipe σ [v]).set v (some (.ref r))) H' Q)
    (hd : ∀ H' acc, Same H1 H' → H' D = some (.lst acc) → Rows (fun l ys => l ≠ D ∧ H1 l = none ∧ H' l = some (f ys)) acc tb → Qd H') : LcW (Itl K a) v te σ H1 D Qd := by
  have hx := rows.1
  refine lcGen walk_list (fun i H' acc => Same H1 H' ∧ ∀ j, j < i → ∃ r, acc[j]? = some (.ref r) ∧ r ≠ D ∧ H1 r = none ∧ H' r = some (f ((tb.getD j []).map V.int))) (by rw [sizeLine_eq]; omega) ⟨Same.new hD, fun j hj => absurd hj (Nat.not_lt_zero _)⟩
    (fun i H' acc _ q => SqL.of (q.1 _ _ ha)) (fun _ _ _ _ y => y.1) ?_ (fun H' acc h1 h2 h3 => hd H' acc h3.1 h1 ⟨by omega, fun j hj => h3.2 j (by omega)⟩)
  rintro i x H' acc Q' hi hDl hl ⟨s4, hr4⟩ y q
  obtain ⟨r, e1, e2⟩ := rows.2 i (by omega)
  have e3 := y.2
  rw [e1] at e3
  cases e3
  refine el r _ H' Q' (s4 _ _ e2) (fun l hl5 => ?_)
  have nD : l ≠ D := (ne_of_none hDl hl5).symm
  have s5 : Same H' (upd H' l (f ((tb.getD i []).map V.int))) := Same.new hl5
  refine q _ _ (s5 _ _ hDl) ⟨Same.putNew hD (Same.trans s4 s5), fun j hj => ?_⟩
  rcases Nat.lt_succ_iff_lt_or_eq.mp hj with hj | rfl
  · obtain ⟨r', e4, e5, e6, e7⟩ := hr4 j hj
    refine ⟨r', ?_, e5, e6, ?_⟩
    · rw [List.getElem?_append_left (by omega)]; exact e4
    · rw [upd_ne e5]; exact s5 _ _ e7
  · refine ⟨l, ?_, nD, Same.free s4 hl5, ?_⟩
    · rw [← hl]; simp
    · rw [upd_ne nD]; exact upd_same
end Kx
set_option Elab.async false
set_option maxRecDepth 100000
set_option autoImplicit false
namespace Kx
open PySem L2 PySem.Spec PyProof.Rows Rg
/-! ### data that repr may tell -/
structure Tame (d : PyData) (h w : Nat) : Prop where
  sh : d.showable = true
  hd : d.hasDict = false
  dp : d.depth ≤ h
  ls : d.leavesShort 13 = true
  wt : d.weight ≤ w
structure Tames (ds : List PyData) (h w : Nat) : Prop where
  sh : PyData.showableAll ds = true
  hd : PyData.hasDictAll ds = false
  dp : PyData.depthAll ds ≤ h
  ls : PyData.leavesShortAll 13 ds = true
  wt : PyData.weightAll ds ≤ w
theorem Tames.nil {h w : Nat} : Tames [] h w := ⟨rfl, rfl, Nat.zero_le _, rfl, Nat.zero_le _⟩
theorem Tames.cons {d : PyData} {ds : List PyData} {h w1 w2 w : Nat} (a : Tame d h w1) (b : Tames ds h w2) (e : w1 + 1 + w2 ≤ w) : Tames (d :: ds) h w := by
  refine ⟨?_, ?_, ?_, ?_, ?_⟩
  · simp only [PyData.showableAll, a.sh, b.sh, Bool.and_self]
  · simp only [PyData.hasDictAll, a.hd, b.hd, Bool.or_self]
  · simp only [PyData.depthAll]; exact Nat.max_le.mpr ⟨a.dp, b.dp⟩
  · simp only [PyData.leavesShortAll, a.ls, b.ls, Bool.and_self]
  · simp only [PyData.weightAll]
    have := a.wt
    have := b.wt
    omega
theorem Tames.all {h w : Nat} : ∀ {ds : List PyData} {W : Nat}, (∀ d ∈ ds, Tame d h w) → ds.length * (w + 1) ≤ W → Tames ds h W
  | [], _, _, _ => .nil
  | d :: r, W, t, e => by
    rw [List.length_cons, Nat.succ_mul] at e
    exact Tames.cons (t d List.mem_cons_self) (Tames.all (fun x hx => t x (List.mem_cons_of_mem _ hx)) (Nat.le_refl _)) (by omega)
theorem Tame.list {ds : List PyData} {h w : Nat} (a : Tames ds h w) : Tame (.list ds) (h + 1) w := ⟨by simp only [PyData.showable, a.sh], by simp only [PyData.hasDict, a.hd], by simp only [PyData.depth]; have := a.dp; omega, by simp only [PyData.leavesShort, a.ls], by simp only [PyData.weight]; exact a.wt⟩
theorem Tame.tup {ds : List PyData} {h w : Nat} (a : Tames ds h w) : Tame (.tuple ds) (h + 1) w := ⟨by simp only [PyData.showable, a.sh], by simp only [PyData.hasDict, a.hd], by simp only [PyData.depth]; have := a.dp; omega, by simp only [PyData.leavesShort, a.ls], by simp only [PyData.weight]; exact a.wt⟩
theorem Tame.mono {d : PyData} {h w h' w' : Nat} (a : Tame d h w) (e1 : h ≤ h') (e2 : w ≤ w') : Tame d h' w' := ⟨a.sh, a.hd, Nat.le_trans a.dp e1, a.ls, Nat.le_trans a.wt e2⟩
theorem Tame.bool (b : Bool) {h w : Nat} : Tame (.bool b) h w := ⟨by simp only [PyData.showable], by simp only [PyData.hasDict], by simp only [PyData.depth]; exact Nat.zero_le _, by simp only [PyData.leavesShort], by simp only [PyData.weight]; exact Nat.zero_le _⟩
theorem Tame.int {i : Int} {h w : Nat} (i0 : 0 ≤ i) (i1 : i < 1000) (e : 10 ≤ w) : Tame (.int i) h w := by
  have l : i.natAbs.log2 < 10 := by
    by_cases z : i.natAbs = 0
    · rw [z]; decide
    · exact (Nat.log2_lt z).mpr (by omega)
  refine ⟨?_, by simp only [PyData.hasDict], by simp only [PyData.depth]; exact Nat.zero_le _, ?_, ?_⟩
  · simp only [PyData.showable, decide_eq_true_eq]; omega
  · simp only [PyData.leavesShort, decide_eq_true_eq]; exact PyData.shown_int_le (by omega)
  · simp only [PyData.weight]
    split <;> omega
theorem Tame.text {z : Str} {h w : Nat} (m : z ∈ five) (e : 4 ≤ w) : Tame (.str z) h w := by
  refine ⟨by simp only [PyData.showable], by simp only [PyData.hasDict], by simp only [PyData.depth]; exact Nat.zero_le _, ?_, ?_⟩
  · have q : five.all (fun z => (PyData.str z).leavesShort 13) = true := by decide +kernel
    exact List.all_eq_true.mp q z m
  · simp only [PyData.weight]
    exact Nat.le_trans (zok m).few e
theorem Tame.fits {d : PyData} {h w : Nat} (a : Tame d h w) (e : w ≤ 1048576) : d.shown.length ≤ sizeLine := PyData.shown_fits (B := 13) (by decide) (by decide) a.ls (Nat.le_trans a.wt e)
theorem rRepr_of {K : PySem.W.Frag} {H : Hp} {a : Addr} {d : PyData} {h w : Nat} {Q : VK} (r : Rp K H (.ref a) d) (t : Tame d h w) (e1 : h ≤ 20) (e2 : w ≤ 1048576) (k : Q (.str d.shown) H) : rRepr K [.ref a] H Q := ⟨a, d, rfl, r, t.sh, t.hd, Nat.le_trans t.dp e1, t.fits e2, k⟩

/-! ### reading what stands in the heap -/
def rowD (r : List Int) : PyData := .tuple (r.map PyData.int)
theorem pairAt {α β : Type} {F : α → β → Prop} : ∀ {xs : List α} {ys : List β}, xs.length = ys.length → (∀ (i : Nat) (x : α) (y : β), xs[i]? = some x → ys[i]? = some y → F x y) → Paired F xs ys
  | [], [], _, _ => .nil
  | x :: xs, y :: ys, e, f => .cons (f 0 x y rfl rfl) (pairAt (by simpa using e) fun i a b h1 h2 => f (i + 1) a b (by simpa using h1) (by simpa using h2))
theorem rpInts {K : PySem.W.Frag} {H : Hp} : ∀ ns : List Int, Paired (Rp K H) (ns.map V.int) (ns.map PyData.int)
  | [] => .nil
  | n :: r => .cons (.int n) (rpInts r)
theorem rpBools {K : PySem.W.Frag} {H : Hp} : ∀ ns : List Bool, Paired (Rp K H) (ns.map V.bl) (ns.map PyData.bool)
  | [] => .nil
  | n :: r => .cons (.bl n) (rpBools r)
theorem rpRows {K : PySem.W.Frag} {H : Hp} {xs : List V} {tb : List (List Int)} (h : Rows (fun r ys => H r = some (.tup ys)) xs tb) : Paired (Rp K H) xs (tb.map rowD) := by
  refine pairAt (by rw [List.length_map]; exact h.1) fun i x y h1 h2 => ?_
  rw [List.getElem?_map] at h2
  cases e : tb[i]? with
  | none => rw [e] at h2; cases h2
  | some r =>
    rw [e] at h2
    cases h2
    obtain ⟨a, e1, e2⟩ := h.2 i (List.getElem?_eq_some_iff.mp e).1
    rw [e1] at h1
    cases h1
    rw [List.getD_eq_getElem?_getD, e] at e2
    exact .tup (SqT.of e2) (rpInts r)
def dueD (z : Str) (tb : List (List Int)) (mk : List Bool) : PyData := .list [.str z, .tuple (tb.map rowD), .tuple (mk.map PyData.bool), .int (tb.length : Nat)]
theorem tame_due {z : Str} {tb : List (List Int)} {mk : List Bool} (m : z ∈ five) (Tb : Tab z tb) (ml : mk.length = tb.length) : Tame (dueD z tb mk) 3 1000 := by
  have few := Tb.few
  have zf := (zok m).few
  refine .list (.cons (w1 := 4) (w2 := 900) (.text m (Nat.le_refl _)) (.cons (w1 := 500) (w2 := 300) (.tup (h := 1) (.all (w := 50) (fun d hd => ?_) ?_)) (.cons (w1 := 100) (w2 := 50) (.tup (h := 1) (.all (w := 0) (fun d hd => ?_) ?_)) (.cons (w1 := 10) (w2 := 0) (.int (by omega) (by omega) (Nat.le_refl _)) .nil (by decide)) (by decide)) (by decide)) (by decide))
  · obtain ⟨r, hr, rfl⟩ := List.mem_map.mp hd
    obtain ⟨l, v⟩ := Tb.row r hr
    refine .tup (h := 0) (.all (w := 10) (fun d hd => ?_) (by rw [List.length_map]; omega))
    obtain ⟨i, hi, rfl⟩ := List.mem_map.mp hd
    have := v i hi
    exact .int (by omega) (by omega) (Nat.le_refl _)
  · rw [List.length_map]; omega
  · obtain ⟨i, hi, rfl⟩ := List.mem_map.mp hd
    exact .bool i
  · rw [List.length_map]; omega
theorem rp_due {K : PySem.W.Frag} {a s1 s2 : Addr} {H : Hp} {z : Str} {xs : List V} {tb : List (List Int)} {mk : List Bool} (h1 : H s1 = some (.tup xs)) (rows : Rows (fun r ys => H r = some (.tup ys)) xs tb) (h2 : H s2 = some (.tup (mk.map V.bl))) (h3 : H a = some (.lst [.str z, .ref s1, .ref s2, .int (tb.length : Nat)])) : Rp K H (.ref a) (dueD z tb mk) :=
  .lst (SqL.of h3) (.cons (.str z) (.cons (.tup (SqT.of h1) (rpRows rows)) (.cons (.tup (SqT.of h2) (rpBools mk)) (.cons (.int _) .nil))))
end Kx
set_option Elab.async false
set_option maxRecDepth 100000
set_option autoImplicit false
/-! An error class of the program whose __init__ hands a text to the one above and keeps its fields. -/
namespace Er
open PySem L2 PySem.Spec PyProof.Rows PySem.Calls
abbrev veInit : String := "ValueError.__init__"
section
variable {prog : Program} {w : World} {A : Around} {E : Value → Shared → Prop} {K : PySem.W.Frag} {h : Heap} {g : Array GenState} {d : Drawn} {t : Nat} {os : OsState}
variable {nm q : Str} {C N : Addr} {bs bm : List Value} {sn : List Str} {sub : List Value} {ab : Bool} {col : Option Bool} {dd : Option Addr} {k0 k1 k2 k3 k5 : Option Value}
/-- the bound wrapper is called: the args are laid, else all stays -/
theorem wrapCall {u e t0 : Addr} {rest : List Value} {Q : Value → Shared → Prop} (hC : h.get? C = some (excClassObj nm q C N bs bm true sn sub ab col dd k0 k1 k2 k3 k5 "ValueError.__new__"))
    (hu : h.get? u = some (PySem.W.kxs_mw veInit e)) (he : h.get? e = some (PySem.HandSPX.excO C t0)) (few : rest.length ≤ sizeLine)
    (go : ∀ h' t1, (∀ b o, b ≠ e → h.get? b = some o → h'.get? b = some o) → h'.get? e = some (PySem.HandSPX.excO C t1) → Q .none ⟨h', g, d, t, os⟩) : wpAny (model prog w) A (call (.ref u) rest) Q E ⟨h, g, d, t, os⟩ := by
  refine wpAny_call (codeAny_of_tree ?_)
  show wpAny (model prog w) A.in1 (callAny (.ref u) ⟨rest, []⟩) _ _ _
  simp only [callAny]
  refine wpAny_bind (wpAny_load hu ?_)
  have k1' : (Value.type "method-wrapper" == Value.type "method" || Value.type "method-wrapper" == Value.type "builtin_function_or_method" || Value.type "method-wrapper" == Value.type "method-wrapper") = true := by decide
  simp only [k1', if_true]
  refine PySem.W.KFB.if_so (by decide) (wpAny_bind ?_)
  refine PySem.W.check_bound_init PySem.F.excBase_ValueError.toExcCallFacts hC he rfl (wpAny_bind (wpAny_pure (wpAny_pure ⟨plainId_quiet PySem.F.excBase_ValueError.init.plain _, codeAny_builtin PySem.F.excBase_ValueError.initEntry ?_⟩)))
  refine PySem.W.exc_init_tree (cls := .ref C) (t0 := t0) (dv := none) (c2 := .none) (c3 := .none) (b4 := .bool false) he few fun h' a b _ => go h' _ a b
/-- what is written of such a class, and of its __init__ at fI, whose cell is at cc, whose code at cda -/
structure ErrC (prog : Program) (K : PySem.W.Frag) (C fI cc cda : Addr) : Prop where
  cls : ∃ nm q N bs bm sn sub ab col dd k0 k1 k2 k3 k5, K.lookup C = some (excClassObj nm q C N bs bm true sn sub ab col dd k0 k1 k2 k3 k5 "ValueError.__new__") ∧ PySem.HandSPX.refsVE bm = true
  sup : PySem.W.ks_superIn K C C "__init__" = some (some (.builtin veInit))
  any_ : PySem.W.nsIn K cStatics "thirdparty.any" = some none
  ve : PySem.W.subIn K (.ref C) (.type "ValueError") = some true
  self_ : PySem.W.mroIn K C (.ref C) = some true
  cell : ∃ cl cld csl, K.lookup cc = some ⟨cl, cld, .cell (some (.ref C)), csl⟩
  code : ∃ ccl cdd vs ccs file tf, K.lookup cda = some ⟨ccl, cdd, .fields vs, ccs⟩ ∧ vs[2]? = some (.str file tf) ∧ ((prog.main.file : Str) == file) = true
  top : (prog.main.scope.names.lookup ("super" : Str)).isSome = false
/-- super().__init__("..") -/
theorem superLine {fI cc cda x L t0 : Addr} {fd : FuncData} {oc : Value} {od : Option Addr} {osl : Array (Option Value)} {ar : Arg} {m mg mb : Str → Option Value} {qual msg : Str} {scope : Scope} {body : List Stmt} {j : Nat} {p0 p1 p2 p3 p4 p5 : Pos} {pl : Sem Bool} {Q : Flow → Shared → Prop}
    (T : ErrC prog K C fI cc cda) (X : K.In h) (lk : K.lookup fI = some ⟨oc, od, .func fd, osl⟩) (hp : (fd.params.posonlyargs ++ fd.params.args).head? = some ar) (hks : scope.names.lookup ("super" : Str) = some .globalImplicit) (hkc : scope.names.lookup ("__class__" : Str) = some .free)
    (hka : scope.names.lookup ar.arg = some .local) (hk : scope.kind = .function) (hns : h.Ns L m) (hself : m ar.arg = some (.ref x)) (hx : h.get? x = some (PySem.HandSPX.excO C t0)) (gl : h.Ns mainGlobals mg) (gs : mg "super" = none) (bl : h.Ns builtinsNs mb) (bb : mb "super" = bootBuiltins "super")
    (go : ∀ h' tk t1, (∀ b o, b ≠ x → h.get? b = some o → h'.get? b = some o) → h'.get? x = some (PySem.HandSPX.excO C t1) → Q .next ⟨h', g, d, tk, os⟩)
    (he : eval (.Call (.Attribute (.Call (.Name "super" p0) [] [] p1) "__init__" p2) [.Constant (.str msg) j p3] [] p4) (PySem.W.ksEnv qual scope L fI (.ref cda) cc) = (do
        let ov ← attributeBase (.Call (.Name "super" p0) [] [] p1) "__init__" (PySem.W.ksEnv qual scope L fI (.ref cda) cc) (eval (.Call (.Name "super" p0) [] [] p1) (PySem.W.ksEnv qual scope L fI (.ref cda) cc))
        standAt p2.atName
        let (f, first) ← holding [ov] (getMethod ov "__init__" pl)
        callWith p4 f first (backTo p4 (starEach [.Constant (.str msg) j p3] (PySem.W.ksEnv qual scope L fI (.ref cda) cc))) []) := by rfl)
    (hi : interactive (PySem.W.ksEnv qual scope L fI (.ref cda) cc) = false := by rfl) (hsw : swapsWith (.Call (.Attribute (.Call (.Name "super" p0) [] [] p1) "__init__" p2) [.Constant (.str msg) j p3] [] p4) none p5.line (PySem.W.ksEnv qual scope L fI (.ref cda) cc) = pure false := by rfl) :
    _root_.PySem.wpAt (model prog w) A (.func body (PySem.W.ksEnv qual scope L fI (.ref cda) cc)) (exec (.Expr (.Call (.Attribute (.Call (.Name "super" p0) [] [] p1) "__init__" p2) [.Constant (.str msg) j p3] [] p4) p5) (PySem.W.ksEnv qual scope L fI (.ref cda) cc)) Q E ⟨h, g, d, t, os⟩ := by
  obtain ⟨nm, q, N, bs, bm, sn, sub, ab, col, dd, k0, k1, k2, k3, k5, hC, hbm⟩ := T.cls
  obtain ⟨ccl, cdd, vs, ccs, file, tf, hcode, hvs, hfile⟩ := T.code
  obtain ⟨cl, cld, csl, hcell⟩ := T.cell
  have hcd : ∃ cd, PySem.W.clsIn K C = some cd ∧ PySem.W.alongIn K "__init__" ((cd.mro.dropWhile (· != .ref C)).drop 1) = some (some (.builtin veInit)) := Option.bind_eq_some_iff.mp T.sup
  obtain ⟨cd, hcd, along⟩ := hcd
  have I0 : PySem.W.InstAt h x (PySem.HandSPX.excO C t0) C none := ⟨hx, rfl, rfl, trivial⟩
  have ne : x ≠ C := PySem.W.ks_ne X I0 hcd
  refine PySem.ks_wpAt_Expr_any (PySem.ks_wpAt_MethodCall (PySem.ks_wpAt_super_base (env := PySem.W.ksEnv qual scope L fI (.ref cda) cc) hks hkc (by decide) rfl (X _ _ lk) rfl hp rfl (X _ _ hcode) rfl hvs hfile T.top ?_) he) hi hsw
  refine PySem.W.ks_loadName_global hk hks (loadGlobal_builtin (env := PySem.W.ksEnv qual scope L fI (.ref cda) cc) gl gs bl (bb.trans (by decide +kernel : bootBuiltins "super" = some (.type "super"))) ⟨rfl, ?_⟩)
  refine wpAny_loadName_free hk hkc rfl ⟨_, X _ _ hcell, rfl⟩ (wpAny_loadName_local hk hka hns hself (PySem.ks_wpAny_isType_cls (X _ _ hC) rfl ⟨rfl, ?_⟩))
  refine PySem.ks_wpAny_call_super (X _ _ hC) rfl hx rfl (fun c e => by cases e) (PySem.W.looks_mroIn X T.self_) (fun h1 hso keep => ?_)
  have X1 := X.keeps keep
  have hx1 := keep _ _ hx
  have I1 : PySem.W.InstAt h1 x (PySem.HandSPX.excO C t0) C none := ⟨hx1, rfl, rfl, trivial⟩
  refine PySem.W.kxs_getMethod PySem.W.kxs_ValueError hso (PySem.W.looks_opaque X1 T.any_) (l₀ := cd.mro) (fun A Q E s k q => wpAny_bind (PySem.W.looks_clsIn X1 hcd A _ E s k (wpAny_pure q))) rfl X1 along (I1.type.andThen (PySem.W.looks_subIn X1 T.ve)) ne (by decide) ?_
  have hu : (h1.push (PySem.W.kxs_mw veInit x)).get? h1.objs.size = some (PySem.W.kxs_mw veInit x) := by heap_get
  have k2 : ∀ b o, h1.get? b = some o → (h1.push (PySem.W.kxs_mw veInit x)).get? b = some o := fun b o e => Heap.get?_push_of_some _ e
  refine PySem.W.kxs_callWith (i := veInit) (x := x) rfl (evalArgs_plain (spliced_cons (@Constant_str _ _ _ _ _ _ j p3 _ (spliced_nil ⟨hu, ?_⟩))))
  have keep2 : ∀ b o, h.get? b = some o → (h1.push (PySem.W.kxs_mw veInit x)).get? b = some o := fun b o e => k2 b o (keep b o e)
  refine wrapCall (X.keeps keep2 _ _ hC) hu (keep2 _ _ hx) (by show 1 ≤ sizeLine; decide) fun h' t1 k3 hx' => ?_
  exact (go h' _ t1 (fun b o n e => k3 b o n (keep2 b o e)) hx')
end
end Er
set_option Elab.async false
set_option maxRecDepth 100000
set_option autoImplicit false
namespace Er
open PySem L2 PySem.Spec PyProof.Rows PySem.Calls
/-! ### such an __init__ as a def of the hand's layer -/
theorem lookup_mem {α : Type} {x : Str} {u : α} : ∀ {l : List (Str × α)}, (l.map (·.1)).Nodup → (x, u) ∈ l → l.lookup x = some u
  | [], _, h => absurd h List.not_mem_nil
  | (y, v) :: r, nd, h => by
    rw [List.map_cons, List.nodup_cons] at nd
    rcases List.mem_cons.mp h with e | h'
    · cases e
      simp [List.lookup]
    · have ne : x ≠ y := by
        rintro rfl
        exact nd.1 (List.mem_map.mpr ⟨(_, u), h', rfl⟩)
      have e : (x == y) = false := by simpa using ne
      simp only [List.lookup, e]
      exact lookup_mem nd.2 h'
theorem zip_rev {ps : List Str} {us : List Value} {i : Nat} {x : Str} {u : Value} (nd : ps.Nodup) (l : us.length = ps.length) (h1 : ps[i]? = some x) (h2 : us[i]? = some u) : (ps.zip us).reverse.lookup x = some u := by
  refine lookup_mem ?_ (List.mem_reverse.mpr ?_)
  · rw [List.map_reverse, List.map_fst_zip (by omega)]
    unfold List.Nodup
    rw [List.pairwise_reverse]
    exact nd.imp fun h => h.symm
  · refine List.mem_of_getElem? (i := i) ?_
    rw [List.getElem?_zip_eq_some]
    exact ⟨h1, h2⟩
def exX (P : Program) (w : World) (K : PySem.W.Frag) (mg : Str → Option Value) (base : Heap) (N : List Str) (qual : Str) (scope : Scope) (f cda cc : Addr) (A : Around) (outer : List Env) (s : Shared) (H : Hp) : Cx where
  prog := P
  w := w
  K := K
  mg := mg
  base := base
  A := A.deeper (PySem.W.ksEnv qual scope s.heap.objs.size f (.ref cda) cc)
  N := N
  s_0 := s
  H_0 := H
  env := PySem.W.ksEnv qual scope s.heap.objs.size f (.ref cda) cc
  outer := outer
  stack := PySem.W.ksEnv qual scope s.heap.objs.size f (.ref cda) cc :: outer
  ex := []
  calm := true
  fn := fun _ => false
  pn := []
  xe := fun _ _ => False
/-- the scope of such an __init__ -/
structure ErrS (ps : List Str) (scope : Scope) : Prop where
  kind : scope.kind = .function
  nd : ps.Nodup
  par : ∀ x ∈ ps, scope.names.lookup x = some .local
  nocell : ∀ x ∈ scope.names, x.2 ≠ .cell
  sup : scope.names.lookup ("super" : Str) = some .globalImplicit
  cls : scope.names.lookup ("__class__" : Str) = some .free
  free : ∀ x, scope.names.lookup x = some .free → x = "__class__"
  self_ : ps[0]? = some ("self" : Str)
  co : scope.isCoroutine = false
  gen : scope.isGenerator = false
section
variable {P : Program} {w : World} {K : PySem.W.Frag} {mg : Str → Option Value} {base : Heap}
theorem start_inv {ps : List Str} {qual : Str} {scope : Scope} {C f cda cc : Addr} {A : Around} {outer : List Env} {s : Shared} {H : Hp} {us : List Value} {vs : List V} {h0 : Heap} {tk : Nat} (S : ErrS ps scope) (T : ErrC P K C f cc cda) (hd : A.handled = none) (e0 : Env0 P w K mg base A outer s H)
    (hl : vs.length = ps.length) (r : Vals vs us) (hns : h0.Ns s.heap.objs.size (fun x => (ps.zip us).reverse.lookup x)) (keep : ∀ b o, s.heap.get? b = some o → h0.get? b = some o) :
    Inv (exX P w K mg base ps qual scope f cda cc A outer s H) [] (L2.start ps vs) H { s with heap := h0, toks := tk } := by
  obtain ⟨cl, cld, csl, hcell⟩ := T.cell
  have bc := e0.mod.kin _ _ hcell
  have one : ∀ {x : Str} {c : Addr}, ([(("__class__" : Str), cc)] : List (Str × Addr)).lookup x = some c → x = "__class__" ∧ c = cc := by
    intro x c e
    by_cases q : x = "__class__"
    · subst q
      have z : some cc = some c := e
      exact ⟨rfl, (Option.some.inj z).symm⟩
    · have q2 : (x == ("__class__" : Str)) = false := by simpa using q
      simp [List.lookup, q2] at e
  have noex : ∀ b : Addr, b ∉ (exX P w K mg base ps qual scope f cda cc A outer s H).ex := fun b z => absurd (show b ∈ ([] : List Addr) from z) (by simp)
  refine ⟨⟨e0.mod, S.kind, rfl, rfl, Nat.le_refl _, fun x y c h1 h2 => ?_, fun x hx => ?_, fun x c z _ => absurd (show false = true from z) Bool.false_ne_true, fun _ => hd, Around.frames_deeper e0.frames, .inr ⟨rfl, rfl⟩, fun b z => absurd z (noex b), e0.bs, e0.bsz, fun b _ _ => noex b, fun b z => absurd z (noex b), e0.funs, e0.frf⟩,
    rfl, e0.bare, Un.kept keep, ⟨_, hns, fun i x v h1 h2 h3 => ?_⟩, fun x c h => ?_, e0.hok.fresh (Nat.le_refl _), fun x c h => ?_, fun p hp => absurd (show p ∈ ([] : List (Addr × Obj)) from hp) (by simp), e0.hok.kept keep, ?_⟩
  · exact (one h1).1.trans (one h2).1.symm
  · have hx' : scope.names.lookup x = some .cell ∨ scope.names.lookup x = some .free := hx
    rcases hx' with z | z
    · exact absurd rfl (S.nocell _ (PySem.mem_of_lookup z))
    · refine ⟨cc, ?_⟩
      show ([(("__class__" : Str), cc)] : List (Str × Addr)).lookup x = some cc
      rw [S.free x z]
      rfl
  · have hi : i < vs.length := by
      have q := (List.getElem?_eq_some_iff.mp h1).1
      have q : i < ps.length := q
      omega
    have ha : vs[i]? = some v := by
      unfold L2.start at h2
      rw [List.getElem?_append_left (by simpa using hi), List.getElem?_map] at h2
      cases e : vs[i]? with
      | none => rw [e] at h2; cases h2
      | some a => rw [e] at h2; cases h2; rfl
    obtain ⟨u, hu, rv⟩ := r.get ha
    have hp : ps[i]? = some x := h1
    exact ⟨u, rv, .inl ⟨S.par x (List.mem_of_getElem? hp), zip_rev S.nd (r.length.symm.trans hl) hp hu⟩⟩
  · obtain ⟨_, rfl⟩ := one h
    exact ⟨_, _, keep _ _ (e0.bs _ _ bc).1, rfl⟩
  · obtain ⟨_, rfl⟩ := one h
    exact (e0.bs _ _ bc).2
  · unfold L2.start
    show _ = ps.length
    rw [List.length_append, List.length_map, List.length_replicate]
    omega
end
end Er
set_option Elab.async false
set_option maxRecDepth 100000
set_option autoImplicit false
namespace Er
open PySem L2 PySem.Spec PyProof.Rows PySem.Calls
section
variable {P : Program} {w : World} {K : PySem.W.Frag} {mg : Str → Option Value} {base : Heap}
theorem ok_err {ps : List Str} {name qual msg : Str} {params : Arguments} {body rest : List Stmt} {scope : Scope} {C f cda cc : Addr} {oc dV kV doc pm ct : Value} {od an : Option Addr} {osl : Array (Option Value)} {ar : Arg} {sp : Sp} {j : Nat} {p0 p1 p2 p3 p4 p5 : Pos} {pl : Sem Bool}
    (T : ErrC P K C f cc cda) (S : ErrS ps scope) (lk : K.lookup f = some ⟨oc, od, .func (PySem.W.ksFn name qual params body scope dV kV doc pm an (.ref cda) ct cc), osl⟩) (hcd : PySem.W.codeIn K (.ref cda) qual = true) (gs : mg "super" = none)
    (hp : (params.posonlyargs ++ params.args).head? = some ar) (har : ar.arg = "self") (hb : body = .Expr (.Call (.Attribute (.Call (.Name "super" p0) [] [] p1) "__init__" p2) [.Constant (.str msg) j p3] [] p4) p5 :: rest)
    (len : ∀ vs H Q E, sp vs H Q E → vs.length = ps.length) (first : ∀ vs H Q E, sp vs H Q E → ∃ a ws, vs = .ref a :: ws ∧ H a = some (exo a C none))
    (hbody : ∀ (A : Around) (outer : List Env) (s : Shared) (H : Hp) (vs : List V) (Q : VK) (E : XK), sp vs H Q E →
      ∃ t, PSs (exX P w K mg base ps qual scope f cda cc A outer s H) rest t ∧ t { nx := fun _ H' => Q .non H', rt := Q } (L2.start ps vs) H)
    (he : ∀ L, eval (.Call (.Attribute (.Call (.Name "super" p0) [] [] p1) "__init__" p2) [.Constant (.str msg) j p3] [] p4) (PySem.W.ksEnv qual scope L f (.ref cda) cc) = (do
        let ov ← attributeBase (.Call (.Name "super" p0) [] [] p1) "__init__" (PySem.W.ksEnv qual scope L f (.ref cda) cc) (eval (.Call (.Name "super" p0) [] [] p1) (PySem.W.ksEnv qual scope L f (.ref cda) cc))
        standAt p2.atName
        let (g, first) ← holding [ov] (getMethod ov "__init__" pl)
        callWith p4 g first (backTo p4 (starEach [.Constant (.str msg) j p3] (PySem.W.ksEnv qual scope L f (.ref cda) cc))) []))
    (hi : ∀ L, interactive (PySem.W.ksEnv qual scope L f (.ref cda) cc) = false) (hsw : ∀ L, swapsWith (.Call (.Attribute (.Call (.Name "super" p0) [] [] p1) "__init__" p2) [.Constant (.str msg) j p3] [] p4) none p5.line (PySem.W.ksEnv qual scope L f (.ref cda) cc) = pure false) :
    FnOk P w K mg base CX0 1 f (PySem.W.ksFn name qual params body scope dV kV doc pm an (.ref cda) ct cc) ps sp := by
  refine ⟨len, fun A outer s H args us vs Q E hr e0 hbind r hsp => ?_⟩
  obtain ⟨a, ws, ev, ea⟩ := first _ _ _ _ hsp
  have there : ∀ b o, base.get? b = some o → s.heap.get? b = some o := fun b o e => (e0.bs b o e).1
  have KX : K.In s.heap := e0.mod.kin.keeps there
  have hl := len _ _ _ _ hsp
  refine ks_codeAny_call_defAt hr.depth (KX _ _ lk) rfl (e0.mod.nolimit.keeps there) (PySem.W.codeRec_of KX hcd) rfl hbind S.nocell (fun x hx => S.par _ (List.of_mem_zip hx).1) (fun h0 hns keep => ?_) S.co S.gen S.kind
  have I0 := start_inv (w := w) (qual := qual) (tk := s.toks + (ps.zip us).length) S T hr.hd e0 hl r hns keep
  obtain ⟨t1, ho⟩ := exo_at I0.hok ea
  obtain ⟨t, ht, q⟩ := hbody A outer s H _ Q E hsp
  obtain ⟨mb, hmb, hbb⟩ := e0.mod.blt
  have old : ∀ b o, base.get? b = some o → h0.get? b = some o := fun b o e => keep b o (there b o e)
  have hs0 : (ps.zip us).reverse.lookup ar.arg = some (.ref a) := by
    rw [har]
    subst ev
    cases r with
    | cons r0 r1 =>
      obtain rfl : _ = Value.ref a := r0
      refine zip_rev (i := 0) S.nd ?_ S.self_ rfl
      rw [List.length_cons, ← r1.length]
      exact hl
  have hka : scope.names.lookup ar.arg = some .local := by
    rw [har]
    exact S.par _ (List.mem_of_getElem? S.self_)
  rw [hb]
  refine ks_wpAt_execs_cons ?_
  refine superLine T (e0.mod.kin.keeps old) lk hp S.sup S.cls hka S.kind hns hs0 ho (e0.mod.glob.keeps old) gs (hmb.keeps old) (hbb _ (by decide)) (fun h' tk t2 k3 hx => ?_) (he _) (hi _) (hsw _)
  have J := I0.write (t' := tk) (x := a) (e := a) (o := exo a C none) (by rw [ea]; exact True.intro) (.inl rfl) k3 ⟨_, hx⟩ (exo_ok hx)
  have eu : upd H a (exo a C none) = H := by
    funext b
    by_cases z : b = a
    · rw [z, upd_same, ea]
    · rw [upd_ne z]
  rw [eu] at J
  refine wpAt_of_wpAny (wpAny_mono (ht.run [] _ _ H _ J q) (fun fl s2 out => ?_) fun _ _ z => False.elim z)
  cases fl with
  | ret u => obtain ⟨v, _, H2, J2, rv, q2⟩ := out; exact ⟨v, H2, J2.os, J2.bare, J2.base, J2.hok, rv, q2⟩
  | next => obtain ⟨_, H2, J2, q2⟩ := out; exact ⟨V.non, H2, J2.os, J2.bare, J2.base, J2.hok, rfl, q2⟩
  | brk => obtain ⟨_, _, _, q2⟩ := out; exact q2.elim
  | cont => obtain ⟨_, _, _, q2⟩ := out; exact q2.elim
end
end Er
set_option Elab.async false
set_option maxRecDepth 100000
set_option autoImplicit false
namespace Er
open PySem L2 PySem.Spec PyProof.Rows PySem.Calls
/-- self.f = p behind the text -/
def spErr1 (C : Addr) (f : Str) : Sp := fun vs H Q _ => ∃ a v, vs = [.ref a, v] ∧ H a = some (exo a C none) ∧ ∀ dx, H dx = none → dx ≠ a → Q .non (upd (upd H dx (exd dx [(f, v)])) a (exo a C (some dx)))
def spErr2 (C : Addr) (f g : Str) : Sp := fun vs H Q _ => ∃ a v u, vs = [.ref a, v, u] ∧ H a = some (exo a C none) ∧ ∀ dx, H dx = none → dx ≠ a → Q .non (upd (upd (upd H dx (exd dx [(f, v)])) a (exo a C (some dx))) dx (exd dx [(g, u), (f, v)]))
section
variable {P : Program} {w : World} {K : PySem.W.Frag} {mg : Str → Option Value} {base : Heap}
theorem rest1 {p f qual : Str} {scope : Scope} {C fi cda cc : Addr} {q1 q2 q3 q4 : Pos} (S : ErrS ["self", p] scope) (O : OexC K C) (no : PySem.W.findIn K (.ref C) f = some none) (d1 : (p == ("__debug__" : Str)) = false) (d2 : (p == ("__classdict__" : Str)) = false)
    (A : Around) (outer : List Env) (s : Shared) (H : Hp) (vs : List V) (Q : VK) (E : XK) (h : spErr1 C f vs H Q E) :
    ∃ t, PSs (exX P w K mg base ["self", p] qual scope fi cda cc A outer s H) [.Assign [.Attribute (.Name "self" q1) f q2] (.Name p q3) q4] t ∧ t { nx := fun _ H' => Q .non H', rt := Q } (L2.start ["self", p] vs) H := by
  obtain ⟨a, v, rfl, ea, k⟩ := h
  refine ⟨_, pss_one (ps_ost (pe_var (i := 0) (x := "self") rfl (.inl (S.par _ (by simp)))) (pe_var (i := 1) (x := p) rfl (.inl (S.par _ (by simp))) d1 d2)), ?_⟩
  exact ⟨_, rfl, _, rfl, a, C, rfl, O, no, .inl ⟨ea, fun dx n ne => k dx n ne⟩⟩
theorem rest2 {p p' f g qual : Str} {scope : Scope} {C fi cda cc : Addr} {q1 q2 q3 q4 r1 r2 r3 r4 : Pos} (S : ErrS ["self", p, p'] scope) (O : OexC K C) (no : PySem.W.findIn K (.ref C) f = some none) (no' : PySem.W.findIn K (.ref C) g = some none) (d1 : (p == ("__debug__" : Str)) = false) (d2 : (p == ("__classdict__" : Str)) = false) (d3 : (p' == ("__debug__" : Str)) = false) (d4 : (p' == ("__classdict__" : Str)) = false)
    (A : Around) (outer : List Env) (s : Shared) (H : Hp) (vs : List V) (Q : VK) (E : XK) (h : spErr2 C f g vs H Q E) :
    ∃ t, PSs (exX P w K mg base ["self", p, p'] qual scope fi cda cc A outer s H) [.Assign [.Attribute (.Name "self" q1) f q2] (.Name p q3) q4, .Assign [.Attribute (.Name "self" r1) g r2] (.Name p' r3) r4] t ∧ t { nx := fun _ H' => Q .non H', rt := Q } (L2.start ["self", p, p'] vs) H := by
  obtain ⟨a, v, u, rfl, ea, k⟩ := h
  refine ⟨_, pss_cons (ps_ost (pe_var (i := 0) (x := "self") rfl (.inl (S.par _ (by simp)))) (pe_var (i := 1) (x := p) rfl (.inl (S.par _ (by simp))) d1 d2)) (pss_one (ps_ost (pe_var (i := 0) (x := "self") rfl (.inl (S.par _ (by simp)))) (pe_var (i := 2) (x := p') rfl (.inl (S.par _ (by simp))) d3 d4))), ?_⟩
  refine ⟨_, rfl, _, rfl, a, C, rfl, O, no, .inl ⟨ea, fun dx n ne => ?_⟩⟩
  refine ⟨_, rfl, _, rfl, a, C, rfl, O, no', .inr ⟨dx, _, upd_same, ?_, by show 1 ≤ 900; decide, k dx n ne⟩⟩
  rw [upd_ne ne, upd_same]
end

/-! ### raise C(e) -/
/-- the exception's own dict alone is left in sight -/
theorem left1 {H : Hp} {a d C : Addr} {fs gs : List (Str × V)} (na : H a = none) (o : Option Addr) : upd (del (upd (upd (upd H a (exo a C none)) d (exd d gs)) a (exo a C o)) a) d (.xd fs) = upd H d (.xd fs) := by
  funext b
  by_cases hd : b = d
  · rw [hd, upd_same, upd_same]
  rw [upd_ne hd, upd_ne hd]
  by_cases ha : b = a
  · rw [ha, del_same, na]
  · rw [del_ne ha, upd_ne ha, upd_ne hd, upd_ne ha]
def tRaise1 (C : Addr) (f : Str) (W : WX) (te : TE) : TS := fun _ σ H => te σ H fun v H1 => ∀ d, H1 d = none → W (.ref C) (some d) σ (upd H1 d (.xd [(f, v)]))
/-- a reading, closed upwards -/
def up (te : TE) : TE := fun σ H Q => ∃ R : V → Hp → Prop, te σ H R ∧ ∀ v H1, R v H1 → Q v H1
section
variable {X : Cx}
theorem pe_up {e : Expr} {te : TE} (he : PE X e te) : PE X e (up te) := ⟨fun pins s σ H Q I ⟨R, h, m⟩ => wpAny_mono (he.run pins s σ H R I h) (fun u s1 ⟨v, H1, I1, r, q⟩ => ⟨v, H1, I1, r, m v H1 q⟩) fun _ _ z => z⟩
theorem ps_raise1 {x f : Str} {C fi : Addr} {k : Nat} {fd : FuncData} {ps : List Str} {e : Expr} {te : TE} {W : WX} {p pos pos2 : Pos} (hc : X.calm = true) (tk : Takes X W) (O : OexC X.K C) (iC : PySem.W.findIn X.K (.ref C) "__init__" = some (some (.ref fi))) (tI : PySem.W.typeIn X.K (.ref fi) = some (.type "function"))
    (F : FnOk X.prog X.w X.K X.mg X.base CX0 k fi fd ps (spErr1 C f)) (hr : Room (k + 1) X.A) (hb : Binds X.K fd ps []) (hg : Gl X x) (hm : X.mg x = some (.ref C)) (he : PE X e te) (hdb : (x == ("__debug__" : Str)) = false := by decide)
    (hs : starEach [e] X.env = (false, eval e X.env) :: starEach [] X.env := by rfl) : PS X (.Raise (some (.Call (.Name x p) [e] [] pos)) none pos2) (tRaise1 C f W te) := by
  have R := ps_raise (pos := pos2) hc tk (pmk_oex (p := p) (pos := pos) O iC tI F hr hb .nil pass0 hg hm (pa_cons (pe_up he) pa_nil hs) hdb hs)
  refine ⟨fun pins s σ H D I h => R.run pins s σ H D I ?_⟩
  refine ⟨_, h, fun v H1 q => ⟨by show 1 ≤ 1000; decide, fun a na => ⟨a, v, rfl, upd_same, fun d nd ne => ⟨rfl, d, [(f, v)], upd_same, ?_, ?_, ?_⟩⟩⟩⟩
  · rw [upd_ne ne, upd_same]
  · rw [upd_ne ne] at nd; exact nd
  · rw [upd_ne ne] at nd
    rw [left1 na]
    exact q d nd
end
end Er
set_option Elab.async false
set_option maxRecDepth 100000
set_option autoImplicit false
/-! try: .. except G as n: y = n, and y is looked at behind it: the error stays in sight. -/
namespace Er
open PySem L2 PySem.Spec PyProof.Rows PySem.Calls
/-- at a: a caught error of the class cls, with the dict d -/
def keptE (cls : Value) (d : Option Addr) (a : Addr) : HO := .ext fun h => ∃ (oe : Obj) (vs : Array Value), h.get? a = some oe ∧ Zc cls d oe ∧ oe.data = .fields vs
section
variable {X : Cx} {pins : List (Addr × Obj)} {σ : L2.St} {H : Hp} {s : Shared}
theorem kept_ok {P : Program} {w : World} {G : Hp} {h : Heap} {a : Addr} {cls : Value} {d : Option Addr} {oe : Obj} {vs : Array Value} (e : h.get? a = some oe) (z : Zc cls d oe) (dd : oe.data = .fields vs) : ObjOk P w G h a (keptE cls d a) :=
  ⟨⟨oe, vs, e, z, dd⟩, ⟨oe, e⟩, fun h1 h2 ⟨o1, v1, e1, z1, d1⟩ k => ⟨o1, v1, k _ e1, z1, d1⟩⟩
/-- an object of none of the tracked ones, made behind the entry, comes into sight -/
theorem track {a : Addr} {o : HO} {ob : Obj} {vs : Array Value} (I : Inv X pins σ H s) (hx : X.ex = []) (old : X.s_0.heap.get? a = none) (na : H a = none) (nl : a ≠ X.env.locals) (ha : s.heap.get? a = some ob) (hd : ob.data = .fields vs) (np : ∀ p ∈ X.pn ++ pins, p.1 ≠ a)
    (new : ObjOk X.prog X.w (upd H a o) s.heap a o) : Inv X pins σ (upd H a o) s := by
  have off : ∀ {b : Addr} {u : HO}, H b = some u → upd H a o b = some u := fun {b u} e => by rw [upd_ne (ne_of_none e na)]; exact e
  refine ⟨I.ok, I.os, I.bare, ⟨I.base.keep, I.base.slot, fun b u e n x => ?_, I.base.there, fun b xs e => off (I.base.tups b xs e), fun b u v e => off (I.base.frzs b u v e), fun b ps e => ?_⟩, I.loc, I.cell, ?_, fun x c e => ?_, fun p hp => ?_, I.hok.laidN (fun b u e => e) na new, I.len⟩
  · have ne : b ≠ a := by
      rintro rfl
      rw [old] at e; cases e
    rw [upd_ne ne]
    exact I.base.free b u e n x
  · obtain ⟨more, q⟩ := I.base.tbls b ps e
    exact ⟨more, off q⟩
  · rw [upd_ne nl.symm]; exact I.free
  · have ne : c ≠ a := by
      rintro rfl
      obtain ⟨v, oc, e1, e2⟩ := I.cell x c e
      rw [ha] at e1
      cases e1
      rw [hd] at e2; cases e2
    rw [upd_ne ne]; exact I.freeC x c e
  · obtain ⟨q1, q2, q3⟩ := I.pin p hp
    exact ⟨q1, by rw [upd_ne (np p hp)]; exact q2, q3⟩
end
end Er
set_option Elab.async false
set_option maxRecDepth 100000
set_option autoImplicit false
namespace Er
open PySem L2 PySem.Spec PyProof.Rows PySem.Calls
/-- what 'except G as n: y = n' wishes of an error of the body: i is n's slot, j is y's -/
def wKeep (K : PySem.W.Frag) (c : Value) (i j m : Nat) (Wout : WX) (D : Ends) : WX := fun cls d σ H =>
  ∃ b, PySem.W.exmOne K cls c = some b ∧ (b = true → σ.length = m → ∀ a, H a = none → D.nx (((σ.set i (some (.ref a))).set j (some (.ref a))).set i none) (upd H a (keptE cls d a))) ∧ (b = false → Wout cls d σ H)
section
variable {X : Cx} {x n y : Str} {c : Value} {i j : Nat} {body : List Stmt} {np yp np2 sp pos pos' : Pos} {tb : WX → TS} {Wout : WX}
theorem ps_try_keep (hs : X.stack = X.env :: X.outer) (hf : X.env.frame = some X.env.locals) (hex : X.ex = []) (hN : X.N.Nodup) (hi : X.N[i]? = some n) (hj : X.N[j]? = some y) (hln : X.env.kindOf n = some .local) (hly : X.env.kindOf y = some .local) (hc : Names X x c) (tk : Takes X Wout)
    (hdn : (n == ("__debug__" : Str)) = false) (hcn : (n == ("__classdict__" : Str)) = false) (hsw : swapsWith (.Name n np2) (some (.Name y yp)) sp.line X.env = pure false)
    (hb : ∀ (W : WX) (pn : List (Addr × Obj)) (xe : Value → Shared → Prop), Takes (X.tr pn xe) W → PassesOwn (model X.prog X.w) X.A X.env xe → PSs (X.tr pn xe) body (tb W)) :
    PS X (.Try body [.ExceptHandler (some (.Name x np)) (some n) [.Assign [.Name y yp] (.Name n np2) sp] pos'] [] [] pos) (fun D σ H => tb (wKeep X.K c i j X.N.length Wout D) D σ H) := by
  constructor
  intro pins s σ H D I h
  have fine := I.ok
  have frames : X.A.frames = some (X.env :: X.outer) := fine.frames.trans (congrArg some hs)
  have run := (hb (wKeep X.K c i j X.N.length Wout D) (X.pn ++ pins) (fun e s₁ => wpAny (model X.prog X.w) X.A (noteFrame e X.env) (fun _ s₂ => wpAny (model X.prog X.w) X.A (setFlight e none) (fun _ s₃ =>
    wpAny (model X.prog X.w) X.A (handleBy e X.env [.ExceptHandler (some (.Name x np)) (some n) [.Assign [.Name y yp] (.Name n np2) sp] pos']) (SP X pins D) X.xe s₃) X.xe s₂) X.xe s₁) ?hit PassesOwn.looking).run [] s σ H D (I.toTry _) h
  case hit =>
    rintro u s' ⟨a, B, sI, pins1, σ1, H1, cls, d, rfl, J0, ground, up0, sky0, na, os, ag, b, test, yes, no⟩
    have J : Inv X pins σ1 H1 sI := J0.ofTry fine
    have sky : Sky B (X.env :: X.outer) a (Zc cls d) X.env.locals s'.heap := hs ▸ sky0
    show wpAny (model X.prog X.w) X.A (noteFrame (.ref a) X.env) _ _ _
    refine Sky.land Zc.steady frames hf sky fun g3 fly3 up3 => ?_
    have J3 : Inv X pins σ1 H1 { s' with heap := g3 } := J.landed ground fly3.1 (up0.trans up3) os ag
    obtain ⟨o3, v3, e3, z3, d3⟩ := fly3.there
    have away : a ∉ frs (X.env :: X.outer) := fun mem => by
      obtain ⟨_, o, e, no_⟩ := fly3.2.2.1.mem mem
      rw [e3] at e; cases e
      exact no_ _ d3
    have awayL : a ≠ X.env.locals := fun z => away (List.mem_filterMap.mpr ⟨X.env, List.mem_cons_self, hf.trans (congrArg some z.symm)⟩)
    have awayF : a ∉ X.fs := fun mem => by
      obtain ⟨e, m1, m2⟩ := List.mem_filterMap.mp mem
      exact away (List.mem_filterMap.mpr ⟨e, List.mem_cons_of_mem _ m1, m2⟩)
    -- the error is younger than the entry
    have young : sI.heap.get? a = none := by
      cases q : sI.heap.get? a with
      | none => rfl
      | some o =>
        have qB := ground a o q (by rw [hs]; exact away)
        rw [fly3.2.1] at qB; cases qB
    have entry : X.s_0.heap.get? a = none := by
      cases q : X.s_0.heap.get? a with
      | none => rfl
      | some o =>
        obtain ⟨o', q'⟩ := J.base.there a o q (by rw [hex]; exact List.not_mem_nil)
        rw [young] at q'; cases q'
    have apart : ∀ p ∈ X.pn ++ pins, p.1 ≠ a := fun p hp z => by
      have q := (J.pin p hp).1
      rw [z, young] at q; cases q
    have S3 := J3.suite e3 d3 na awayL awayF
    refine wpAny_handleBy_cons (codeAny_handlers_test ?_) (by intro q; cases q)
    have LT : PySem.W.Looks (model X.prog X.w) g3 (typeOf (.ref a)) cls := fun _ _ _ _ k q => wpAny_typeOf_ref (k _ _ e3) (by rw [z3.1]; exact q)
    have LM := PySem.W.exm_one (M := model X.prog X.w) J3.kIn LT test
    have named : ∀ {Q : Value → Shared → Prop} {E : Value → Shared → Prop}, Q c { s' with heap := g3 } → wpAny (model X.prog X.w) (X.A.mark (some (.ref a))) (eval (.Name x np) X.env) Q E { s' with heap := g3 } := fun {Q E} q => by
      rcases hc with ⟨hg, hdbg, hm | ⟨hm, hv, hnn⟩⟩
      · exact ld_glob (X := X.suite a ((a, o3) :: (X.pn ++ pins))) S3 hg hm q hdbg
      · exact ld_blt (X := X.suite a ((a, o3) :: (X.pn ++ pins))) S3 hg hm hv q hnn hdbg
    refine named (LM.here ?_)
    cases b with
    | true =>
      refine codeAny_handlers_suite_as (HandSPX.lands_againZ fly3 fun g4 fly4 up4 => ?_)
      have J4 : Inv X pins σ1 H1 { s' with heap := g4 } := J.landed ground fly4.1 ((up0.trans up3).trans up4) os ag
      obtain ⟨o4, v4, e4, z4, d4⟩ := fly4.there
      have S4 := J4.suite e4 d4 na awayL awayF
      refine store_ok (X := X.suite a ((a, o4) :: (X.pn ++ pins))) (v := .ref a) S4 hN hi (.inl hln) rfl (fun s5 S5 => ?_) (.inr hln)
      have il : i < σ1.length := by
        rw [S4.len]
        exact (List.getElem?_eq_some_iff.mp hi).1
      have one := pss_one (X := X.suite a ((a, o4) :: (X.pn ++ pins))) (ps_set (pos := sp) (pos' := yp) (i := j) hN hj (.inl hly) (pe_var (i := i) (pos := np2) hi (.inl hln) hdn hcn) hsw (.inr hly))
      refine wpAny_mono (one.run [] s5 _ H1 { nx := fun σ' H' => σ' = (σ1.set i (some (.ref a))).set j (some (.ref a)) ∧ H' = H1, rt := fun _ _ => False } S5 ⟨.ref a, by rw [List.getElem?_set_self il], rfl, rfl⟩) (fun fl s6 got => ?_) (fun _ _ z => False.elim z)
      cases fl with
      | next =>
        obtain ⟨_, _, S6, rfl, rfl⟩ := got
        have there := (S6.pin (a, o4) (List.mem_append_left _ List.mem_cons_self)).1
        exact gone_ok (track (S6.unsuite fine) hex entry na awayL there d4 apart (kept_ok there z4 d4)) hN hi hln fun s7 J7 => ⟨_, _, J7, yes rfl S4.len a na⟩
      | ret u => obtain ⟨_, _, _, _, _, z⟩ := got; exact z.elim
      | brk => obtain ⟨_, _, _, z⟩ := got; exact z.elim
      | cont => obtain ⟨_, _, _, z⟩ := got; exact z.elim
    | false =>
      show wpAny (model X.prog X.w) X.A (handleBy (.ref a) X.env []) _ _ _
      refine wpAny_handleBy_nil ?_
      obtain ⟨_, _, _, oe, vs, T, oT, us, q1, q2, q3, q4, q5⟩ := id fly3
      unfold PySem.passOn
      refine wpAny_bind (wpAny_field q1 q3 q4 ?_)
      rw [if_neg (by simp)]
      have out : wpAny (model X.prog X.w) X.A (setFlight (.ref a) X.env.frame) (fun _ s4 => wpAny (model X.prog X.w) X.A (throw (.ref a) : Sem Flow) (SP X pins D) X.xe s4) X.xe { s' with heap := g3 } := by
        rw [hf]
        exact HandSPX.setFlight_upZ fly3 fun g4 held up4 => wpAny_throw (tk _ _ ⟨a, B, sI, pins, σ1, H1, cls, d, rfl, J, ground, (up0.trans up3).trans up4, .inr (.inr (by rw [hs]; exact held)), na, os, ag, no rfl⟩)
      first
        | exact wpAny_bind (wpAny_pure (wpAny_bind out))
        | exact wpAny_bind out
  refine wpAny_Try_except (wpAny_mono run (fun f s1 got => ?_) fun e s1 he => he)
  cases f with
  | next => obtain ⟨σ', H', J', q⟩ := got; exact wpAny_execs_nil ⟨σ', H', J'.ofTry fine, q⟩
  | brk => obtain ⟨σ', H', J', q⟩ := got; exact ⟨σ', H', J'.ofTry fine, q⟩
  | cont => obtain ⟨σ', H', J', q⟩ := got; exact ⟨σ', H', J'.ofTry fine, q⟩
  | ret u => obtain ⟨v, σ', H', J', r, q⟩ := got; exact ⟨v, σ', H', J'.ofTry fine, r, q⟩
end
end Er
set_option Elab.async false
set_option maxRecDepth 100000
set_option autoImplicit false
namespace Er
open PySem L2 PySem.Spec PyProof.Rows PySem.Calls
/-- what is written of a class of errors, so that its errors may be asked what they are -/
structure KeptC (K : PySem.W.Frag) (C : Addr) : Prop where
  xf : XfC K C
  cls : (PySem.W.clsIn K C).isSome = true
  at_ : PySem.W.findIn K (.ref C) "__class__" = some (some (.builtin "object.__class__"))
  get : PySem.W.specialIn K (.builtin "object.__class__") "__get__" = some (some (.builtin "getset_descriptor.__get__"))
  tak : PySem.W.takesIn K (.builtin "object.__class__") = some true
  obj : PySem.W.mroIn K C (.type "object") = some true
/-- at a: such an error, its fields fs -/
def KeptAt (H : Hp) (a C d : Addr) (fs : List (Str × V)) : Prop := H a = some (keptE (.ref C) (some d) a) ∧ H d = some (.xd fs)
def rIsErr (K : PySem.W.Frag) : List V → Hp → VK → Prop := fun xs H Q => ∃ (a C d : Addr) (fs : List (Str × V)) (c : V) (cv : Value) (b : Bool), xs = [.ref a, c] ∧ KeptAt H a C d fs ∧ KeptC K C ∧ ClsV c cv ∧ PySem.W.kitOne K (.ref C) cv = some b ∧ Q (.bl b) H
section
variable {X : Cx} {pins : List (Addr × Obj)} {σ : L2.St} {H : Hp} {s : Shared}
theorem inst_of {a C d : Addr} {fs : List (Str × V)} (I : Inv X pins σ H s) (k : KeptAt H a C d fs) : ∃ (oe od : Obj) (mA : Str → Option Value), PySem.W.InstAt s.heap a oe C (some od) ∧ (∀ f, PySem.W.lookIn f od = some (mA f)) ∧ ∀ f, RelO (fs.lookup f) (mA f) := by
  have oa := I.hok a _ k.1
  obtain ⟨⟨oe, vs, ha, hz, hd⟩, _, _⟩ := oa
  have hx : ObjOk X.prog X.w H s.heap d (.xd fs) := I.hok d _ k.2
  obtain ⟨mA, hns, hr⟩ := hx
  obtain ⟨od, ho, hl⟩ := lookIn_ns hns
  exact ⟨oe, od, mA, ⟨ha, hz.1, by unfold PySem.W.notCls; rw [hd] <;> rfl, by rw [hz.2]; exact ho⟩, hl, hr⟩
theorem call_isErr : CallR X (.builtin "isinstance") (rIsErr X.K) := by
  rintro pins s σ H xs us Q I r ⟨a, C, d, fs, c, cv, b, rfl, k, T, kc, e, q⟩
  obtain ⟨u1, u2, rfl, r1, r2⟩ := vals2 r
  obtain rfl : u1 = Value.ref a := r1
  have e2 := kc.eq r2
  subst e2
  obtain ⟨oe, od, mA, J, _, _⟩ := inst_of I k
  exact PySem.W.kia_one (PySem.W.kitx_exc (ox := oe) (od := some od) T.cls T.xf.ga T.xf.gg T.xf.exC T.at_ T.get T.tak T.obj) I.kIn J e (fun z => by cases z) fun tk => ⟨.bl b, H, I.tok tk, rfl, q⟩
/-- e.f, e such an error -/
def tKf (K : PySem.W.Frag) (f : Str) (te : TE) : TE := fun σ H Q => te σ H fun x H1 => ∃ a C d fs v, x = .ref a ∧ KeptAt H1 a C d fs ∧ XfC K C ∧ PySem.W.findIn K (.ref C) f = some none ∧ fs.lookup f = some v ∧ Q v H1
theorem pe_kf {e : Expr} {te : TE} {f : Str} {pos : Pos} (he : PE X e te) (hb : attributeBase e f X.env (eval e X.env) = eval e X.env := by rfl) : PE X (.Attribute e f pos) (tKf X.K f te) := by
  refine ⟨fun pins s σ H Q I h => attr_of hb (thn (he.run pins s σ H _ I h) ?_)⟩
  rintro u s1 ⟨x, H1, I1, rx, a, C, d, fs, v, rfl, k, T, no, l, q⟩
  obtain rfl : u = Value.ref a := rx
  obtain ⟨oe, od, mA, J, look, rel⟩ := inst_of I1 k
  obtain ⟨z, hz, rz⟩ := RelO.some_of (v := v) (o := mA f) (by rw [← l]; exact rel f)
  exact HandSPX.exc_get I1.kIn J T.ga T.gg T.exC (PySem.W.findObj_own T.hdC no rfl (by rw [look, hz])) (handed_of rz) ⟨v, H1, I1.tok _, rz, q⟩
end
end Er
set_option Elab.async false
set_option maxRecDepth 100000
set_option autoImplicit false
namespace Kx
open PySem L2 PySem.Spec PyProof.Rows Rg Er
/-- a class of errors with one field, as a raise wants it -/
structure ErrB (P : Program) (w : World) (K : PySem.W.Frag) (mg : Str → Option Value) (base : Heap) (x f : Str) (C : Addr) : Prop where
  O : OexC K C
  mgC : mg x = some (.ref C)
  init : ∃ fi fd ps, PySem.W.findIn K (.ref C) "__init__" = some (some (.ref fi)) ∧ PySem.W.typeIn K (.ref fi) = some (.type "function") ∧ FnOk P w K mg base CX0 1 fi fd ps (spErr1 C f) ∧ Binds K fd ps []
def raised (C : Addr) (f : Str) (v : V) (E : XK) (H : Hp) : Prop := ∀ d, H d = none → E (.ref C) (some d) (upd H d (.xd [(f, v)]))
theorem Ext1.same {p : Addr} {H H' : Hp} (e : Same H H') : Ext1 p H H' := fun b o _ q => e b o q
/-! ### repr of data, dicts too -/
def keyD : Key → PyData
  | .inl i => .int i
  | .inr x => .str x
/-- how a value reads as data; no object of it stands at p -/
inductive Rq (p : Addr) (H : Hp) : V → PyData → Prop
  | non : Rq p H .non .none
  | bl (b) : Rq p H (.bl b) (.bool b)
  | int (i) : Rq p H (.int i) (.int i)
  | str (x) : Rq p H (.str x) (.str x)
  | lst {a xs ds} : a ≠ p → H a = some (.lst xs) → Paired (Rq p H) xs ds → Rq p H (.ref a) (.list ds)
  | tup {a xs ds} : a ≠ p → H a = some (.tup xs) → Paired (Rq p H) xs ds → Rq p H (.ref a) (.tuple ds)
  | dct {a kvs ds} : a ≠ p → H a = some (.dK kvs) → Paired (Rq p H) (kvs.map (·.2)) ds → Rq p H (.ref a) (.dict ((kvs.map fun kv => keyD kv.1).zip ds))
mutual
theorem Rq.ext {p : Addr} {H H' : Hp} (e : Ext1 p H H') : ∀ {v : V} {d : PyData}, Rq p H v d → Rq p H' v d
  | _, _, .non => .non
  | _, _, .bl b => .bl b
  | _, _, .int i => .int i
  | _, _, .str x => .str x
  | _, _, .lst n h t => .lst n (e _ _ n h) (Rq.extAll e t)
  | _, _, .tup n h t => .tup n (e _ _ n h) (Rq.extAll e t)
  | _, _, .dct n h t => .dct n (e _ _ n h) (Rq.extAll e t)
theorem Rq.extAll {p : Addr} {H H' : Hp} (e : Ext1 p H H') : ∀ {vs : List V} {ds : List PyData}, Paired (Rq p H) vs ds → Paired (Rq p H') vs ds
  | _, _, .nil => .nil
  | _, _, .cons a b => .cons (Rq.ext e a) (Rq.extAll e b)
end
/-- the dict of modules stands at its place: nothing of one's own does -/
def SysD (base : Heap) : Prop := ∃ m, base.Ns sysModules m
section
variable {X : Cx} {pins : List (Addr × Obj)} {σ : L2.St} {H : Hp} {s : Shared}
theorem SysD.ne (S : SysD X.base) (I : Inv X pins σ H s) {a : Addr} {o : HO} (e : H a = some o) : a ≠ sysModules := by
  rintro rfl
  obtain ⟨m, o', es, ep, h1, _⟩ := S
  have q := (I.bs _ _ h1).2
  rw [e] at q
  cases q
theorem keysRead {h : Heap} : ∀ {es : List DictEntry} {kvs : List (Key × V)} {vs : List (Key × Value)}, KV kvs vs → PySem.Pairs (mixKind X.prog X.w) es vs → ∃ as, ReadsAll h (es.map (·.key)) (kvs.map fun kv => keyD kv.1) as ∧ ∀ b ∈ as, b ≠ sysModules
  | [], _, _, r, .nil => by
    cases r
    exact ⟨_, .nil, fun b hb => absurd hb List.not_mem_nil⟩
  | e :: es, _, _, r, .cons h1 h2 t => by
    cases r with
    | @cons p q ps qs hp hr =>
      obtain ⟨as, h3, h4⟩ := keysRead hr t
      have one : ∃ bs, Reads h e.key (keyD p.1) bs ∧ ∀ b ∈ bs, b ≠ sysModules := by
        rw [hp.1]
        rcases keyIs_shape h1 with ⟨i, t, e1, e2⟩ | ⟨x, t, e1, e2⟩
        · rw [e1, e2]; exact ⟨[], .int i t, fun b hb => absurd hb List.not_mem_nil⟩
        · rw [e1, e2]; exact ⟨[], .str x t, fun b hb => absurd hb List.not_mem_nil⟩
      obtain ⟨bs, h5, h6⟩ := one
      refine ⟨bs ++ as, .cons h5 h3, fun b hb => ?_⟩
      rcases List.mem_append.mp hb with hb | hb
      · exact h6 b hb
      · exact h4 b hb
theorem valsOf : ∀ {es : List DictEntry} {kvs : List (Key × V)} {vs : List (Key × Value)}, KV kvs vs → PySem.Pairs (mixKind X.prog X.w) es vs → Vals (kvs.map (·.2)) (es.map (·.val))
  | [], _, _, r, .nil => by cases r; exact .nil
  | e :: es, _, _, r, .cons h1 h2 t => by
    cases r with
    | @cons p q ps qs hp hr => exact .cons (by show L2.RelV p.2 e.val; rw [h2]; exact hp.2) (valsOf hr t)
theorem pairedLen {α β : Type} {R : α → β → Prop} : ∀ {xs : List α} {ys : List β}, Paired R xs ys → xs.length = ys.length
  | _, _, .nil => rfl
  | _, _, .cons _ t => by rw [List.length_cons, List.length_cons, pairedLen t]
mutual
theorem Rq.reads {p : Addr} (S : SysD X.base) (I : Inv X pins σ H s) : ∀ {v : V} {d : PyData} {u : Value}, Rq p H v d → RelV v u → ∃ as, Reads s.heap u d as ∧ ∀ b ∈ as, b ≠ sysModules
  | _, _, _, .non, r => by cases r; exact ⟨_, .none, fun b hb => absurd hb List.not_mem_nil⟩
  | _, _, _, .bl b, r => by cases r; exact ⟨_, .bool b, fun b hb => absurd hb List.not_mem_nil⟩
  | _, _, _, .int i, r => by obtain ⟨t, rfl⟩ := r; exact ⟨_, .int i t, fun b hb => absurd hb List.not_mem_nil⟩
  | _, _, _, .str x, r => by obtain ⟨t, rfl⟩ := r; exact ⟨_, .str x t, fun b hb => absurd hb List.not_mem_nil⟩
  | _, _, _, .lst n h all, r => by
    cases r
    obtain ⟨its, rv, ⟨o, n, eo, hc, _, hd⟩, _⟩ := I.list (SqL.of h)
    obtain ⟨as, ra, rb⟩ := Rq.readsAll S I all rv
    refine ⟨_, .list eo hc hd ra, fun b hb => ?_⟩
    rcases List.mem_cons.mp hb with rfl | hb
    · exact S.ne I h
    · exact rb b hb
  | _, _, _, .tup n h all, r => by
    cases r
    obtain ⟨its, rv, ⟨o, eo, hc, n, hd⟩, _⟩ := I.tuple (SqT.of h)
    obtain ⟨as, ra, rb⟩ := Rq.readsAll S I all rv
    exact ⟨_, .tuple eo hc hd ra, rb⟩
  | _, _, _, .dct (kvs := kvs) (ds := ds) n h all, r => by
    cases r
    obtain ⟨z, hsm, vs, kv, o, es, ep, eo, hx, hd, _, pr, _⟩ := dk_of I.hok h
    have rv := valsOf kv pr
    obtain ⟨as, ra, rb⟩ := Rq.readsAll S I all rv
    obtain ⟨ks, rk, rl⟩ := keysRead (X := X) (h := s.heap) kv pr
    have l := pairedLen all
    rw [List.length_map] at l
    have rk' : ReadsAll s.heap (es.toList.map (·.key)) (((kvs.map fun kv => keyD kv.1).zip ds).map (·.1)) ks := by
      rw [List.map_fst_zip (by rw [List.length_map]; omega)]
      exact rk
    have ra' : ReadsAll s.heap (es.toList.map (·.val)) (((kvs.map fun kv => keyD kv.1).zip ds).map (·.2)) as := by
      rw [List.map_snd_zip (by rw [List.length_map]; omega)]
      exact ra
    refine ⟨_, .dict eo hx.1 hd rk' ra', fun b hb => ?_⟩
    · rcases List.mem_append.mp hb with hb | hb
      · rcases List.mem_cons.mp hb with rfl | hb
        · exact beq_eq_false_iff_ne.mp hsm
        · exact rl b hb
      · exact rb b hb
theorem Rq.readsAll {p : Addr} (S : SysD X.base) (I : Inv X pins σ H s) : ∀ {vs : List V} {ds : List PyData} {us : List Value}, Paired (Rq p H) vs ds → Vals vs us → ∃ as, ReadsAll s.heap us ds as ∧ ∀ b ∈ as, b ≠ sysModules
  | _, _, _, .nil, .nil => ⟨_, .nil, fun b hb => absurd hb List.not_mem_nil⟩
  | _, _, _, .cons a b, .cons r t => by
    obtain ⟨as, h1, h2⟩ := Rq.reads S I a r
    obtain ⟨bs, h3, h4⟩ := Rq.readsAll S I b t
    refine ⟨_, .cons h1 h3, fun b hb => ?_⟩
    rcases List.mem_append.mp hb with hb | hb
    · exact h2 b hb
    · exact h4 b hb
end
/-- repr(v), v a list of data -/
def rRepr2 : List V → Hp → VK → Prop := fun vs H Q => ∃ (p a : Addr) (d : PyData), vs = [.ref a] ∧ Rq p H (.ref a) d ∧ d.showable = true ∧ d.depth ≤ 20 ∧ d.shown.length ≤ sizeLine ∧ Q (.str d.shown) H
theorem cr_repr2 (S : SysD X.base) (hg : X.A.guards = some []) (hr : Room 0 X.A) : CallR X (.builtin "repr") rRepr2 := by
  rintro pins s σ H xs us Q I r ⟨p, a, d, rfl, rd, h1, h3, h4, q⟩
  cases r with
  | cons r0 r1 =>
    cases r1
    obtain ⟨as, R, no⟩ := Rq.reads S I rd r0
    cases r0
    refine repr_of_reads' R h1 (fun _ z => no _ z rfl) hg (by have := hr.un; omega) (fun _ _ e => e) (fun h' u tk keep => ?_) h4
    exact ⟨.str d.shown, H, I.kept keep, ⟨u, rfl⟩, q⟩
theorem bRepr2 {e : Expr} {te : TE} {q pos : Pos} (S : SysD X.base) (hg : X.A.guards = some []) (hr : Room 0 X.A) (gl : Gl X "repr") (m : X.mg "repr" = none) (he : PE X e te) (na : starEach [e] X.env = (false, eval e X.env) :: starEach [] X.env := by rfl) :
    PE X (.Call (.Name "repr" q) [e] [] pos) (tCB rRepr2 (tCons te tNil)) := pe_callB (cr_repr2 S hg hr) gl m (by decide +kernel) (pa_cons he pa_nil na) (he := na)
end
/-! ### the law's end -/
theorem lawGD {P : Program} {w : World} {K : PySem.W.Frag} {mg mb : Str → Option Value} {k : Nat} {fa a : Addr} {fd : FuncData} {x : Str} {sp : Sp} {s₁ : Shared} {vs : List Value} {ns : List Int}
    (KX : K.In s₁.heap) (hns : s₁.heap.Ns mainGlobals mg) (hb : s₁.heap.Ns builtinsNs mb) (hbb : ∀ x : Str, x ≠ "__name__" → mb x = bootBuiltins x) (hlim : s₁.heap.NoLimit) (hg : s₁.gens = #[])
    (ha : s₁.heap.get? a = some { cls := .type "list", data := .seq vs.toArray }) (hi : IntsAre vs ns) (hl : ns.length ≤ sizeLine) (hr : Room k callerA)
    {mm : Str → Option Value} (hmm : s₁.heap.Ns sysModules mm) (F : ∀ base : Heap, K.In base → base.Ns mainGlobals mg → SysD base → FnG P w K mg base CX0 k fa fd [x] sp) (bind : ∀ (s : Shared) (u : Value), BindsTo s fd ⟨[u], []⟩ [(x, u)])
    (want : ∀ H : Hp, Only H → SqL K H a (ns.map V.int) → sp [.ref a] H (fun v _ => v = .bl true) fun _ _ _ => False) :
    codeAny (model P w) callerA (.call (.ref fa) ⟨[.ref a], []⟩) (fun r s' => r = .ok (.ret (.bool true)) ∧ OldK s₁.heap s'.heap ∧ s'.os = s₁.os ∧ AllBare s'.gens) s₁ := by
  have rv := vals_ints hi
  have ln := hi.length
  -- H tracks the script at most
  have main : ∀ H : Hp, Only H → SqL K H a (ns.map V.int) → HOk P w H s₁.heap → (∀ b, H b ≠ none → b = a ∧ K.lookup a = none) →
      codeAny (model P w) callerA (.call (.ref fa) ⟨[.ref a], []⟩) (fun r s' => r = .ok (.ret (.bool true)) ∧ OldK s₁.heap s'.heap ∧ s'.os = s₁.os ∧ AllBare s'.gens) s₁ := by
    intro H only seq hok few
    have none_of : ∀ {b : Addr}, ¬ (b = a ∧ K.lookup a = none) → H b = none := fun {b} z => Decidable.by_contra fun q => z (few b q)
    have dicts : ∀ {b : Addr} {m : Str → Option Value}, s₁.heap.Ns b m → (hidT s₁.heap H).Ns b m := by
      rintro b m ⟨o, es, ep, e, d, r⟩
      refine ⟨o, es, ep, hidT_get e (none_of ?_), d, r⟩
      rintro ⟨rfl, _⟩
      cases ha.symm.trans e
      cases d
    have KB : K.In (hidT s₁.heap H) := fun b o e => hidT_get (KX b o e) (none_of (by
      rintro ⟨rfl, z⟩
      cases z.symm.trans e))
    have M : Mod K mg (hidT s₁.heap H) := ⟨KB, dicts hns, ⟨mb, dicts hb, hbb⟩, let ⟨mc, h1, h2⟩ := hlim; ⟨mc, dicts h1, h2⟩⟩
    have none0 : ∀ b, b ∉ frs ([] : List Env) := fun b => by unfold frs; simp
    have e0 : Env0 P w K mg (hidT s₁.heap H) callerA [] s₁ H := ⟨rfl, M, fun b o e => of_hidT e, Nat.le_of_eq (hidT_size _ _), trivial, fun b q => absurd q (none0 b), hok, .of_eq hg⟩
    refine codeAny_mono ((F _ KB (dicts hns) ⟨_, dicts hmm⟩).run callerA [] s₁ H ⟨[.ref a], []⟩ [.ref a] [.ref a] _ _ rfl hr e0 (bind s₁ (.ref a)) (.cons rfl .nil) (want H only seq)) fun r s' got => ?_
    rcases r with er | fl
    · exact False.elim got
    cases fl <;> first | exact False.elim got | skip
    obtain ⟨v, H', os, bare, un, hok', r', q⟩ := got
    subst q
    cases r'
    refine ⟨rfl, OldK.of_keep fun b o e => ?_, os, bare⟩
    rcases only b with z | ⟨ob, xs, z⟩
    · exact un.keep b o e z (none0 b) (by simp)
    · obtain ⟨e1, _⟩ := hok b _ z
      obtain ⟨e2, _⟩ := hok' b _ (un.frzs b ob _ z)
      cases e1.symm.trans e
      exact e2
  cases hk : K.lookup a with
  | some o =>
    have e := KX a o hk
    cases ha.symm.trans e
    exact main (fun _ => none) (fun _ => Or.inl rfl) (Or.inr ⟨_, vs.toArray, _, hk, rfl, rfl, rfl, by rw [List.size_toArray, ln]; exact hl, by simpa using rv⟩) (fun b u z => by cases (show (none : Option HO) = some u from z)) fun b z => absurd rfl z
  | none =>
    let ob : Obj := { cls := .type "list", data := .seq vs.toArray }
    have at_ : ∀ {b : Addr} {u : HO}, (if b = a then some (HO.frz ob (.lst (ns.map V.int))) else none) = some u → b = a ∧ u = HO.frz ob (.lst (ns.map V.int)) := by
      intro b u z
      by_cases q : b = a
      · rw [if_pos q] at z; exact ⟨q, (Option.some.inj z).symm⟩
      · rw [if_neg q] at z; cases z
    refine main (fun b => if b = a then some (.frz ob (.lst (ns.map V.int))) else none) (fun b => ?_) (Or.inl (Or.inr ⟨ob, if_pos rfl⟩)) (fun b u z => ?_) (fun b z => ?_)
    · by_cases q : b = a
      · exact Or.inr ⟨_, _, if_pos q⟩
      · exact Or.inl (if_neg q)
    · obtain ⟨rfl, rfl⟩ := at_ z
      exact ⟨ha, by rw [List.length_map]; exact hl, vs, _, rv, ha⟩
    · cases q : (if b = a then some (HO.frz ob (.lst (ns.map V.int))) else none) with
      | none => exact absurd q z
      | some u => exact ⟨(at_ q).1, hk⟩
theorem walkGD {l : PySem.W.OpenLaw} {n k : Nat} {q : Program} {loose : List Str} {XP : (Str → Option Value) → Heap → Prop} {YP : World → Heap → Prop} {d : DefRec} {K : Params → PySem.W.Frag} {sp : World → Sp} {x : Str}
    (hn : l.most = some n) (hn2 : n ≤ sizeLine) (hdf : d.params.defaults = []) (hr : Room k callerA) (himp : importsNone q = true) (hY : ∀ (w : World) (h : Heap), YP w h → (K w.params).In h)
    (F : ∀ (w : World) (mg : Str → Option Value) (fa : Addr) (h : Heap), (K w.params).In h → h.Ns mainGlobals mg → mg d.name = some (.ref fa) →
      ∃ fd : FuncData, (∀ (s : Shared) (u : Value), BindsTo s fd ⟨[u], []⟩ [(x, u)]) ∧ ∀ base : Heap, (K w.params).In base → base.Ns mainGlobals mg → SysD base → FnG l.prog w (K w.params) mg base CX0 k fa fd [x] (sp w))
    (want : ∀ (w : World) (H : Hp) (a : Addr) (ns : List Int), ns.length ≤ n → (∀ z ∈ ns, Builtin.Int.intBits z ≤ 1048576) → Only H → SqL (K w.params) H a (ns.map V.int) → sp w [.ref a] H (fun v _ => v = .bl true) fun _ _ _ => False) :
    PySem.W.WalkO q loose XP YP l.row.toRowW d [] (fun f vs => PySem.call f vs) := by
  refine Att.attach_callB hn hdf fun w s₀ s₁ mg mb fa o pm cd doc a vs ns G Y ho hd hcd hmg hobj hints hlen hbits hg => ?_
  obtain ⟨fd, hb, hF⟩ := F w mg fa _ (hY w _ Y) G.T.g hmg
  obtain ⟨mm, hmm, _⟩ := (G.T.seer himp).mods
  exact lawGD (hY w _ Y) G.T.g G.T.b G.T.builtins G.T.nolimit hg hobj hints (Nat.le_trans hlen hn2) hr hmm hF hb fun H only seq => want w H a ns hlen hbits only seq
end Kx
set_option Elab.async false
set_option maxRecDepth 100000
set_option autoImplicit false
/-! The program's checks of any values: what they tell. -/
namespace Kx
open PySem L2 PySem.Spec PyProof.Rows Rg Er
/-- x is an integer from 0 to last, or is none, as b tells -/
def St (K : PySem.W.Frag) (H : Hp) (last : Int) (x : V) (b : Bool) : Prop := (∃ v : Int, x = .int v ∧ b = (decide (0 ≤ v) && decide (v ≤ last))) ∨ (b = false ∧ ∃ t c, TyX K H x t ∧ PySem.W.kitOne K t (.type "int") = some c ∧ (c = true → PySem.W.kitOne K t (.type "bool") = some true))
/-- x is neither a list nor a tuple, now and when the heap has grown -/
def NoSq (K : PySem.W.Frag) (H : Hp) (x : V) : Prop := ∃ t, (∀ H', Same H H' → TyX K H' x t) ∧ PySem.W.kitAny K t [.type "list", .type "tuple"] = some false
/-- x is a list or a tuple of m things, each told of by El, or it is none -/
def Ln (K : PySem.W.Frag) (El : Hp → V → Bool → Prop) (H : Hp) (m : Nat) (x : V) (b : Bool) : Prop := (b = false ∧ NoSq K H x) ∨ ∃ a xs, x = .ref a ∧ Sq H a xs ∧ xs.length ≤ 1000 ∧
  ((xs.length ≠ m ∧ b = false) ∨ (xs.length = m ∧ ∃ bs : List Bool, bs.length = m ∧ b = bs.all id ∧ ∀ i y, xs[i]? = some y → ∀ H', Same H H' → El H' y (bs.getD i false)))
def Stp (K : PySem.W.Frag) (H : Hp) (m : Nat) (x : V) (b : Bool) : Prop := (b = false ∧ NoSq K H x) ∨ ∃ a xs, x = .ref a ∧ Sq H a xs ∧ xs.length ≤ 1000 ∧
  ((xs.length = 0 ∧ b = false) ∨ (xs.length ≠ 0 ∧ ∃ bs : List Bool, bs.length = xs.length ∧ b = bs.all id ∧ ∀ i y, xs[i]? = some y → ∀ H', Same H H' → Ln K (fun H2 => St K H2 ((xs.length : Int) - 1)) H' m y (bs.getD i false)))
def Bo (K : PySem.W.Frag) (H : Hp) (x : V) (b : Bool) : Prop := ∃ t, TyX K H x t ∧ PySem.W.kitOne K t (.type "bool") = some b
def spFromTo2 (K : PySem.W.Frag) : Sp := fun vs H Q _ => ∃ (x : V) (last : Int) (b : Bool), vs = [x, .int 0, .int last] ∧ St K H last x b ∧ Q (.bl b) H
def spAreStates2 (K : PySem.W.Frag) : Sp := fun vs H Q _ => ∃ (x : V) (m : Nat) (last : Int) (b : Bool), vs = [x, .int m, .int last] ∧ Ln K (fun H' => St K H' last) H m x b ∧ ∀ H', Same H H' → Q (.bl b) H'
def spAreSteps2 (K : PySem.W.Frag) : Sp := fun vs H Q _ => ∃ (x : V) (m : Nat) (b : Bool), vs = [x, .int m] ∧ Stp K H m x b ∧ ∀ H', Same H H' → Q (.bl b) H'
def spAreAnswers2 (K : PySem.W.Frag) : Sp := fun vs H Q _ => ∃ (x : V) (m : Nat) (b : Bool), vs = [x, .int m] ∧ Ln K (Bo K) H m x b ∧ ∀ H', Same H H' → Q (.bl b) H'
theorem mapGetD (bs : List Bool) : (List.range bs.length).map (fun i => V.bl (bs.getD i false)) = bs.map V.bl := by
  refine List.ext_getElem (by simp) fun i h1 h2 => ?_
  have h : i < bs.length := by simpa using h2
  simp [List.getD_eq_getElem?_getD, List.getElem?_eq_getElem h]
theorem tyTup {K : PySem.W.Frag} {H : Hp} {x : V} (h : NoSq K H x) {H' : Hp} (e : Same H H') : ∃ t, TyX K H' x t ∧ PySem.W.kitAny K t [.type "list", .type "tuple"] = some false := by
  obtain ⟨t, h1, h2⟩ := h
  exact ⟨t, h1 H' e, h2⟩
section
variable {P : Program} {w : World} {K : PySem.W.Frag} {mg : Str → Option Value} {base : Heap}
theorem ok_fromTo2 {f : Addr} {fd : FuncData} (F : L2.Fun K "is_from_to" "is_from_to" sFromTo f fd) (T : Txt mg) (mI : mg "int" = none) (mB : mg "bool" = none) : FnOk P w K mg base CX0 2 f fd ["value", "low", "high"] (spFromTo2 K) := by
  refine F.ok scFromTo (fun vs H Q E h => ?_) (fun cdv A outer s H vs Q E hr h => ?_)
  · obtain ⟨x, n, b, rfl, _⟩ := h
    rfl
  · obtain ⟨x, last, b, rfl, st, k⟩ := h
    rcases st with ⟨i, rfl, rfl⟩ | ⟨rfl, t, c, ty, h1, h2⟩
    · refine ⟨_, pss_one (ps_ret (pe_and (bIsi (by rfl) T.isi (pv 0) (pe_bltn (v := .ty "int") (by rfl) mI (by decide +kernel) rfl)) (pe_and (pe_not (bIsi (by rfl) T.isi (pv 0) (pe_bltn (v := .ty "bool") (by rfl) mB (by decide +kernel) rfl))) (pe_one (pe_chain op_le op_le (pv 1) (pv 0) (pv 2)))))), ?_⟩
      refine ⟨_, rfl, .int i, .ty "int", _, _, true, rfl, .ty "int", .base (.int i), kit_ty (by decide +kernel), true, rfl, iteT ⟨_, rfl, .int i, .ty "bool", _, _, false, rfl, .ty "bool", .base (.int i), kit_ty (by decide +kernel), false, rfl, true, rfl, iteT ⟨_, rfl, _, rfl, _, _, rfl, rfl, _, rfl, ?_⟩⟩⟩
      by_cases q : (0 : Int) ≤ i
      · rw [if_pos (decide_eq_true q)]
        refine ⟨_, rfl, _, _, rfl, rfl, ?_⟩
        rw [decide_eq_true q, Bool.true_and] at k
        exact k
      · rw [if_neg (by simpa using q)]
        rw [decide_eq_false q, Bool.false_and] at k
        exact k
    · refine ⟨_, pss_one (ps_ret (pe_and (bIsi (by rfl) T.isi (pv 0) (pe_bltn (v := .ty "int") (by rfl) mI (by decide +kernel) rfl)) (pe_and (pe_not (bIsi (by rfl) T.isi (pv 0) (pe_bltn (v := .ty "bool") (by rfl) mB (by decide +kernel) rfl))) (pe_one (pe_chain op_le op_le (pv 1) (pv 0) (pv 2)))))), ?_⟩
      refine ⟨_, rfl, x, .ty "int", _, _, c, rfl, .ty "int", ty, h1, c, rfl, ?_⟩
      cases c with
      | false => exact iteF k
      | true => exact iteT ⟨_, rfl, x, .ty "bool", _, _, true, rfl, .ty "bool", ty, h2 rfl, true, rfl, false, rfl, iteF k⟩
theorem ok_areStates2 {f f1 : Addr} {fd fd1 : FuncData} (F : L2.Fun K "are_states" "are_states" sAreStates f fd) (T : Txt mg) (G : FnOk P w K mg base CX0 2 f1 fd1 ["value", "low", "high"] (spFromTo2 K)) (m1 : mg "is_from_to" = some (.ref f1)) (k1 : PySem.W.keepIn K (.ref f1) = true)
    (b1 : L2.Binds K fd1 ["value", "low", "high"] []) : FnOk P w K mg base CX0 3 f fd ["value", "many", "last"] (spAreStates2 K) := by
  refine F.ok scAreStates (fun vs H Q E h => ?_) (fun cdv A outer s H vs Q E hr h => ?_)
  · obtain ⟨x, m, last, b, rfl, _⟩ := h
    rfl
  · obtain ⟨x, m, last, b, rfl, ln, k⟩ := h
    have nd := scAreStates.nd
    refine ⟨_, pss_cons (ps_if (PW.pt (pw_or (pt_not (pt_val (bIsiSq (by rfl) T.isi (by rfl) T.list (by rfl) T.tuple (pv 0)))) (pw_or1 (pt_cmpR op_ne (bLen (by rfl) T.len (pv 0)) (pv 1) (nomark _))))) (pss_one (ps_ret pe_bl)) pss_nil)
      (pss_one (ps_ret (pe_callB (cr_all rfl) (by rfl) T.all boot_all (pa_cons (pe_lc (own := [("state", 3)]) (g := gName 3) (tt := tYes) rfl nd (PI_or (pi_list (pv 0)) (pi_tup (pv 0))) (blkOk_by (N := ["value", "many", "last", "state"]) (sc := defScope sAreStates) (by decide +kernel))
        (fun _ _ _ _ _ => pg_name (i := 3) nd rfl (Or.inl rfl)) (fun _ _ _ _ _ => pts_nil) (fun _ _ _ _ _ => pe_call G hr (by rfl) m1 k1 b1 .nil pass0 (pa_cons (pv 3) (pa_cons pe_int (pa_cons (pv 2) pa_nil))))) pa_nil)))), ?_⟩
    refine ⟨_, rfl, by show 2 ≤ sizeLine; decide, fun q hq => ?_⟩
    have s1 : Same H (upd H q (.tup [.ty "list", .ty "tuple"])) := Same.new hq
    rcases ln with ⟨rfl, no⟩ | ⟨a, xs, rfl, sq, few, how⟩
    · obtain ⟨t, ty, kt⟩ := tyTup no s1
      exact ⟨x, q, _, t, _, false, rfl, upd_same, cls2, ty, kt, false, rfl, iteT (k _ s1)⟩
    obtain ⟨t, ty, kt⟩ := seqTy (K := K) (sq.same s1)
    refine ⟨.ref a, q, _, t, _, true, rfl, upd_same, cls2, ty, kt, true, rfl, iteF ?_⟩
    refine ⟨_, rfl, _, _, rfl, (sq.same s1).len, _, rfl, ?_⟩
    refine ⟨rfl, _, rfl, ?_⟩
    rcases how with ⟨ne, rfl⟩ | ⟨rfl, bs, bl, rfl, els⟩
    · have el : decide (V.int (xs.length : Nat) = V.int (m : Nat)) = false := decide_eq_false fun z => ne (by
        have z' : ((xs.length : Nat) : Int) = (m : Nat) := V.int.inj z
        omega)
      rw [el]
      exact iteT (k _ s1)
    have el : decide (V.int (xs.length : Nat) = V.int (xs.length : Nat)) = true := decide_eq_true rfl
    rw [el]
    refine iteF ?_
    have fin : ∀ (D : Addr) (H' : Hp), Same (upd H q (.tup [.ty "list", .ty "tuple"])) H' → H' D = some (.lst ((List.range xs.length).map fun i => V.bl (bs.getD i false))) →
        ∃ (b : Addr) (cs : List Bool), [V.ref D] = [V.ref b] ∧ SqL K H' b (cs.map V.bl) ∧ Q (.bl (cs.all id)) H' := by
      intro D H' s2 hD
      rw [← bl, mapGetD] at hD
      exact ⟨D, bs, rfl, SqL.of hD, k H' (Same.trans s1 s2)⟩
    have el : ∀ (i : Nat) (x : V) (H' : Hp) (Q' : VK), Same (upd H q (.tup [.ty "list", .ty "tuple"])) H' → xs[i]? = some x → (∀ H4, Same H' H4 → Q' (.bl (bs.getD i false)) H4) →
        tCall (spFromTo2 K) [] E0 (tCons (tVar 3) (tCons (tC (.int 0)) (tCons (tVar 2) tNil))) ((wipe [some (V.ref a), some (.int xs.length), some (.int last), none] [3]).set 3 (some x)) H' Q' := by
      intro i x H' Q' s2 hx q
      exact ⟨_, rfl, _, rfl, x, last, bs.getD i false, rfl, els i x hx H' (Same.trans s1 s2), q H' (Same.refl H')⟩
    have few' : xs.length < sizeLine := by rw [sizeLine_eq]; omega
    rcases sq.same s1 with hl | ht
    · exact .inl ⟨_, rfl, a, rfl, ⟨_, SqL.of hl⟩, fun D hD => lcMap walk_list (fun i => .bl (bs.getD i false)) few' hD (fun H' e => SqL.of (e _ _ hl)) (fun _ _ _ _ y => y.1) (fun i x H' Q' _ e y q => el i x H' Q' e y.2 q) (fin D)⟩
    · exact .inr ⟨_, rfl, a, rfl, ⟨_, SqT.of ht⟩, fun D hD => lcMap walk_tup (fun i => .bl (bs.getD i false)) few' hD (fun H' e => SqT.of (e _ _ ht)) (fun _ _ _ _ y => y.1) (fun i x H' Q' _ e y q => el i x H' Q' e y.2 q) (fin D)⟩
theorem ok_areSteps2 {f f1 : Addr} {fd fd1 : FuncData} (F : L2.Fun K "are_steps" "are_steps" sAreSteps f fd) (T : Txt mg) (G : FnOk P w K mg base CX0 3 f1 fd1 ["value", "many", "last"] (spAreStates2 K)) (m1 : mg "are_states" = some (.ref f1)) (k1 : PySem.W.keepIn K (.ref f1) = true)
    (b1 : L2.Binds K fd1 ["value", "many", "last"] []) : FnOk P w K mg base CX0 4 f fd ["value", "many"] (spAreSteps2 K) := by
  refine F.ok scAreSteps (fun vs H Q E h => ?_) (fun cdv A outer s H vs Q E hr h => ?_)
  · obtain ⟨x, m, b, rfl, _⟩ := h
    rfl
  · obtain ⟨x, m, b, rfl, ln, k⟩ := h
    have nd := scAreSteps.nd
    refine ⟨_, pss_cons (ps_if (PW.pt (pw_or (pt_not (pt_val (bIsiSq (by rfl) T.isi (by rfl) T.list (by rfl) T.tuple (pv 0)))) (pw_or1 (pt_cmpR op_eq (bLen (by rfl) T.len (pv 0)) pe_int (nomark _))))) (pss_one (ps_ret pe_bl)) pss_nil)
      (pss_cons (ps_set (i := 2) nd rfl (.inr rfl) (pe_op op_sub (bLen (by rfl) T.len (pv 0)) pe_int))
      (pss_one (ps_ret (pe_callB (cr_all rfl) (by rfl) T.all boot_all (pa_cons (pe_lc (own := [("onward", 3)]) (g := gName 3) (tt := tYes) rfl nd (PI_or (pi_list (pv 0)) (pi_tup (pv 0))) (blkOk_by (N := ["value", "many", "last", "onward"]) (sc := defScope sAreSteps) (by decide +kernel))
        (fun _ _ _ _ _ => pg_name (i := 3) nd rfl (Or.inl rfl)) (fun _ _ _ _ _ => pts_nil) (fun _ _ _ _ _ => pe_call G hr (by rfl) m1 k1 b1 .nil pass0 (pa_cons (pv 3) (pa_cons (pv 1) (pa_cons (pv 2) pa_nil))))) pa_nil))))), ?_⟩
    refine ⟨_, rfl, by show 2 ≤ sizeLine; decide, fun q hq => ?_⟩
    have s1 : Same H (upd H q (.tup [.ty "list", .ty "tuple"])) := Same.new hq
    rcases ln with ⟨rfl, no⟩ | ⟨a, xs, rfl, sq, few, how⟩
    · obtain ⟨t, ty, kt⟩ := tyTup no s1
      exact ⟨x, q, _, t, _, false, rfl, upd_same, cls2, ty, kt, false, rfl, iteT (k _ s1)⟩
    obtain ⟨t, ty, kt⟩ := seqTy (K := K) (sq.same s1)
    refine ⟨.ref a, q, _, t, _, true, rfl, upd_same, cls2, ty, kt, true, rfl, iteF ?_⟩
    refine ⟨_, rfl, _, _, rfl, (sq.same s1).len, rfl, _, rfl, ?_⟩
    rcases how with ⟨ne, rfl⟩ | ⟨ne, bs, bl, rfl, els⟩
    · have el : decide (V.int (xs.length : Nat) = V.int 0) = true := decide_eq_true (by rw [ne]; rfl)
      rw [el]
      exact iteT (k _ s1)
    have el : decide (V.int (xs.length : Nat) = V.int 0) = false := decide_eq_false fun z => by
      have z' : ((xs.length : Nat) : Int) = 0 := V.int.inj z
      omega
    rw [el]
    refine iteF ?_
    refine ⟨_, rfl, _, _, rfl, (sq.same s1).len, _, _, rfl, rfl, ?_⟩
    have fin : ∀ (D : Addr) (H' : Hp), Same (upd H q (.tup [.ty "list", .ty "tuple"])) H' → H' D = some (.lst ((List.range xs.length).map fun i => V.bl (bs.getD i false))) →
        ∃ (b : Addr) (cs : List Bool), [V.ref D] = [V.ref b] ∧ SqL K H' b (cs.map V.bl) ∧ Q (.bl (cs.all id)) H' := by
      intro D H' s2 hD
      rw [← bl, mapGetD] at hD
      exact ⟨D, bs, rfl, SqL.of hD, k H' (Same.trans s1 s2)⟩
    have el : ∀ (i : Nat) (x : V) (H' : Hp) (Q' : VK), Same (upd H q (.tup [.ty "list", .ty "tuple"])) H' → xs[i]? = some x → (∀ H4, Same H' H4 → Q' (.bl (bs.getD i false)) H4) →
        tCall (spAreStates2 K) [] E0 (tCons (tVar 3) (tCons (tVar 1) (tCons (tVar 2) tNil))) ((wipe [some (V.ref a), some (.int m), some (.int ((xs.length : Nat) - 1)), none] [3]).set 3 (some x)) H' Q' := by
      intro i x H' Q' s2 hx q
      exact ⟨_, rfl, _, rfl, _, rfl, x, m, _, bs.getD i false, rfl, els i x hx H' (Same.trans s1 s2), q⟩
    have few' : xs.length < sizeLine := by rw [sizeLine_eq]; omega
    rcases sq.same s1 with hl | ht
    · exact .inl ⟨_, rfl, a, rfl, ⟨_, SqL.of hl⟩, fun D hD => lcMap walk_list (fun i => .bl (bs.getD i false)) few' hD (fun H' e => SqL.of (e _ _ hl)) (fun _ _ _ _ y => y.1) (fun i x H' Q' _ e y q => el i x H' Q' e y.2 q) (fin D)⟩
    · exact .inr ⟨_, rfl, a, rfl, ⟨_, SqT.of ht⟩, fun D hD => lcMap walk_tup (fun i => .bl (bs.getD i false)) few' hD (fun H' e => SqT.of (e _ _ ht)) (fun _ _ _ _ y => y.1) (fun i x H' Q' _ e y q => el i x H' Q' e y.2 q) (fin D)⟩
theorem ok_areAnswers2 {f : Addr} {fd : FuncData} (F : L2.Fun K "are_answers" "are_answers" sAreAnswers f fd) (T : Txt mg) (mB : mg "bool" = none) : FnOk P w K mg base CX0 1 f fd ["value", "many"] (spAreAnswers2 K) := by
  refine F.ok scAreAnswers (fun vs H Q E h => ?_) (fun cdv A outer s H vs Q E hr h => ?_)
  · obtain ⟨x, m, b, rfl, _⟩ := h
    rfl
  · obtain ⟨x, m, b, rfl, ln, k⟩ := h
    have nd := scAreAnswers.nd
    refine ⟨_, pss_cons (ps_if (PW.pt (pw_or (pt_not (pt_val (bIsiSq (by rfl) T.isi (by rfl) T.list (by rfl) T.tuple (pv 0)))) (pw_or1 (pt_cmpR op_ne (bLen (by rfl) T.len (pv 0)) (pv 1) (nomark _))))) (pss_one (ps_ret pe_bl)) pss_nil)
      (pss_one (ps_ret (pe_callB (cr_all rfl) (by rfl) T.all boot_all (pa_cons (pe_lc (own := [("answer", 2)]) (g := gName 2) (tt := tYes) (te := tCB (rIsi K) (tCons (tVar 2) (tCons (tC (.ty "bool")) tNil))) rfl nd (PI_or (pi_list (pv 0)) (pi_tup (pv 0))) (blkOk_by (N := ["value", "many", "answer"]) (sc := defScope sAreAnswers) (by decide +kernel))
        (fun _ _ _ _ _ => pg_name (i := 2) nd rfl (Or.inl rfl)) (fun _ _ _ _ _ => pts_nil) (fun _ _ _ _ _ => bBool (by rfl) T.isi (by rfl) mB (pv 2))) pa_nil)))), ?_⟩
    refine ⟨_, rfl, by show 2 ≤ sizeLine; decide, fun q hq => ?_⟩
    have s1 : Same H (upd H q (.tup [.ty "list", .ty "tuple"])) := Same.new hq
    rcases ln with ⟨rfl, no⟩ | ⟨a, xs, rfl, sq, few, how⟩
    · obtain ⟨t, ty, kt⟩ := tyTup no s1
      exact ⟨x, q, _, t, _, false, rfl, upd_same, cls2, ty, kt, false, rfl, iteT (k _ s1)⟩
    obtain ⟨t, ty, kt⟩ := seqTy (K := K) (sq.same s1)
    refine ⟨.ref a, q, _, t, _, true, rfl, upd_same, cls2, ty, kt, true, rfl, iteF ?_⟩
    refine ⟨_, rfl, _, _, rfl, (sq.same s1).len, _, rfl, rfl, _, rfl, ?_⟩
    rcases how with ⟨ne, rfl⟩ | ⟨rfl, bs, bl, rfl, els⟩
    · have el : decide (V.int (xs.length : Nat) = V.int (m : Nat)) = false := decide_eq_false fun z => ne (by
        have z' : ((xs.length : Nat) : Int) = (m : Nat) := V.int.inj z
        omega)
      rw [el]
      exact iteT (k _ s1)
    have el : decide (V.int (xs.length : Nat) = V.int (xs.length : Nat)) = true := decide_eq_true rfl
    rw [el]
    refine iteF ?_
    have fin : ∀ (D : Addr) (H' : Hp), Same (upd H q (.tup [.ty "list", .ty "tuple"])) H' → H' D = some (.lst ((List.range xs.length).map fun i => V.bl (bs.getD i false))) →
        ∃ (b : Addr) (cs : List Bool), [V.ref D] = [V.ref b] ∧ SqL K H' b (cs.map V.bl) ∧ Q (.bl (cs.all id)) H' := by
      intro D H' s2 hD
      rw [← bl, mapGetD] at hD
      exact ⟨D, bs, rfl, SqL.of hD, k H' (Same.trans s1 s2)⟩
    have el : ∀ (i : Nat) (x : V) (H' : Hp) (Q' : VK), Same (upd H q (.tup [.ty "list", .ty "tuple"])) H' → xs[i]? = some x → (∀ H4, Same H' H4 → Q' (.bl (bs.getD i false)) H4) →
        tCB (rIsi K) (tCons (tVar 2) (tCons (tC (.ty "bool")) tNil)) ((wipe [some (V.ref a), some (.int xs.length), none] [2]).set 2 (some x)) H' Q' := by
      intro i x H' Q' s2 hx q
      obtain ⟨t, ty, kt⟩ := els i x hx H' (Same.trans s1 s2)
      exact ⟨_, rfl, x, .ty "bool", _, _, _, rfl, .ty "bool", ty, kt, q H' (Same.refl H')⟩
    have few' : xs.length < sizeLine := by rw [sizeLine_eq]; omega
    rcases sq.same s1 with hl | ht
    · exact .inl ⟨_, rfl, a, rfl, ⟨_, SqL.of hl⟩, fun D hD => lcMap walk_list (fun i => .bl (bs.getD i false)) few' hD (fun H' e => SqL.of (e _ _ hl)) (fun _ _ _ _ y => y.1) (fun i x H' Q' _ e y q => el i x H' Q' e y.2 q) (fin D)⟩
    · exact .inr ⟨_, rfl, a, rfl, ⟨_, SqT.of ht⟩, fun D hD => lcMap walk_tup (fun i => .bl (bs.getD i false)) few' hD (fun H' e => SqT.of (e _ _ ht)) (fun _ _ _ _ y => y.1) (fun i x H' Q' _ e y q => el i x H' Q' e y.2 q) (fin D)⟩
end
end Kx
set_option Elab.async false
set_option maxRecDepth 100000
set_option autoImplicit false
/-! The signs' checks of any values; the machine that is refused. -/
namespace Kx
open PySem L2 PySem.Spec PyProof.Rows Rg Er
def letT (wd : Str) : Bool := decide (1 ≤ wd.length) && decide (wd.length ≤ 4) && decide (Txt.stripChars wd abc = Str.empty)
def sgnT (wd : Str) : Bool := letT wd && decide (cnt (Rg.signs wd) wd.cps.size = wd.length)
def NoStr (K : PySem.W.Frag) (H : Hp) (x : V) : Prop := ∃ t, TyX K H x t ∧ PySem.W.kitOne K t (.type "str") = some false
/-- x is a text of which b tells, or no text -/
def Tx (K : PySem.W.Frag) (T : Str → Bool) (H : Hp) (x : V) (b : Bool) : Prop := (∃ wd : Str, x = .str wd ∧ wd.length ≤ 100 ∧ b = T wd) ∨ (b = false ∧ NoStr K H x)
def spAreLetters2 (K : PySem.W.Frag) : Sp := fun vs H Q _ => ∃ (x : V) (b : Bool), vs = [x, .int 1, .int 4] ∧ Tx K letT H x b ∧ Q (.bl b) H
def spAreSigns2 (K : PySem.W.Frag) : Sp := fun vs H Q _ => ∃ (x : V) (b : Bool), vs = [x] ∧ Tx K sgnT H x b ∧ Q (.bl b) H
def spCheckSignsN (K : PySem.W.Frag) (C : Addr) : Sp := fun vs H _ E => ∃ x : V, vs = [x] ∧ Tx K sgnT H x false ∧ raised C "part" (.str "signs") E H
def spInitN (K : PySem.W.Frag) (C CM : Addr) : Sp := fun vs H _ E => ∃ (p dx : Addr) (x y u : V), vs = [.ref p, x, y, u] ∧ H p = some (.ins C dx []) ∧ (
   (Tx K sgnT H x false ∧ raised CM "part" (.str "signs") E H) ∨
   (∃ z : Str, x = .str z ∧ Zok z ∧ Stp K H z.length y false ∧ ∀ H', Same H H' → raised CM "part" (.str "steps") E H') ∨
   (∃ (z : Str) (a : Addr) (xs : List V), x = .str z ∧ Zok z ∧ y = .ref a ∧ Sq H a xs ∧ Stp K H z.length y true ∧ (∀ H', Same H H' → Ln K (Bo K) H' xs.length u false) ∧ ∀ H', Same H H' → raised CM "part" (.str "told") E H'))
theorem eqEmpty (x : Str) : decide (V.str x = V.str "") = decide (x = Str.empty) := by
  by_cases q : x = Str.empty
  · rw [q] <;> rfl
  · rw [decide_eq_false q]
    exact decide_eq_false fun z : V.str x = V.str "" => q (V.str.inj z)
theorem eqInts (a b : Nat) : decide (V.int (a : Int) = V.int (b : Int)) = decide (a = b) := by
  by_cases q : a = b
  · rw [q, decide_eq_true rfl, decide_eq_true rfl]
  · rw [decide_eq_false q]
    exact decide_eq_false fun z : V.int (a : Int) = V.int (b : Int) => q (by have := V.int.inj z; omega)
section
variable {P : Program} {w : World} {K : PySem.W.Frag} {mg : Str → Option Value} {base : Heap}
theorem ok_areLetters2 {f : Addr} {fd : FuncData} (F : L2.Fun K "are_letters" "are_letters" sAreLetters f fd) (T : Txt mg) (mS : mg "str" = none) {tk : Tok} (mL : mg "LETTERS" = some (.str abc tk)) : FnOk P w K mg base CX0 1 f fd ["value", "least", "most"] (spAreLetters2 K) := by
  refine F.ok scAreLetters (fun vs H Q E h => ?_) (fun cdv A outer s H vs Q E hr h => ?_)
  · obtain ⟨x, b, rfl, _⟩ := h
    rfl
  · obtain ⟨x, b, rfl, how, k⟩ := h
    refine ⟨_, pss_one (ps_ret (pe_and (bIsi (by rfl) T.isi (pv 0) (pe_bltn (v := .ty "str") (by rfl) mS (by decide +kernel) rfl)) (pe_and (pe_chain op_le op_le (pv 1) (bLen (by rfl) T.len (pv 0)) (pv 2))
      (pe_one (pe_cmpR op_eq (pe_bm PySem.F.plainAttrs_str PySem.F.slot_str_strip PySem.F.type_str_strip mt_stripChars (pv 0) (pa_cons (pe_glob (v := .str abc) (by rfl) mL ⟨_, rfl⟩) pa_nil)) pe_str (nomark _)))))), ?_⟩
    rcases how with ⟨wd, rfl, few, rfl⟩ | ⟨rfl, t, ty, no⟩
    · refine ⟨_, rfl, .str wd, .ty "str", _, _, true, rfl, .ty "str", .base (.str wd), kit_ty (by decide +kernel), true, rfl, iteT ?_⟩
      refine ⟨_, rfl, _, rfl, _, wd.length, rfl, ⟨len_small (by omega), rfl⟩, _, _, rfl, rfl, _, rfl, ?_⟩
      unfold letT at k
      by_cases h1 : 1 ≤ wd.length
      · rw [if_pos (decide_eq_true (by omega))]
        refine ⟨_, rfl, _, _, rfl, rfl, _, rfl, ?_⟩
        rw [decide_eq_true h1, Bool.true_and] at k
        by_cases h2 : wd.length ≤ 4
        · rw [if_pos (decide_eq_true (by omega))]
          refine ⟨_, rfl, rfl, wd, abc, rfl, rfl, len_small (by omega), ?_⟩
          refine ⟨rfl, ?_⟩
          rw [decide_eq_true h2, Bool.true_and] at k
          rw [eqEmpty]
          exact k
        · rw [decide_eq_false h2, Bool.false_and] at k
          have e : decide ((wd.length : Int) ≤ 4) = false := decide_eq_false (by omega)
          rw [e]
          exact iteF k
      · rw [decide_eq_false h1, Bool.false_and, Bool.false_and] at k
        have e : decide ((1 : Int) ≤ (wd.length : Int)) = false := decide_eq_false (by omega)
        rw [e]
        exact iteF ⟨_, rfl, iteF k⟩
    · exact ⟨_, rfl, x, .ty "str", _, _, false, rfl, .ty "str", ty, no, false, rfl, iteF k⟩
theorem ok_areSigns2 {f f1 : Addr} {fd fd1 : FuncData} (F : L2.Fun K "are_signs" "are_signs" sAreSigns f fd) (T : Txt mg) (G : FnOk P w K mg base CX0 1 f1 fd1 ["value", "least", "most"] (spAreLetters2 K)) (m1 : mg "are_letters" = some (.ref f1)) (k1 : PySem.W.keepIn K (.ref f1) = true)
    (b1 : L2.Binds K fd1 ["value", "least", "most"] []) : FnOk P w K mg base CX0 2 f fd ["value"] (spAreSigns2 K) := by
  refine F.ok scAreSigns (fun vs H Q E h => ?_) (fun cdv A outer s H vs Q E hr h => ?_)
  · obtain ⟨x, b, rfl, _⟩ := h
    rfl
  · obtain ⟨x, b, rfl, how, k⟩ := h
    refine ⟨_, pss_one (ps_ret (pe_and (pe_call G hr (by rfl) m1 k1 b1 .nil pass0 (pa_cons (pv 0) (pa_cons pe_int (pa_cons pe_int pa_nil)))) (pe_one (pe_cmpR op_eq (pe_lenSet2 rfl (by rfl) T.len (by rfl) T.set (pv 0)) (bLen (by rfl) T.len (pv 0)) (nomark _))))), ?_⟩
    rcases how with ⟨wd, rfl, few, rfl⟩ | ⟨rfl, no⟩
    · refine ⟨_, rfl, .str wd, letT wd, rfl, .inl ⟨wd, rfl, few, rfl⟩, letT wd, rfl, ?_⟩
      unfold sgnT at k
      cases e : letT wd with
      | false =>
        rw [e, Bool.false_and] at k
        exact iteF k
      | true =>
        rw [e, Bool.true_and] at k
        refine iteT ⟨_, rfl, wd, rfl, few, _, rfl, _, wd.length, rfl, ⟨len_small (by omega), rfl⟩, rfl, ?_⟩
        rw [eqInts]
        exact k
    · exact ⟨_, rfl, x, false, rfl, .inr ⟨rfl, no⟩, false, rfl, iteF k⟩
theorem ok_checkSignsN {C f f1 : Addr} {fd fd1 : FuncData} (F : L2.Fun K "check_signs" "check_signs" sCheckSigns f fd) (G : FnOk P w K mg base CX0 2 f1 fd1 ["value"] (spAreSigns2 K)) (m1 : mg "are_signs" = some (.ref f1)) (k1 : PySem.W.keepIn K (.ref f1) = true)
    (b1 : L2.Binds K fd1 ["value"] []) (R : ErrB P w K mg base "BadMachine" "part" C) : FnOk P w K mg base (L2.CX P w) 3 f fd ["value"] (spCheckSignsN K C) := by
  obtain ⟨fi, fdi, psi, r1, r2, r3, r4⟩ := R.init
  refine F.okX scCheckSigns (fun vs H Q E h => ?_) (fun cdv A outer s H vs Q E hr h => ?_)
  · obtain ⟨x, rfl, _⟩ := h
    rfl
  · obtain ⟨x, rfl, bad, k⟩ := h
    have tk := takes_of (X := cxOf (L2.CX P w) P w K mg base ["value"] "check_signs" (defScope sCheckSigns) f cdv A outer s H E) rfl rfl rfl rfl
    refine ⟨_, pss_one (ps_if (pt_not (pt_val (pe_call G hr (by rfl) m1 k1 b1 .nil pass0 (pa_cons (pv 0) pa_nil)))) (pss_one (ps_raise1 rfl tk R.O r1 r2 r3 hr r4 (by rfl) R.mgC pe_str)) pss_nil), ?_⟩
    exact ⟨_, rfl, x, false, rfl, bad, false, rfl, iteT k⟩
theorem ok_initN {C CM f f1 f2 f3 : Addr} {fd fd1 fd2 fd3 : FuncData} (F : L2.Fun K "__init__" "Machine.__init__" sInit f fd) (T : Txt mg) (M : MT K mg C) (R : ErrB P w K mg base "BadMachine" "part" CM)
    (G1 : FnOk P w K mg base CX0 3 f1 fd1 ["value"] spCheckSigns) (GN : FnOk P w K mg base (L2.CX P w) 3 f1 fd1 ["value"] (spCheckSignsN K CM)) (m1 : mg "check_signs" = some (.ref f1)) (k1 : PySem.W.keepIn K (.ref f1) = true) (b1 : L2.Binds K fd1 ["value"] [])
    (G2 : FnOk P w K mg base CX0 4 f2 fd2 ["value", "many"] (spAreSteps2 K)) (m2 : mg "are_steps" = some (.ref f2)) (k2 : PySem.W.keepIn K (.ref f2) = true) (b2 : L2.Binds K fd2 ["value", "many"] [])
    (G3 : FnOk P w K mg base CX0 1 f3 fd3 ["value", "many"] (spAreAnswers2 K)) (m3 : mg "are_answers" = some (.ref f3)) (k3 : PySem.W.keepIn K (.ref f3) = true) (b3 : L2.Binds K fd3 ["value", "many"] []) :
    FnOk P w K mg base (L2.CX P w) 5 f fd ["self", "signs", "steps", "told"] (spInitN K C CM) := by
  obtain ⟨fi, fdi, psi, r1, r2, r3, r4⟩ := R.init
  refine F.okX scInit (fun vs H Q E h => ?_) (fun cdv A outer s H vs Q E hr h => ?_)
  · obtain ⟨p, dx, x, y, u, rfl, _⟩ := h
    rfl
  · obtain ⟨p, dx, x, y, u, rfl, hp, how⟩ := h
    have nd := scInit.nd
    have hr3 := hr.mono (show 3 ≤ 4 by decide)
    have hr1 := hr.mono (show 1 ≤ 4 by decide)
    have hr2 := hr.mono (show 2 ≤ 4 by decide)
    have tk := takes_of (X := cxOf (L2.CX P w) P w K mg base ["self", "signs", "steps", "told", "onward"] "Machine.__init__" (defScope sInit) f cdv A outer s H E) rfl rfl rfl rfl
    rcases how with ⟨bad, k⟩ | ⟨z, rfl, Z, bad, k⟩ | ⟨z, a, xs, rfl, Z, rfl, sq, good, bad, k⟩
    · refine ⟨_, pss_cons (ps_expr (pe_call GN hr3 (by rfl) m1 k1 b1 .nil (passes_call tk fun _ _ _ _ h => h) (pa_cons (pv 1) pa_nil))) (pss_cons ps_never (pss_cons ps_never (pss_cons ps_never (pss_cons ps_never (pss_one ps_never))))), ?_⟩
      exact ⟨_, rfl, x, rfl, bad, k⟩
    · have zf := Z.few
      refine ⟨_, pss_cons (ps_expr (pe_call G1 hr3 (by rfl) m1 k1 b1 .nil pass0 (pa_cons (pv 1) pa_nil)))
        (pss_cons (ps_if (pt_not (pt_val (pe_call G2 hr (by rfl) m2 k2 b2 .nil pass0 (pa_cons (pv 2) (pa_cons (bLen (by rfl) T.len (pv 1)) pa_nil))))) (pss_one (ps_raise1 rfl tk R.O r1 r2 r3 hr2 r4 (by rfl) R.mgC pe_str)) pss_nil)
        (pss_cons ps_never (pss_cons ps_never (pss_cons ps_never (pss_one ps_never))))), ?_⟩
      refine ⟨_, rfl, z, rfl, Z, ?_⟩
      exact ⟨_, rfl, _, rfl, _, z.length, rfl, ⟨len_small (by omega), rfl⟩, y, z.length, false, rfl, bad, fun H1 s1 => ⟨false, rfl, iteT (k H1 s1)⟩⟩
    · have zf := Z.few
      refine ⟨_, pss_cons (ps_expr (pe_call G1 hr3 (by rfl) m1 k1 b1 .nil pass0 (pa_cons (pv 1) pa_nil)))
        (pss_cons (ps_if (pt_not (pt_val (pe_call G2 hr (by rfl) m2 k2 b2 .nil pass0 (pa_cons (pv 2) (pa_cons (bLen (by rfl) T.len (pv 1)) pa_nil))))) (pss_one ps_never) pss_nil)
        (pss_cons (ps_if (pt_not (pt_val (pe_call G3 hr1 (by rfl) m3 k3 b3 .nil pass0 (pa_cons (pv 3) (pa_cons (bLen (by rfl) T.len (pv 2)) pa_nil))))) (pss_one (ps_raise1 rfl tk R.O r1 r2 r3 hr2 r4 (by rfl) R.mgC pe_str)) pss_nil)
        (pss_cons ps_never (pss_cons ps_never (pss_one ps_never))))), ?_⟩
      refine ⟨_, rfl, z, rfl, Z, ?_⟩
      refine ⟨_, rfl, _, rfl, _, z.length, rfl, ⟨len_small (by omega), rfl⟩, .ref a, z.length, true, rfl, good, fun H1 s1 => ⟨true, rfl, iteF ?_⟩⟩
      exact ⟨_, rfl, _, rfl, _, _, rfl, (sq.same s1).len, u, xs.length, false, rfl, bad H1 s1, fun H2 s2 => ⟨false, rfl, iteT (k H2 (Same.trans s1 s2))⟩⟩
end
end Kx
set_option Elab.async false
set_option maxRecDepth 100000
set_option autoImplicit false
/-! _law_heard: a machine that is made, a machine that is refused. -/
namespace Kx
open PySem L2 PySem.Spec PyProof.Rows Rg Er
abbrev sHeard : Stmt := top 49
structure HearC (K : PySem.W.Frag) (mg : Str → Option Value) (G0 GR GS GN GI GM : Addr) : Prop where
  g0 : mg "GameError" = some (.ref G0)
  gr : mg "BadRow" = some (.ref GR)
  gs : mg "BadSigns" = some (.ref GS)
  gn : mg "BadNumber" = some (.ref GN)
  gi : mg "BadInput" = some (.ref GI)
  gm : mg "BadMachine" = some (.ref GM)
  km : KeptC K GM
  em : PySem.W.exmOne K (.ref GM) (.ref G0) = some true
  nr : PySem.W.kitOne K (.ref GM) (.ref GR) = some false
  ns : PySem.W.kitOne K (.ref GM) (.ref GS) = some false
  nn : PySem.W.kitOne K (.ref GM) (.ref GN) = some false
  ni : PySem.W.kitOne K (.ref GM) (.ref GI) = some true
  nm : PySem.W.kitOne K (.ref GM) (.ref GM) = some true
  fm : PySem.W.findIn K (.ref GM) "part" = some none
  isi : mg "isinstance" = none
def rIsErrT (K : PySem.W.Frag) : List V → Hp → VK → Prop := fun xs H Q => ∃ (a C d : Addr) (fs : List (Str × V)) (tp : Addr) (cs : List V) (us : List Value) (b : Bool), xs = [.ref a, .ref tp] ∧ KeptAt H a C d fs ∧ KeptC K C ∧ H tp = some (.tup cs) ∧ Paired ClsV cs us ∧ PySem.W.kitAny K (.ref C) us = some b ∧ Q (.bl b) H
section
variable {X : Cx}
theorem call_isErrT : CallR X (.builtin "isinstance") (rIsErrT X.K) := by
  rintro pins s σ H xs us Q I r ⟨a, C, d, fs, tp, cs, ws, b, rfl, k, T, hT, kc, e, q⟩
  obtain ⟨u1, u2, rfl, r1, r2⟩ := vals2 r
  obtain rfl : u1 = Value.ref a := r1
  cases (show u2 = Value.ref tp from r2)
  obtain ⟨oe, od, mA, J, _, _⟩ := inst_of I k
  obtain ⟨_, its, rv, o, h1, h2, n, h3⟩ := (show ObjOk X.prog X.w H s.heap tp (.tup cs) from I.hok tp _ hT)
  have e3 := ClsV.all kc rv
  subst e3
  obtain ⟨oc, od', dt, sl⟩ := o
  simp only at h2 h3
  subst h2 h3
  exact PySem.W.kia_tup (PySem.W.kitx_exc (ox := oe) (od := some od) T.cls T.xf.ga T.xf.gg T.xf.exC T.at_ T.get T.tak T.obj) I.kIn J h1 e (fun z => by cases z) fun tk => ⟨.bl b, H, I.tok tk, rfl, q⟩
theorem bIsE {e : Expr} {te : TE} {c : Addr} {x : Str} {p p1 pos : Pos} (hg : Gl X "isinstance") (m : X.mg "isinstance" = none) (he : PE X e te) (g : Gl X x) (m1 : X.mg x = some (.ref c)) (hdb : (x == ("__debug__" : Str)) = false := by decide)
    (na : starEach [e, .Name x p1] X.env = (false, eval e X.env) :: starEach [.Name x p1] X.env := by rfl) (nb : starEach [.Name x p1] X.env = (false, eval (.Name x p1) X.env) :: starEach [] X.env := by rfl) (hpl : (backTo pos (starEach [.Name x p1] X.env)).any (·.1) = false := by rfl) :
    PE X (.Call (.Name "isinstance" p) [e, .Name x p1] [] pos) (tCB (rIsErr X.K) (tCons te (tCons (tC (.ref c)) tNil))) :=
  pe_callB call_isErr hg m boot_isinstance (pa_cons he (pa_cons (pe_glob (v := .ref c) g m1 rfl hdb) pa_nil nb) na) (he := na) (hpl := hpl)
theorem bIsE3 {e : Expr} {te : TE} {c1 c2 c3 : Addr} {x1 x2 x3 : Str} {p p1 p2 p3 tp pos : Pos} {kk : Nat} (hg : Gl X "isinstance") (m : X.mg "isinstance" = none) (he : PE X e te) (g1 : Gl X x1) (m1 : X.mg x1 = some (.ref c1)) (g2 : Gl X x2) (m2 : X.mg x2 = some (.ref c2)) (g3 : Gl X x3) (m3 : X.mg x3 = some (.ref c3))
    (d1 : (x1 == ("__debug__" : Str)) = false := by decide) (d2 : (x2 == ("__debug__" : Str)) = false := by decide) (d3 : (x3 == ("__debug__" : Str)) = false := by decide)
    (na : starEach [e, .Tuple [.Name x1 p1, .Name x2 p2, .Name x3 p3] kk tp] X.env = (false, eval e X.env) :: starEach [.Tuple [.Name x1 p1, .Name x2 p2, .Name x3 p3] kk tp] X.env := by rfl)
    (nb : starEach [.Tuple [.Name x1 p1, .Name x2 p2, .Name x3 p3] kk tp] X.env = (false, eval (.Tuple [.Name x1 p1, .Name x2 p2, .Name x3 p3] kk tp) X.env) :: starEach [] X.env := by rfl) (hpl : (backTo pos (starEach [.Tuple [.Name x1 p1, .Name x2 p2, .Name x3 p3] kk tp] X.env)).any (·.1) = false := by rfl) :
    PE X (.Call (.Name "isinstance" p) [e, .Tuple [.Name x1 p1, .Name x2 p2, .Name x3 p3] kk tp] [] pos) (tCB (rIsErrT X.K) (tCons te (tCons (tTup (tCons (tC (.ref c1)) (tCons (tC (.ref c2)) (tCons (tC (.ref c3)) tNil)))) tNil))) :=
  pe_callB call_isErrT hg m boot_isinstance (pa_cons he (pa_cons (pe_tup (pa_cons (pe_glob (v := .ref c1) g1 m1 rfl d1) (pa_cons (pe_glob (v := .ref c2) g2 m2 rfl d2) (pa_cons (pe_glob (v := .ref c3) g3 m3 rfl d3) pa_nil)))) pa_nil nb) na) (he := na) (hpl := hpl)
end
abbrev nHeard : List Str := ["_law_letters_here", "_law_table", "_law_marks", "_law_caught", "error"]
theorem scHeard : FnScope nHeard ["_law_letters_here", "_law_table", "_law_marks"] (defScope sHeard) := ⟨rfl, rfl, rfl, by decide +kernel, rfl, by decide +kernel, by decide +kernel⟩
def spHeardY : Sp := fun vs H Q _ => ∃ (a b : Addr) (z : Str) (xs : List V) (tb : List (List Int)) (mk : List Bool), vs = [.str z, .ref a, .ref b] ∧ Zok z ∧ Sq H a xs ∧ Rows (Sq H) xs tb ∧ Tab z tb ∧ Sq H b (mk.map V.bl) ∧ mk.length = tb.length ∧ ∀ H', Same H H' → Q .non H'
/-- what is wrong of a machine's parts: part is told -/
def Wrong (K : PySem.W.Frag) (H : Hp) (x y u : V) (part : Str) : Prop :=
  (part = "signs" ∧ ∀ H', Same H H' → Tx K sgnT H' x false) ∨ (∃ z : Str, part = "steps" ∧ x = .str z ∧ Zok z ∧ ∀ H', Same H H' → Stp K H' z.length y false) ∨
  (∃ (z : Str) (a : Addr) (xs : List V), part = "told" ∧ x = .str z ∧ Zok z ∧ y = .ref a ∧ Sq H a xs ∧ (∀ H', Same H H' → Stp K H' z.length y true) ∧ ∀ H', Same H H' → Ln K (Bo K) H' xs.length u false)
def spHeardB (K : PySem.W.Frag) : Sp := fun vs H Q _ => ∃ (x y u : V) (part : Str), vs = [x, y, u] ∧ Wrong K H x y u part ∧ ∀ H', Same H H' → Q (.str part) H'
theorem made_same {C x dx : Addr} {H : Hp} (hx : H x = none) (hd : H dx = none) : Same H (upd (upd H dx (.own x)) x (.ins C dx [])) := fun b o e => by
  rw [upd_ne (ne_of_none e hx), upd_ne (ne_of_none e hd)]; exact e
theorem wrong_init {K : PySem.W.Frag} {GM : Addr} {H H1 : Hp} {x y u : V} {part : Str} {E : XK} (s0 : Same H H1) (bad : Wrong K H x y u part) (raise : ∀ H2, Same H1 H2 → raised GM "part" (.str part) E H2) :
   (Tx K sgnT H1 x false ∧ raised GM "part" (.str "signs") E H1) ∨
   (∃ z : Str, x = .str z ∧ Zok z ∧ Stp K H1 z.length y false ∧ ∀ H', Same H1 H' → raised GM "part" (.str "steps") E H') ∨
   (∃ (z : Str) (a : Addr) (xs : List V), x = .str z ∧ Zok z ∧ y = .ref a ∧ Sq H1 a xs ∧ Stp K H1 z.length y true ∧ (∀ H', Same H1 H' → Ln K (Bo K) H' xs.length u false) ∧ ∀ H', Same H1 H' → raised GM "part" (.str "told") E H') := by
  rcases bad with ⟨rfl, b1⟩ | ⟨z, rfl, rfl, Z, b1⟩ | ⟨z, a, xs, rfl, rfl, Z, rfl, sq, good, b1⟩
  · exact .inl ⟨b1 _ s0, raise _ (Same.refl _)⟩
  · exact .inr (.inl ⟨z, rfl, Z, b1 _ s0, raise⟩)
  · exact .inr (.inr ⟨z, a, xs, rfl, Z, rfl, sq.same s0, good _ s0, fun H' e => b1 _ (Same.trans s0 e), raise⟩)
section
variable {P : Program} {w : World} {K : PySem.W.Frag} {mg : Str → Option Value} {base : Heap}
theorem ok_heardY {C f fi G0 GR GS GN GI GM : Addr} {fd fdi : FuncData} (F : L2.Fun K "_law_heard" "_law_heard" sHeard f fd) (T : HearC K mg G0 GR GS GN GI GM) (M : MT K mg C) (mk_ : Mk K C fi)
    (GG : FnOk P w K mg base CX0 5 fi fdi ["self", "signs", "steps", "told"] (spInit C)) (bI : L2.Binds K fdi ["self", "signs", "steps", "told"] []) : FnOk P w K mg base CX0 7 f fd ["_law_letters_here", "_law_table", "_law_marks"] spHeardY := by
  refine F.ok scHeard (fun vs H Q E h => ?_) (fun cdv A outer s H vs Q E hr h => ?_)
  · obtain ⟨a, b, z, xs, tb, mk, rfl, _⟩ := h
    rfl
  · obtain ⟨a, b, z, xs, tb, mk, rfl, Z, sa, rows, Tb, sb, ml, k⟩ := h
    have nd := scHeard.nd
    refine ⟨_, pss_cons (ps_set (i := 3) nd rfl (.inl rfl) pe_non) (pss_cons (ps_try_keep (i := 4) (j := 3) (c := .ref G0) (Wout := fun _ _ _ _ => False) (tb := fun _ => tDrop (tMake C (spInit C) [] E0 (tCons (tVar 0) (tCons (tVar 1) (tCons (tVar 2) tNil)))))
      rfl rfl rfl nd rfl rfl rfl rfl ⟨rfl, by decide, .inl T.g0⟩ L2.takes0 (by decide) (by decide) rfl (fun W pn xe tk _ => pss_one (ps_expr (pe_make mk_ GG hr (by rfl) M.mgC bI .nil pass0 (pa_cons (pv 0) (pa_cons (pv 1) (pa_cons (pv 2) pa_nil)))))))
    (pss_cons (ps_if (pt_cmp (pc_isN (pv 3))) (pss_one (ps_ret pe_non)) pss_nil) (pss_cons ps_never (pss_one ps_never)))), ?_⟩
    refine ⟨_, rfl, _, rfl, _, rfl, fun x dx hx hd ne => ?_⟩
    have s0 := made_same (C := C) hx hd
    generalize hH1 : upd (upd H dx (.own x)) x (.ins C dx []) = H1 at s0
    have hp1 : H1 x = some (.ins C dx []) := by rw [← hH1]; exact upd_same
    refine ⟨x, dx, a, b, z, xs, tb, mk, rfl, hp1, Z, sa.same s0, rows.mono fun r ys h => h.same s0, Tb, sb.same s0, ml, fun H2 e2 _ => ⟨rfl, ?_⟩⟩
    exact ⟨_, rfl, _, rfl, iteT (k H2 fun c o e => e2 c o (ne_of_none e hx) (s0 c o e))⟩
theorem ok_heardB {C f fi G0 GR GS GN GI GM : Addr} {fd fdi : FuncData} (F : L2.Fun K "_law_heard" "_law_heard" sHeard f fd) (T : HearC K mg G0 GR GS GN GI GM) (M : MT K mg C) (mk_ : Mk K C fi)
    (GG : FnOk P w K mg base (L2.CX P w) 5 fi fdi ["self", "signs", "steps", "told"] (spInitN K C GM)) (bI : L2.Binds K fdi ["self", "signs", "steps", "told"] []) : FnOk P w K mg base CX0 7 f fd ["_law_letters_here", "_law_table", "_law_marks"] (spHeardB K) := by
  refine F.ok scHeard (fun vs H Q E h => ?_) (fun cdv A outer s H vs Q E hr h => ?_)
  · obtain ⟨x, y, u, part, rfl, _⟩ := h
    rfl
  · obtain ⟨x, y, u, part, rfl, bad, k⟩ := h
    have nd := scHeard.nd
    refine ⟨_, pss_cons (ps_set (i := 3) nd rfl (.inl rfl) pe_non) (pss_cons (ps_try_keep (i := 4) (j := 3) (c := .ref G0) (Wout := fun _ _ _ _ => False) (tb := fun W => tDrop (tMake C (spInitN K C GM) [] (fun cls d H' => ∀ σ', W cls d σ' H') (tCons (tVar 0) (tCons (tVar 1) (tCons (tVar 2) tNil)))))
      rfl rfl rfl nd rfl rfl rfl rfl ⟨rfl, by decide, .inl T.g0⟩ L2.takes0 (by decide) (by decide) rfl (fun W pn xe tk _ => pss_one (ps_expr (pe_make mk_ GG hr (by rfl) M.mgC bI .nil (passes_call tk fun _ _ σ' _ h => h σ') (pa_cons (pv 0) (pa_cons (pv 1) (pa_cons (pv 2) pa_nil)))))))
    (pss_cons (ps_if (pt_cmp (pc_isN (pv 3))) (pss_one (ps_ret pe_non)) pss_nil)
    (pss_cons (ps_if (PW.pt (pw_or (pt_val (bIsE3 (by rfl) T.isi (pv 3) (by rfl) T.gr (by rfl) T.gs (by rfl) T.gn)) (pw_or1 (pt_not (pt_val (bIsE (by rfl) T.isi (pv 3) (by rfl) T.gi)))))) (pss_one (ps_ret pe_str)) pss_nil)
    (pss_one (ps_ret (pe_ifExp (pt_val (bIsE (by rfl) T.isi (pv 3) (by rfl) T.gm)) (pe_kf (pv 3)) pe_str)))))), ?_⟩
    refine ⟨_, rfl, _, rfl, _, rfl, fun p dx hx hd ne => ?_⟩
    have s0 := made_same (C := C) hx hd
    generalize hH1 : upd (upd H dx (.own p)) p (.ins C dx []) = H1 at s0
    have hp1 : H1 p = some (.ins C dx []) := by rw [← hH1]; exact upd_same
    refine ⟨p, dx, x, y, u, rfl, hp1, wrong_init s0 bad fun H2 s2 d hd2 σ' => ?_⟩
    have s3 : Same H (upd H2 d (.xd [("part", .str part)])) := Same.trans s0 (Same.trans s2 (Same.new hd2))
    have e3 : upd H2 d (.xd [("part", .str part)]) d = some (.xd [("part", .str part)]) := upd_same
    generalize upd H2 d (.xd [("part", .str part)]) = H3 at s3 e3
    refine ⟨true, T.em, fun _ hlen a na => ?_, fun z => nomatch z⟩
    obtain ⟨x0, x1, x2, x3, x4, rfl⟩ : ∃ x0 x1 x2 x3 x4, σ' = [x0, x1, x2, x3, x4] := by
      match σ', hlen with
      | [x0, x1, x2, x3, x4], _ => exact ⟨x0, x1, x2, x3, x4, rfl⟩
    have kept : KeptAt (upd H3 a (keptE (.ref GM) (some d) a)) a GM d [("part", .str part)] := ⟨upd_same, by rw [upd_ne (ne_of_none e3 na)]; exact e3⟩
    have s4 : Same H (upd H3 a (keptE (.ref GM) (some d) a)) := Same.trans s3 (Same.new na)
    generalize upd H3 a (keptE (.ref GM) (some d) a) = H4 at kept s4
    refine ⟨_, rfl, _, rfl, iteF ?_⟩
    refine ⟨_, rfl, by show 3 ≤ sizeLine; decide, fun q hq => ?_⟩
    have kept5 : KeptAt (upd H4 q (.tup [.ref GR, .ref GS, .ref GN])) a GM d [("part", .str part)] := ⟨by rw [upd_ne (ne_of_none kept.1 hq)]; exact kept.1, by rw [upd_ne (ne_of_none kept.2 hq)]; exact kept.2⟩
    have s5 : Same H (upd H4 q (.tup [.ref GR, .ref GS, .ref GN])) := Same.trans s4 (Same.new hq)
    have e5 : upd H4 q (.tup [.ref GR, .ref GS, .ref GN]) q = some (.tup [.ref GR, .ref GS, .ref GN]) := upd_same
    generalize upd H4 q (.tup [.ref GR, .ref GS, .ref GN]) = H5 at kept5 s5 e5
    refine ⟨a, GM, d, _, q, _, [.ref GR, .ref GS, .ref GN], false, rfl, kept5, T.km, e5, .cons (.own _) (.cons (.own _) (.cons (.own _) .nil)), kitAny_cons T.nr (fun _ => kitAny_cons T.ns (fun _ => kitAny_cons T.nn (fun _ => kitAny_nil) fun z => nomatch z) fun z => nomatch z) (fun z => nomatch z), _, rfl, ?_⟩
    refine iteF ⟨_, rfl, a, GM, d, _, .ref GI, .ref GI, true, rfl, kept5, T.km, .own _, T.ni, _, rfl, iteF ?_⟩
    refine ⟨_, rfl, a, GM, d, _, .ref GM, .ref GM, true, rfl, kept5, T.km, .own _, T.nm, _, rfl, iteT ?_⟩
    exact ⟨_, rfl, a, GM, d, _, _, rfl, kept5, T.km.xf, T.fm, rfl, k _ s5⟩
end
end Kx
set_option Elab.async false
set_option maxRecDepth 100000
set_option autoImplicit false
namespace Kx
open PySem L2 PySem.Spec PyProof.Rows Rg Er
/-! ### data that repr may tell, dicts too -/
structure Tam (d : PyData) (h w : Nat) : Prop where
  sh : d.showable = true
  dp : d.depth ≤ h
  ls : d.leavesShort 40 = true
  wt : d.weight ≤ w
structure Tams (ds : List PyData) (h w : Nat) : Prop where
  sh : PyData.showableAll ds = true
  dp : PyData.depthAll ds ≤ h
  ls : PyData.leavesShortAll 40 ds = true
  wt : PyData.weightAll ds ≤ w
theorem Tams.nil {h w : Nat} : Tams [] h w := ⟨rfl, Nat.zero_le _, rfl, Nat.zero_le _⟩
theorem Tams.cons {d : PyData} {ds : List PyData} {h w1 w2 w : Nat} (a : Tam d h w1) (b : Tams ds h w2) (e : w1 + 1 + w2 ≤ w) : Tams (d :: ds) h w := by
  refine ⟨?_, ?_, ?_, ?_⟩
  · simp only [PyData.showableAll, a.sh, b.sh, Bool.and_self]
  · simp only [PyData.depthAll]; exact Nat.max_le.mpr ⟨a.dp, b.dp⟩
  · simp only [PyData.leavesShortAll, a.ls, b.ls, Bool.and_self]
  · simp only [PyData.weightAll]
    have := a.wt
    have := b.wt
    omega
theorem Tams.all {h w : Nat} : ∀ {ds : List PyData} {W : Nat}, (∀ d ∈ ds, Tam d h w) → ds.length * (w + 1) ≤ W → Tams ds h W
  | [], _, _, _ => .nil
  | d :: r, W, t, e => by
    rw [List.length_cons, Nat.succ_mul] at e
    exact Tams.cons (t d List.mem_cons_self) (Tams.all (fun x hx => t x (List.mem_cons_of_mem _ hx)) (Nat.le_refl _)) (by omega)
theorem Tam.list {ds : List PyData} {h w : Nat} (a : Tams ds h w) : Tam (.list ds) (h + 1) w := ⟨by simp only [PyData.showable, a.sh], by simp only [PyData.depth]; have := a.dp; omega, by simp only [PyData.leavesShort, a.ls], by simp only [PyData.weight]; exact a.wt⟩
theorem Tam.tup {ds : List PyData} {h w : Nat} (a : Tams ds h w) : Tam (.tuple ds) (h + 1) w := ⟨by simp only [PyData.showable, a.sh], by simp only [PyData.depth]; have := a.dp; omega, by simp only [PyData.leavesShort, a.ls], by simp only [PyData.weight]; exact a.wt⟩
theorem Tam.mono {d : PyData} {h w h' w' : Nat} (a : Tam d h w) (e1 : h ≤ h') (e2 : w ≤ w') : Tam d h' w' := ⟨a.sh, Nat.le_trans a.dp e1, a.ls, Nat.le_trans a.wt e2⟩
theorem Tam.of {d : PyData} {h w : Nat} (e : (d.showable && decide (d.depth ≤ h) && d.leavesShort 40 && decide (d.weight ≤ w)) = true) : Tam d h w := by
  simp only [Bool.and_eq_true, decide_eq_true_eq] at e
  exact ⟨e.1.1.1, e.1.1.2, e.1.2, e.2⟩
theorem Tam.int {i : Int} {h w : Nat} (i0 : 0 ≤ i) (i1 : i < 1000) (e : 10 ≤ w) : Tam (.int i) h w := by
  have l : i.natAbs.log2 < 10 := by
    by_cases z : i.natAbs = 0
    · rw [z]; decide
    · exact (Nat.log2_lt z).mpr (by omega)
  refine ⟨?_, by simp only [PyData.depth]; exact Nat.zero_le _, ?_, ?_⟩
  · simp only [PyData.showable, decide_eq_true_eq]; omega
  · simp only [PyData.leavesShort, decide_eq_true_eq]; exact Nat.le_trans (PyData.shown_int_le (by omega)) (by decide)
  · simp only [PyData.weight]
    split <;> omega
theorem Tam.bool (b : Bool) {h w : Nat} : Tam (.bool b) h w := ⟨by simp only [PyData.showable], by simp only [PyData.depth]; exact Nat.zero_le _, by simp only [PyData.leavesShort], by simp only [PyData.weight]; exact Nat.zero_le _⟩
theorem Tam.str {x : Str} {h w : Nat} (s : (PyData.str x).leavesShort 40 = true) (l : x.length ≤ w) : Tam (.str x) h w := ⟨by simp only [PyData.showable], by simp only [PyData.depth]; exact Nat.zero_le _, s, by simp only [PyData.weight]; exact l⟩
theorem Tam.dict1 {i : Int} {d : PyData} {h w : Nat} (i0 : 0 ≤ i) (i1 : i < 1000) (a : Tam d h w) : Tam (.dict [(.int i, d)]) (h + 1) (w + 20) := by
  have b : Tam (.int i) 0 10 := .int i0 i1 (Nat.le_refl _)
  refine ⟨?_, ?_, ?_, ?_⟩
  · simp only [PyData.showable, PyData.showableKv, a.sh, Bool.and_true]
    exact b.sh
  · simp only [PyData.depth, PyData.depthKv]
    have := a.dp
    omega
  · simp only [PyData.leavesShort, PyData.leavesShortKv, a.ls, Bool.and_true]
    exact b.ls
  · simp only [PyData.weight, PyData.weightKv]
    have := a.wt
    have c := b.wt
    simp only [PyData.weight] at c
    omega
theorem Tam.fits {d : PyData} {h w : Nat} (a : Tam d h w) (e : w ≤ 100000) : d.shown.length ≤ sizeLine := by
  have := PyData.shown_le 40 (by decide) d a.ls
  have := a.wt
  rw [sizeLine_eq]
  omega
theorem rRepr2_of {p a : Addr} {H : Hp} {d : PyData} {h w : Nat} {Q : VK} (r : Rq p H (.ref a) d) (t : Tam d h w) (e1 : h ≤ 20) (e2 : w ≤ 100000) (k : Q (.str d.shown) H) : rRepr2 [.ref a] H Q := ⟨p, a, d, rfl, r, t.sh, Nat.le_trans t.dp e1, t.fits e2, k⟩
theorem rqInts {p : Addr} {H : Hp} : ∀ ns : List Int, Paired (Rq p H) (ns.map V.int) (ns.map PyData.int)
  | [] => .nil
  | n :: r => .cons (.int n) (rqInts r)
theorem rqBools {p : Addr} {H : Hp} : ∀ ns : List Bool, Paired (Rq p H) (ns.map V.bl) (ns.map PyData.bool)
  | [] => .nil
  | n :: r => .cons (.bl n) (rqBools r)

/-! ### text * number -/
def rept (x : Str) (n : Nat) : Str := ⟨(List.replicate n x.cps).foldl (· ++ ·) #[]⟩
theorem rept_one (x : Str) : rept x 1 = x := by
  obtain ⟨a⟩ := x
  show (⟨#[] ++ a⟩ : Str) = ⟨a⟩
  simp
def rMulS : R2 := fun x y H Q => ∃ (i : Str) (n : Int), x = .str i ∧ y = .int n ∧ 1 ≤ n ∧ n ≤ 1000 ∧ 0 < i.length ∧ i.length ≤ 1000 ∧ (rept i n.toNat).length ≤ sizeLine ∧ Q (.str (rept i n.toNat)) H
theorem op_mulS {X : Cx} : OpR X (binaryOp .Mult) rMulS := by
  rintro pins s σ H x y v u Q I rx ry ⟨i, n, rfl, rfl, n1, n2, l1, l2, l3, q⟩
  obtain ⟨t, rfl⟩ := rx
  obtain ⟨t', rfl⟩ := ry
  have nl : ¬ n < 1 := by omega
  refine PySem.P.mul_str ?_ (fun _ _ => ?_) (fun _ _ => ?_) ?_
  · rw [decide_eq_false (show ¬ n < -(2 ^ 63) by omega), decide_eq_false (show ¬ n ≥ 2 ^ 63 by omega)]
    rfl
  · have h1 : (1000 : Int) ≤ (2 ^ 63 - 1) / n := (Int.le_ediv_iff_mul_le (by omega)).mpr (by omega)
    omega
  · unfold Builtin.Str.tooLong
    refine decide_eq_false ?_
    have : i.length * n.toNat ≤ 1000 * 1000 := Nat.mul_le_mul l2 (by omega)
    rw [sizeLine_eq]
    omega
  · rw [if_neg nl]
    by_cases e : n = 1
    · subst e
      rw [if_pos (by rw [show ((1 : Int) == 1) = true from rfl, Bool.true_or])]
      rw [show (1 : Int).toNat = 1 from rfl, rept_one] at q
      exact ⟨.str i, H, I, ⟨t, rfl⟩, q⟩
    · rw [if_neg (by
        have a : (n == 1) = false := by simpa using e
        have b : (i.length == 0) = false := by simpa using Nat.ne_of_gt l1
        rw [a, b]; decide)]
      exact ⟨l3, .str (rept i n.toNat), H, I.tok _, ⟨_, rfl⟩, q⟩

/-! ### _law_odd_letters -/
abbrev sOddL : Stmt := top 50
def oddTexts : List Str := ["", "xx", "xox", "xyzwv", "X", "x1", "x o", "x\n"]
theorem oddTexts_facts : oddTexts.all (fun z => decide (z.length ≤ 100) && !sgnT z && ((PyData.str z).showable && decide ((PyData.str z).depth ≤ 4) && (PyData.str z).leavesShort 40 && decide ((PyData.str z).weight ≤ 1000))) = true := by decide +kernel
theorem oddText {z : Str} (h : z ∈ oddTexts) : z.length ≤ 100 ∧ false = sgnT z ∧ Tam (.str z) 4 1000 := by
  have q := List.all_eq_true.mp oddTexts_facts z h
  rw [Bool.and_eq_true, Bool.and_eq_true] at q
  refine ⟨of_decide_eq_true q.1.1, ?_, Tam.of q.2⟩
  have e := q.1.2
  cases z' : sgnT z with
  | false => rfl
  | true => rw [z'] at e; cases e
def spOddL (K : PySem.W.Frag) : Sp := fun vs H Q _ => ∃ (c p : Addr) (n : Nat), vs = [.ref p] ∧ n ≤ 900000 ∧ PenAt c n H p ∧ ∀ v d H', Rq p H' v d → Tam d 4 1000 → (∀ H2, Ext1 p H' H2 → Tx K sgnT H2 v false) → Ink c p (n + 1) H H' → Q v H'
section
variable {P : Program} {w : World} {K : PySem.W.Frag} {mg : Str → Option Value} {base : Heap}
theorem scOddL : FnScope ["_law_pen_here"] ["_law_pen_here"] (defScope sOddL) := ⟨rfl, rfl, rfl, by decide +kernel, rfl, by decide +kernel, by decide +kernel⟩
theorem ok_oddL {f f1 : Addr} {fd fd1 : FuncData} (F : L2.Fun K "_law_odd_letters" "_law_odd_letters" sOddL f fd) (G : FnOk P w K mg base CX0 2 f1 fd1 ["_law_pen_here", "_law_some"] spPick) (m1 : mg "_law_pick" = some (.ref f1)) (k1 : PySem.W.keepIn K (.ref f1) = true)
    (b1 : L2.Binds K fd1 ["_law_pen_here", "_law_some"] []) : FnOk P w K mg base CX0 3 f fd ["_law_pen_here"] (spOddL K) := by
  refine F.ok scOddL (fun vs H Q E h => ?_) (fun cdv A outer s H vs Q E hr h => ?_)
  · obtain ⟨c, p, n, rfl, _⟩ := h
    rfl
  · obtain ⟨c, p, n, rfl, nb, pen, k⟩ := h
    refine ⟨_, pss_one (ps_ret (pe_call G hr (by rfl) m1 k1 b1 .nil pass0 (pa_cons (pv 0) (pa_cons (pe_lst (pa_cons pe_str (pa_cons pe_str (pa_cons pe_str (pa_cons pe_str (pa_cons pe_str (pa_cons pe_str (pa_cons pe_str (pa_cons pe_str
      (pa_cons pe_non (pa_cons pe_int (pa_cons pe_bl (pa_cons (pe_tup (pa_cons pe_str pa_nil)) (pa_cons (pe_lst (pa_cons pe_str (pa_cons pe_str pa_nil))) (pa_cons pe_dnewK pa_nil))))))))))))))) pa_nil)))), ?_⟩
    refine ⟨_, rfl, by show 1 ≤ sizeLine; decide, fun t ht => ⟨by show 2 ≤ sizeLine; decide, fun l hl d hd => ⟨by show 14 ≤ sizeLine; decide, fun L hL => ?_⟩⟩⟩
    have i1 : Ink c p n H (upd H t (.tup [.str "x"])) := (Ink.start pen).new ht
    have e1 : upd H t (.tup [.str "x"]) t = some (.tup [.str "x"]) := upd_same
    generalize upd H t (.tup [.str "x"]) = H1 at i1 e1 hl hd hL ⊢
    have i2 : Ink c p n H1 (upd H1 l (.lst [.str "x", .str "o"])) := (Ink.start i1.2).new hl
    have e2 : upd H1 l (.lst [.str "x", .str "o"]) l = some (.lst [.str "x", .str "o"]) := upd_same
    generalize upd H1 l (.lst [.str "x", .str "o"]) = H2 at i2 e2 hd hL ⊢
    have i3 : Ink c p n H2 (upd H2 d (.dK [])) := (Ink.start i2.2).new hd
    have e3 : upd H2 d (.dK []) d = some (.dK []) := upd_same
    generalize upd H2 d (.dK []) = H3 at i3 e3 hL ⊢
    have tp := pen.ne1 ht
    have lp := i1.2.ne1 hl
    have dp := i2.2.ne1 hd
    refine ⟨c, p, n, by omega, i3.2.new hL, .inl ⟨L, _, rfl, i3.2.ne1 hL, upd_same, by show 0 < 14; decide, by show 14 ≤ 1000; decide, fun v H' hv pen' x => ?_⟩⟩
    have x3 : Ext1 p H3 H' := Ext1.trans (Ext1.new hL) x
    have x2 : Ext1 p H2 H' := Ext1.trans i3.1 x3
    have x1 : Ext1 p H1 H' := Ext1.trans i2.1 x2
    have ink : Ink c p (n + 1) H H' := ⟨Ext1.trans i1.1 x1, pen'⟩
    have txt : ∀ z : Str, z ∈ oddTexts → Q (.str z) H' := fun z hz => by
      obtain ⟨a1, a2, a3⟩ := oddText hz
      exact k _ _ _ (.str z) a3 (fun H2 _ => .inl ⟨z, rfl, a1, a2⟩) ink
    simp only [List.mem_cons, List.not_mem_nil, or_false] at hv
    rcases hv with rfl | rfl | rfl | rfl | rfl | rfl | rfl | rfl | rfl | rfl | rfl | rfl | rfl | rfl
    · exact txt _ (by decide)
    · exact txt _ (by decide)
    · exact txt _ (by decide)
    · exact txt _ (by decide)
    · exact txt _ (by decide)
    · exact txt _ (by decide)
    · exact txt _ (by decide)
    · exact txt _ (by decide)
    · exact k _ _ _ .non (.of (by decide +kernel)) (fun H2 _ => .inr ⟨rfl, _, .base .non, kit_ty (by decide +kernel)⟩) ink
    · exact k _ _ _ (.int _) (.of (by decide +kernel)) (fun H2 _ => .inr ⟨rfl, _, .base (.int _), kit_ty (by decide +kernel)⟩) ink
    · exact k _ _ _ (.bl _) (.of (by decide +kernel)) (fun H2 _ => .inr ⟨rfl, _, .base (.bl _), kit_ty (by decide +kernel)⟩) ink
    · exact k _ _ _ (.tup tp (x1 _ _ tp e1) (.cons (.str _) .nil)) (.of (by decide +kernel)) (fun H2 e => .inr ⟨rfl, _, .base (.tup (e _ _ tp (x1 _ _ tp e1))), kit_ty (by decide +kernel)⟩) ink
    · exact k _ _ _ (.lst lp (x2 _ _ lp e2) (.cons (.str _) (.cons (.str _) .nil))) (.of (by decide +kernel)) (fun H2 e => .inr ⟨rfl, _, .base (.lst (e _ _ lp (x2 _ _ lp e2))), kit_ty (by decide +kernel)⟩) ink
    · exact k _ _ _ (.dct dp (x3 _ _ dp e3) .nil) (.of (by decide +kernel)) (fun H2 e => .inr ⟨rfl, _, .base (.dK (e _ _ dp (x3 _ _ dp e3))), kit_ty (by decide +kernel)⟩) ink
end
end Kx
set_option Elab.async false
set_option maxRecDepth 100000
set_option autoImplicit false
namespace Kx
open PySem L2 PySem.Spec PyProof.Rows Rg Er
/-! ### xs[:k] + [o] + xs[k + 1:] -/
theorem cut_to (xs : List V) (k : Nat) : cutV xs none (some (k : Int)) = xs.take k := by
  unfold cutV
  rw [HT.sIx_nat, show HT.sIx xs.length 0 none = 0 from rfl, List.drop_zero, Nat.sub_zero]
  by_cases h : k ≤ xs.length
  · rw [Nat.min_eq_left h]
  · rw [Nat.min_eq_right (by omega), List.take_of_length_le (Nat.le_refl _), List.take_of_length_le (by omega)]
theorem cut_from (xs : List V) (k : Nat) : cutV xs (some (k : Int)) none = xs.drop k := by
  unfold cutV
  rw [HT.sIx_nat, show HT.sIx xs.length xs.length none = xs.length from rfl]
  by_cases h : k ≤ xs.length
  · rw [Nat.min_eq_left h]
    exact List.take_of_length_le (by rw [List.length_drop]; exact Nat.le_refl _)
  · rw [Nat.min_eq_right (by omega), Nat.sub_self, List.drop_of_length_le (show xs.length ≤ k by omega)]
    rfl
theorem cut_last (xs : List V) (h : 0 < xs.length) : cutV xs none (some (-1)) = xs.take (xs.length - 1) := by
  unfold cutV
  rw [show HT.sIx xs.length 0 none = 0 from rfl, List.drop_zero, Nat.sub_zero]
  have e : HT.sIx xs.length xs.length (some (-1)) = xs.length - 1 := by
    show (if (-1 : Int) < 0 then ((-1 : Int) + (xs.length : Int)).toNat else min (-1 : Int).toNat xs.length) = xs.length - 1
    rw [if_pos (by decide)]
    omega
  rw [e]
theorem cut_set {xs : List V} {k : Nat} {o : V} (h : k < xs.length) : xs.take k ++ [o] ++ xs.drop (k + 1) = xs.set k o := by
  rw [List.set_eq_take_append_cons_drop, if_pos h, List.append_assoc]
  rfl
def tSetAt (a b c : Nat) : TE := fun σ H Q => ∃ (ra : Addr) (xs : List V) (k : Nat) (o : V), σ[a]? = some (some (.ref ra)) ∧ σ[b]? = some (some (.int k)) ∧ σ[c]? = some (some o) ∧ H ra = some (.lst xs) ∧ k < xs.length ∧ xs.length ≤ 1000 ∧
  ∀ q H', Same H H' → H q = none → H' q = some (.lst (xs.set k o)) → Q (.ref q) H'
theorem pe_setAt {X : Cx} {ea eb ec ea' eb' : Expr} {a b c : Nat} {kk : Nat} {p1 p2 p3 p4 p5 p6 p7 p8 p9 : Pos} (ha : PE X ea (tVar a)) (hb : PE X eb (tVar b)) (hc : PE X ec (tVar c)) (ha' : PE X ea' (tVar a)) (hb' : PE X eb' (tVar b)) (na : starEach [ec] X.env = (false, eval ec X.env) :: starEach [] X.env := by rfl) :
    PE X (.BinOp (.BinOp (.Subscript ea (.Slice none (some eb) none p1) p2) .Add (.List [ec] p3) p4) .Add (.Subscript ea' (.Slice (some (.BinOp eb' .Add (.Constant (.int 1) kk p5) p6)) none none p7) p8) p9) (tSetAt a b c) := by
  refine ⟨fun pins s σ H Q I h => (pe_op op_cat (pe_op op_cat (pe_slice sl_list ha po_none (po_some hb)) (pe_lst (pa_cons hc pa_nil na))) (pe_slice sl_list ha' (po_some (pe_op op_add hb' pe_int)) po_none)).run pins s σ H Q I ?_⟩
  obtain ⟨ra, xs, k, o, h1, h2, h3, hx, kl, few, q⟩ := h
  refine ⟨_, h1, _, h2, _, rfl, ra, xs, rfl, SqL.of hx, fun q1 hq1 => ?_⟩
  have s1 : Same H (upd H q1 (.lst (cutV xs none (some (k : Int))))) := Same.new hq1
  have e1 : upd H q1 (.lst (cutV xs none (some (k : Int)))) q1 = some (.lst (xs.take k)) := by rw [upd_same, cut_to]
  generalize upd H q1 (.lst (cutV xs none (some (k : Int)))) = H1 at s1 e1
  refine ⟨_, h3, by show 1 ≤ sizeLine; decide, fun q2 hq2 => ?_⟩
  have s2 : Same H1 (upd H1 q2 (.lst [o])) := Same.new hq2
  have e2 : upd H1 q2 (.lst [o]) q2 = some (.lst [o]) := upd_same
  generalize upd H1 q2 (.lst [o]) = H2 at s2 e2
  have lt : (xs.take k).length ≤ 1000 := by rw [List.length_take]; omega
  refine ⟨q1, q2, _, _, rfl, rfl, s2 _ _ e1, e2, by rw [sizeLine_eq, List.length_singleton]; omega, fun q3 hq3 => ?_⟩
  have s3 : Same H2 (upd H2 q3 (.lst (xs.take k ++ [o]))) := Same.new hq3
  have e3 : upd H2 q3 (.lst (xs.take k ++ [o])) q3 = some (.lst (xs.take k ++ [o])) := upd_same
  generalize upd H2 q3 (.lst (xs.take k ++ [o])) = H3 at s3 e3
  have s03 : Same H H3 := Same.trans s1 (Same.trans s2 s3)
  refine ⟨_, h1, _, h2, _, _, rfl, rfl, _, rfl, ra, xs, rfl, SqL.of (s03 _ _ hx), fun q4 hq4 => ?_⟩
  have s4 : Same H3 (upd H3 q4 (.lst (cutV xs (some ((k : Int) + 1)) none))) := Same.new hq4
  have e4 : upd H3 q4 (.lst (cutV xs (some ((k : Int) + 1)) none)) q4 = some (.lst (xs.drop (k + 1))) := by rw [upd_same, show ((k : Int) + 1) = ((k + 1 : Nat) : Int) from rfl, cut_from]
  generalize upd H3 q4 (.lst (cutV xs (some ((k : Int) + 1)) none)) = H4 at s4 e4
  have ld : (xs.drop (k + 1)).length ≤ 1000 := by rw [List.length_drop]; omega
  refine ⟨q3, q4, _, _, rfl, rfl, s4 _ _ e3, e4, by rw [sizeLine_eq, List.length_append, List.length_singleton]; omega, fun q5 hq5 => ?_⟩
  have s05 : Same H (upd H4 q5 (.lst (xs.take k ++ [o] ++ xs.drop (k + 1)))) := Same.trans s03 (Same.trans s4 (Same.new hq5))
  refine q q5 _ s05 (Same.free (Same.trans s03 s4) hq5) ?_
  rw [upd_same, cut_set kl]

/-! ### values that repr may tell -/
/-- v is data of at most this size, none of it at p -/
def Good (p : Addr) (h w : Nat) (H : Hp) (v : V) : Prop := ∃ d, Rq p H v d ∧ Tam d h w
theorem Good.ext {p : Addr} {h w : Nat} {H H' : Hp} {v : V} (g : Good p h w H v) (e : Ext1 p H H') : Good p h w H' v := by
  obtain ⟨d, r, t⟩ := g
  exact ⟨d, r.ext e, t⟩
theorem Good.mono {p : Addr} {h w h' w' : Nat} {H : Hp} {v : V} (g : Good p h w H v) (e1 : h ≤ h') (e2 : w ≤ w') : Good p h' w' H v := by
  obtain ⟨d, r, t⟩ := g
  exact ⟨d, r, t.mono e1 e2⟩
theorem goods {p : Addr} {h w : Nat} {H : Hp} : ∀ {xs : List V}, (∀ x ∈ xs, Good p h w H x) → ∃ ds, Paired (Rq p H) xs ds ∧ Tams ds h (xs.length * (w + 1))
  | [], _ => ⟨[], .nil, .nil⟩
  | x :: xs, g => by
    obtain ⟨d, r, t⟩ := g x List.mem_cons_self
    obtain ⟨ds, r2, t2⟩ := goods fun y hy => g y (List.mem_cons_of_mem _ hy)
    refine ⟨d :: ds, .cons r r2, Tams.cons t t2 ?_⟩
    rw [List.length_cons, Nat.succ_mul]
    omega
theorem Good.lst {p a : Addr} {h w W : Nat} {H : Hp} {xs : List V} (n : a ≠ p) (e : H a = some (.lst xs)) (g : ∀ x ∈ xs, Good p h w H x) (l : xs.length * (w + 1) ≤ W) : Good p (h + 1) W H (.ref a) := by
  obtain ⟨ds, r, t⟩ := goods g
  exact ⟨_, .lst n e r, (Tam.list t).mono (Nat.le_refl _) l⟩
theorem Good.tup {p a : Addr} {h w W : Nat} {H : Hp} {xs : List V} (n : a ≠ p) (e : H a = some (.tup xs)) (g : ∀ x ∈ xs, Good p h w H x) (l : xs.length * (w + 1) ≤ W) : Good p (h + 1) W H (.ref a) := by
  obtain ⟨ds, r, t⟩ := goods g
  exact ⟨_, .tup n e r, (Tam.tup t).mono (Nat.le_refl _) l⟩
theorem Good.int {p : Addr} {h w : Nat} {H : Hp} {i : Int} (i0 : 0 ≤ i) (i1 : i < 1000) (e : 10 ≤ w) : Good p h w H (.int i) := ⟨_, .int i, .int i0 i1 e⟩
theorem Good.bl {p : Addr} {h w : Nat} {H : Hp} (b : Bool) : Good p h w H (.bl b) := ⟨_, .bl b, .bool b⟩
theorem Good.non {p : Addr} {h w : Nat} {H : Hp} : Good p h w H .non := ⟨_, .non, ⟨by simp only [PyData.showable], by simp only [PyData.depth]; exact Nat.zero_le _, by simp only [PyData.leavesShort], by simp only [PyData.weight]; exact Nat.zero_le _⟩⟩
theorem Good.dK0 {p a : Addr} {h w : Nat} {H : Hp} (n : a ≠ p) (e : H a = some (.dK [])) : Good p (h + 1) w H (.ref a) := by
  have t : Tam (.dict []) 1 0 := .of (by decide +kernel)
  exact ⟨.dict [], .dct n e .nil, t.mono (by omega) (Nat.zero_le _)⟩
theorem Good.dK1 {p a : Addr} {h w : Nat} {H : Hp} {i : Int} {v : V} (n : a ≠ p) (e : H a = some (.dK [(.inl i, v)])) (i0 : 0 ≤ i) (i1 : i < 1000) (g : Good p h w H v) : Good p (h + 1) (w + 20) H (.ref a) := by
  obtain ⟨d, r, t⟩ := g
  exact ⟨.dict [(.int i, d)], .dct (kvs := [(.inl i, v)]) (ds := [d]) n e (.cons r .nil), .dict1 i0 i1 t⟩
def zeros : List Str := ["0", "00", "000", "0000", "00000", "000000", "0000000", "00000000"]
theorem zeros_facts : (List.range 8).all (fun i => decide (rept "0" (i + 1) = zeros.getD i "") && decide ((rept "0" (i + 1)).length ≤ 8) && (PyData.str (rept "0" (i + 1))).leavesShort 40) = true := by decide +kernel
theorem zerosAt {n : Nat} (h0 : 0 < n) (h8 : n ≤ 8) : (rept "0" n).length ≤ 8 ∧ (PyData.str (rept "0" n)).leavesShort 40 = true := by
  have q := List.all_eq_true.mp zeros_facts (n - 1) (List.mem_range.mpr (by omega))
  rw [show n - 1 + 1 = n by omega] at q
  simp only [Bool.and_eq_true, decide_eq_true_eq] at q
  exact ⟨q.1.2, q.2⟩
theorem Good.zeros {p : Addr} {h w : Nat} {H : Hp} {n : Nat} (h0 : 0 < n) (h8 : n ≤ 8) (e : 8 ≤ w) : Good p h w H (.str (rept "0" n)) := by
  obtain ⟨a, b⟩ := zerosAt h0 h8
  exact ⟨_, .str _, .str b (by omega)⟩

/-! ### what is wrong of a line, of a table, of the marks -/
theorem allTrue (n : Nat) : (List.replicate n true).all id = true := by simp
theorem allSet {n k : Nat} (h : k < n) : ((List.replicate n true).set k false).all id = false := by
  rw [List.all_eq_false]
  exact ⟨false, List.mem_set (by simpa using h) false, by simp⟩
theorem getSet {n k i : Nat} (h : i < n) : ((List.replicate n true).set k false).getD i false = !decide (i = k) := by
  rw [List.getD_eq_getElem?_getD, List.getElem?_set]
  by_cases e : k = i
  · subst e
    simp [h]
  · simp [e, h, Ne.symm e]
/-- a value that is neither a list nor a tuple -/
theorem noSq_of {K : PySem.W.Frag} {H : Hp} {v : V} {b : String} (t : ∀ H', Same H H' → TyX K H' v (.type b)) (h1 : kitB b "list" = some false) (h2 : kitB b "tuple" = some false) : NoSq K H v :=
  ⟨_, t, kitAny_cons (kit_ty h1) (fun _ => kitAny_cons (kit_ty h2) (fun _ => kitAny_nil) fun z => nomatch z) fun z => nomatch z⟩
theorem noSq_non {K : PySem.W.Frag} {H : Hp} : NoSq K H .non := noSq_of (fun _ _ => .base .non) (by decide +kernel) (by decide +kernel)
theorem noSq_int {K : PySem.W.Frag} {H : Hp} (i : Int) : NoSq K H (.int i) := noSq_of (fun _ _ => .base (.int i)) (by decide +kernel) (by decide +kernel)
theorem noSq_bl {K : PySem.W.Frag} {H : Hp} (b : Bool) : NoSq K H (.bl b) := noSq_of (fun _ _ => .base (.bl b)) (by decide +kernel) (by decide +kernel)
theorem noSq_str {K : PySem.W.Frag} {H : Hp} (x : Str) : NoSq K H (.str x) := noSq_of (fun _ _ => .base (.str x)) (by decide +kernel) (by decide +kernel)
theorem noSq_dK {K : PySem.W.Frag} {H : Hp} {a : Addr} {kvs : List (Key × V)} (e : H a = some (.dK kvs)) : NoSq K H (.ref a) := noSq_of (fun _ s => .base (.dK (s _ _ e))) (by decide +kernel) (by decide +kernel)
/-- a row whose entries are states -/
theorem ln_good {K : PySem.W.Frag} {H : Hp} {a : Addr} {row : List Int} {last : Int} (e : H a = some (.lst (row.map V.int))) (few : row.length ≤ 1000) (v : ∀ x ∈ row, 0 ≤ x ∧ x ≤ last) : Ln K (fun H2 => St K H2 last) H row.length (.ref a) true := by
  refine .inr ⟨a, _, rfl, .inl e, by rw [List.length_map]; exact few, .inr ⟨List.length_map _, List.replicate row.length true, List.length_replicate, (allTrue _).symm, fun i y hy H' s => ?_⟩⟩
  rw [List.getElem?_map] at hy
  cases h : row[i]? with
  | none => rw [h] at hy; cases hy
  | some x =>
    rw [h] at hy
    cases hy
    have hi := (List.getElem?_eq_some_iff.mp h).1
    obtain ⟨v1, v2⟩ := v x (List.mem_of_getElem? h)
    refine .inl ⟨x, rfl, ?_⟩
    rw [decide_eq_true v1, decide_eq_true v2, List.getD_eq_getElem?_getD, List.getElem?_replicate, if_pos hi]
    rfl
/-- the same with one entry that is none -/
theorem ln_set {K : PySem.W.Frag} {H : Hp} {a : Addr} {row : List Int} {last : Int} {k : Nat} {o : V} (e : H a = some (.lst ((row.map V.int).set k o))) (hk : k < row.length) (few : row.length ≤ 1000) (v : ∀ x ∈ row, 0 ≤ x ∧ x ≤ last) (no : ∀ H', Same H H' → St K H' last o false) : Ln K (fun H2 => St K H2 last) H row.length (.ref a) false := by
  refine .inr ⟨a, _, rfl, .inl e, by rw [List.length_set, List.length_map]; exact few, .inr ⟨by rw [List.length_set, List.length_map], (List.replicate row.length true).set k false, by rw [List.length_set, List.length_replicate], (allSet hk).symm, fun i y hy H' s => ?_⟩⟩
  have hi : i < row.length := by simpa using (List.getElem?_eq_some_iff.mp hy).1
  rw [getSet hi]
  rw [List.getElem?_set] at hy
  by_cases q : k = i
  · subst q
    rw [if_pos rfl, if_pos (by simpa using hk)] at hy
    cases hy
    rw [decide_eq_true rfl]
    exact no H' s
  · rw [if_neg q, List.getElem?_map, List.getElem?_eq_getElem hi] at hy
    cases hy
    obtain ⟨v1, v2⟩ := v _ (List.getElem_mem hi)
    refine .inl ⟨_, rfl, ?_⟩
    rw [decide_eq_true v1, decide_eq_true v2, decide_eq_false (Ne.symm q)]
    rfl
theorem ln_len {K : PySem.W.Frag} {El : Hp → V → Bool → Prop} {H : Hp} {a : Addr} {xs : List V} {m : Nat} (e : Sq H a xs) (few : xs.length ≤ 1000) (ne : xs.length ≠ m) : Ln K El H m (.ref a) false := .inr ⟨a, xs, rfl, e, few, .inl ⟨ne, rfl⟩⟩
/-- the rows of a table -/
def RowsAt (H : Hp) (z : Str) (tb : List (List Int)) (xs : List V) : Prop := xs.length = tb.length ∧ ∀ i, i < tb.length → ∃ (r : Addr) (row : List Int), xs[i]? = some (.ref r) ∧ H r = some (.lst (row.map V.int)) ∧ row.length = z.length ∧ ∀ v ∈ row, 0 ≤ v ∧ v < tb.length
theorem RowsAt.same {H H' : Hp} {z : Str} {tb : List (List Int)} {xs : List V} (r : RowsAt H z tb xs) (s : Same H H') : RowsAt H' z tb xs := ⟨r.1, fun i hi => by
  obtain ⟨a, row, h1, h2, h3⟩ := r.2 i hi
  exact ⟨a, row, h1, s _ _ h2, h3⟩⟩
/-- table[:k] + [o] + table[k + 1:], o a line that is none -/
theorem stp_set {K : PySem.W.Frag} {H : Hp} {a : Addr} {z : Str} {tb : List (List Int)} {xs : List V} {k : Nat} {o : V} (R : RowsAt H z tb xs) (Z : Zok z) (few : tb.length ≤ 1000) (e : H a = some (.lst (xs.set k o))) (hk : k < xs.length) (no : ∀ H', Same H H' → Ln K (fun H2 => St K H2 ((tb.length : Int) - 1)) H' z.length o false) : Stp K H z.length (.ref a) false := by
  have hx := R.1
  have zf := Z.few
  refine .inr ⟨a, _, rfl, .inl e, by rw [List.length_set]; omega, .inr ⟨by rw [List.length_set]; omega, (List.replicate xs.length true).set k false, by simp, (allSet hk).symm, fun i y hy H' s => ?_⟩⟩
  rw [List.length_set]
  have hi : i < xs.length := by simpa using (List.getElem?_eq_some_iff.mp hy).1
  rw [getSet hi]
  rw [List.getElem?_set] at hy
  by_cases q : k = i
  · subst q
    rw [if_pos rfl, if_pos hk] at hy
    cases hy
    rw [decide_eq_true rfl, hx]
    exact no H' s
  · rw [if_neg q] at hy
    obtain ⟨r, row, h1, h2, h3, h4⟩ := R.2 i (by omega)
    rw [h1] at hy
    cases hy
    rw [decide_eq_false (Ne.symm q), hx, ← h3]
    exact ln_good (s _ _ h2) (by omega) fun v hv => by have := h4 v hv; omega
theorem stp_good {K : PySem.W.Frag} {H : Hp} {a : Addr} {z : Str} {tb : List (List Int)} {xs : List V} (R : RowsAt H z tb xs) (Z : Zok z) (pos : 0 < tb.length) (few : tb.length ≤ 1000) (e : H a = some (.lst xs)) : Stp K H z.length (.ref a) true := by
  have hx := R.1
  have zf := Z.few
  refine .inr ⟨a, xs, rfl, .inl e, by omega, .inr ⟨by omega, List.replicate xs.length true, by simp, (allTrue _).symm, fun i y hy H' s => ?_⟩⟩
  have hi : i < xs.length := (List.getElem?_eq_some_iff.mp hy).1
  obtain ⟨r, row, h1, h2, h3, h4⟩ := R.2 i (by omega)
  rw [h1] at hy
  cases hy
  rw [List.getD_eq_getElem?_getD, List.getElem?_replicate, if_pos hi, hx, ← h3]
  exact ln_good (s _ _ h2) (by omega) fun v hv => by have := h4 v hv; omega
/-- table + [[]] -/
theorem stp_more {K : PySem.W.Frag} {H : Hp} {a b : Addr} {z : Str} {tb : List (List Int)} {xs : List V} (R : RowsAt H z tb xs) (Z : Zok z) (few : tb.length ≤ 900) (e : H a = some (.lst (xs ++ [.ref b]))) (eb : H b = some (.lst [])) : Stp K H z.length (.ref a) false := by
  have hx := R.1
  have zf := Z.few
  have zp := Z.pos
  refine .inr ⟨a, _, rfl, .inl e, by rw [List.length_append, List.length_singleton]; omega, .inr ⟨by rw [List.length_append, List.length_singleton]; omega, (List.replicate (xs.length + 1) true).set xs.length false, by simp, (allSet (by omega)).symm, fun i y hy H' s => ?_⟩⟩
  have hi : i < xs.length + 1 := by simpa using (List.getElem?_eq_some_iff.mp hy).1
  rw [getSet hi, List.length_append, List.length_singleton]
  by_cases q : i = xs.length
  · subst q
    rw [List.getElem?_append_right (Nat.le_refl _), Nat.sub_self] at hy
    cases hy
    rw [decide_eq_true rfl]
    exact ln_len (xs := []) (.inl (s _ _ eb)) (Nat.zero_le _) (by show 0 ≠ z.length; omega)
  · rw [List.getElem?_append_left (by omega)] at hy
    obtain ⟨r, row, h1, h2, h3, h4⟩ := R.2 i (by omega)
    rw [h1] at hy
    cases hy
    rw [decide_eq_false q, ← h3]
    exact ln_good (s _ _ h2) (by omega) fun v hv => by have := h4 v hv; omega
end Kx
set_option Elab.async false
set_option maxRecDepth 100000
set_option autoImplicit false
namespace Kx
open PySem L2 PySem.Spec PyProof.Rows Rg Er
abbrev sOddT : Stmt := top 51
theorem rowsAt_of {p : Addr} {H H' : Hp} {z : Str} {tb : List (List Int)} {xs : List V} (rows : Rows (fun r ys => r ≠ p ∧ H r = some (.lst ys)) xs tb) (Tb : Tab z tb) (e : Ext1 p H H') : RowsAt H' z tb xs := ⟨rows.1, fun i hi => by
  obtain ⟨r, h1, h2, h3⟩ := rows.2 i hi
  obtain ⟨l1, l2⟩ := Tb.at_ hi
  exact ⟨r, _, h1, e _ _ h2 h3, l1, l2⟩⟩
theorem good_ints {p : Addr} {h w : Nat} {H : Hp} {row : List Int} (e : 10 ≤ w) (v : ∀ x ∈ row, 0 ≤ x ∧ x < 1000) : ∀ x ∈ row.map V.int, Good p h w H x := fun x hx => by
  obtain ⟨i, hi, rfl⟩ := List.mem_map.mp hx
  exact .int (v i hi).1 (v i hi).2 e
theorem good_set {p : Addr} {h w : Nat} {H : Hp} {xs : List V} {k : Nat} {o : V} (g : ∀ x ∈ xs, Good p h w H x) (go : Good p h w H o) : ∀ x ∈ xs.set k o, Good p h w H x := fun x hx => by
  rcases List.mem_or_eq_of_mem_set hx with h | rfl
  · exact g x h
  · exact go
theorem good_rows {p : Addr} {H H' : Hp} {z : Str} {tb : List (List Int)} {xs : List V} (rows : Rows (fun r ys => r ≠ p ∧ H r = some (.lst ys)) xs tb) (Tb : Tab z tb) (Z : Zok z) (e : Ext1 p H H') : ∀ x ∈ xs, Good p 2 1000 H' x := fun x hx => by
  obtain ⟨i, hi, rfl⟩ := List.getElem_of_mem hx
  have hl := rows.1
  obtain ⟨r, h1, h2, h3⟩ := rows.2 i (by omega)
  obtain ⟨l1, l2⟩ := Tb.at_ (show i < tb.length by omega)
  have tf := Tb.few
  have zf := Z.few
  rw [List.getElem?_eq_getElem hi] at h1
  rw [Option.some.inj h1]
  exact Good.lst (h := 1) (w := 100) h2 (e _ _ h2 h3) (good_ints (by decide) fun v hv => by have := l2 v hv; omega) (by rw [List.length_map]; omega)
theorem mem_rep {n : Nat} {x v : V} (h : v ∈ (List.replicate n [x]).flatten) : v = x := by
  obtain ⟨l, h1, h2⟩ := List.mem_flatten.mp h
  rw [List.eq_of_mem_replicate h1] at h2
  exact List.mem_singleton.mp h2
theorem len_rep (n : Nat) (x : V) : (List.replicate n [x]).flatten.length = n := by simp
/-- what is wrong of a line: at each heap behind -/
def BadL (K : PySem.W.Frag) (p : Addr) (H : Hp) (m : Nat) (last : Int) (v : V) : Prop := ∀ H', Ext1 p H H' → Good p 2 1000 H' v ∧ Ln K (fun H2 => St K H2 last) H' m v false
def BadT (K : PySem.W.Frag) (p : Addr) (H : Hp) (m : Nat) (v : V) : Prop := ∀ H', Ext1 p H H' → Good p 3 10000 H' v ∧ Stp K H' m v false
def BadI (K : PySem.W.Frag) (p : Addr) (H : Hp) (last : Int) (v : V) : Prop := ∀ H', Ext1 p H H' → Good p 1 200 H' v ∧ St K H' last v false
theorem badI_ty {K : PySem.W.Frag} {p : Addr} {H : Hp} {last : Int} {v : V} {b : String} {i : Bool} (g : ∀ H', Ext1 p H H' → Good p 1 200 H' v) (t : ∀ H', Ext1 p H H' → TyX K H' v (.type b)) (h1 : kitB b "int" = some i) (h2 : i = true → kitB b "bool" = some true) : BadI K p H last v :=
  fun H' e => ⟨g H' e, .inr ⟨rfl, _, i, t H' e, kit_ty h1, fun z => kit_ty (h2 z)⟩⟩
theorem badI_int {K : PySem.W.Frag} {p : Addr} {H : Hp} {last i : Int} (g : ∀ H', Good p 1 200 H' (.int i)) (o : i < 0 ∨ last < i) : BadI K p H last (.int i) := fun H' _ => ⟨g H', .inl ⟨i, rfl, by
  rcases o with h | h
  · rw [decide_eq_false (show ¬ 0 ≤ i by omega)] <;> rfl
  · rw [decide_eq_false (show ¬ i ≤ last by omega), Bool.and_false]⟩⟩
def spOddT (K : PySem.W.Frag) : Sp := fun vs H Q _ => ∃ (c p : Addr) (n : Nat) (z : Str) (a : Addr) (tb : List (List Int)), vs = [.ref p, .str z, .ref a] ∧ n ≤ 900000 ∧ PenAt c n H p ∧ Zok z ∧ LTab p H a tb ∧ Tab z tb ∧ ∀ v H', BadT K p H' z.length v → Ink c p (n + 5) H H' → Q v H'
section
variable {P : Program} {w : World} {K : PySem.W.Frag} {mg : Str → Option Value} {base : Heap}
abbrev nOddT : List Str := ["_law_pen_here", "_law_letters_here", "_law_table", "_law_many", "_law_at", "_law_spot", "_law_line", "_law_odd", "_law_lines", "_law_bent", "_law_some"]
theorem scOddT : FnScope nOddT ["_law_pen_here", "_law_letters_here", "_law_table"] (defScope sOddT) := ⟨rfl, rfl, rfl, by decide +kernel, rfl, by decide +kernel, by decide +kernel⟩
set_option maxHeartbeats 0 in
theorem ok_oddT {f f1 f2 : Addr} {fd fd1 fd2 : FuncData} (F : L2.Fun K "_law_odd_table" "_law_odd_table" sOddT f fd) (T : Txt mg) (GD : FnOk P w K mg base CX0 1 f1 fd1 ["_law_pen_here", "_law_many"] spDraw) (m1 : mg "_law_draw" = some (.ref f1)) (k1 : PySem.W.keepIn K (.ref f1) = true) (b1 : L2.Binds K fd1 ["_law_pen_here", "_law_many"] [])
    (GP : FnOk P w K mg base CX0 2 f2 fd2 ["_law_pen_here", "_law_some"] spPick) (m2 : mg "_law_pick" = some (.ref f2)) (k2 : PySem.W.keepIn K (.ref f2) = true) (b2 : L2.Binds K fd2 ["_law_pen_here", "_law_some"] []) : FnOk P w K mg base CX0 3 f fd ["_law_pen_here", "_law_letters_here", "_law_table"] (spOddT K) := by
  refine F.ok scOddT (fun vs H Q E h => ?_) (fun cdv A outer s H vs Q E hr h => ?_)
  · obtain ⟨c, p, n, z, a, tb, rfl, _⟩ := h
    rfl
  · obtain ⟨c, p, n, z, ta, tb, rfl, nb, pen, Z, ⟨tp, xs, hxs, rows⟩, Tb, k⟩ := h
    have nd := scOddT.nd
    have hr1 := hr.mono (show 1 ≤ 2 by decide)
    refine ⟨_, pss_cons (ps_set (i := 3) nd rfl (.inl rfl) (bLen (by rfl) T.len (pv 2)))
      (pss_cons (ps_par (i := 4) (j := 5) rfl nd rfl rfl (by decide) rfl rfl (pa_cons (pe_call GD hr1 (by rfl) m1 k1 b1 .nil pass0 (pa_cons (pv 0) (pa_cons (pv 3) pa_nil))) (pa_cons (pe_call GD hr1 (by rfl) m1 k1 b1 .nil pass0 (pa_cons (pv 0) (pa_cons (bLen (by rfl) T.len (pv 1)) pa_nil))) pa_nil)) rfl)
      (pss_cons (ps_set (i := 6) nd rfl (.inl rfl) (bIx (pv 2) (pv 4)))
      (pss_cons (ps_set (i := 7) nd rfl (.inl rfl) (pe_call GP hr (by rfl) m2 k2 b2 .nil pass0 (pa_cons (pv 0) (pa_cons (pe_lst (pa_cons (pv 3) (pa_cons (pe_un un_neg pe_int) (pa_cons pe_bl (pa_cons pe_bl (pa_cons pe_non (pa_cons pe_str (pa_cons (pe_tup (pa_cons pe_int pa_nil)) (pa_cons (pe_op op_pow pe_int pe_int) (pa_cons (pe_un un_neg (pe_op op_pow pe_int pe_int)) pa_nil)))))))))) pa_nil))))
      (pss_cons (ps_set (i := 8) nd rfl (.inl rfl) (pe_lst (pa_cons (pe_slice sl_list (pv 6) po_none (po_some (pe_un un_neg pe_int))) (pa_cons (pe_op op_cat (pv 6) (pe_lst (pa_cons pe_int pa_nil))) (pa_cons (pe_setAt (pv 6) (pv 5) (pv 7) (pv 6) (pv 5)) (pa_cons pe_non (pa_cons pe_int (pa_cons (pe_op op_mulS pe_str (bLen (by rfl) T.len (pv 1))) (pa_cons pe_dnewK (pa_cons pe_bl pa_nil))))))))))
      (pss_cons (ps_set (i := 8) nd rfl (.inl rfl) (pe_op op_cat (pv 8) (pe_op op_rep (pe_lst (pa_cons (pe_setAt (pv 6) (pv 5) (pv 7) (pv 6) (pv 5)) pa_nil)) pe_int)))
      (pss_cons (ps_set (i := 9) nd rfl (.inl rfl) (pe_call GP hr (by rfl) m2 k2 b2 .nil pass0 (pa_cons (pv 0) (pa_cons (pv 8) pa_nil))))
      (pss_cons (ps_set (i := 10) nd rfl (.inl rfl) (pe_op op_rep (pe_lst (pa_cons (pe_setAt (pv 2) (pv 4) (pv 9) (pv 2) (pv 4)) pa_nil)) pe_int))
      (pss_one (ps_ret (pe_call GP hr (by rfl) m2 k2 b2 .nil pass0 (pa_cons (pv 0) (pa_cons (pe_op op_cat (pv 10) (pe_lst (pa_cons (pe_lst pa_nil) (pa_cons (pe_tup pa_nil) (pa_cons pe_non (pa_cons pe_int (pa_cons pe_str (pa_cons pe_dnewK (pa_cons (pe_disp (pps_cons pe_int (pv 6) pps_nil) rfl rfl (by simp) (by decide)) (pa_cons pe_bl (pa_cons (pe_op op_mulS pe_str (pv 3)) (pa_cons (pe_op op_cat (pv 2) (pe_lst (pa_cons (pe_lst pa_nil) pa_nil))) pa_nil)))))))))))) pa_nil)))))))))))), ?_⟩
    have zf := Z.few
    have zp := Z.pos
    have tf := Tb.few
    have tpos := Tb.pos
    have hx := rows.1
    refine ⟨_, rfl, _, _, rfl, Sq.len (.inl hxs), ?_⟩
    refine ⟨_, rfl, _, rfl, c, p, _, n, rfl, by omega, by omega, by omega, pen, fun r1 H1 r10 r11 pen1 x1 => ?_⟩
    refine ⟨_, rfl, _, rfl, _, z.length, rfl, ⟨len_small (by omega), rfl⟩, c, p, _, n + 1, rfl, by omega, by omega, by omega, pen1, fun r2 H2 r20 r21 pen2 x2 => ?_⟩
    obtain ⟨kr, rfl⟩ : ∃ u : Nat, r1 = (u : Int) := ⟨r1.toNat, by omega⟩
    obtain ⟨ks, rfl⟩ : ∃ u : Nat, r2 = (u : Int) := ⟨r2.toNat, by omega⟩
    refine ⟨_, _, rfl, ?_⟩
    have x02 : Ext1 p H H2 := Ext1.trans x1 x2
    obtain ⟨ra, e1, rp, e2⟩ := rows.2 kr (by omega)
    obtain ⟨l1, l2⟩ := Tb.at_ (show kr < tb.length by omega)
    generalize tb.getD kr [] = row at e2 l1 l2
    refine ⟨_, rfl, _, rfl, ta, xs, (kr : Int), .ref ra, rfl, rfl, SqL.of (x02 _ _ tp hxs), atI_nat e1, ?_⟩
    refine ⟨_, rfl, _, rfl, _, rfl, by show 1 ≤ sizeLine; decide, fun q1 hq1 => ⟨_, _, rfl, rfl, ⟨by decide, by decide, by decide⟩, _, _, rfl, rfl, ⟨by decide, by decide, by decide⟩, _, rfl, by show 9 ≤ sizeLine; decide, fun L1 hL1 => ?_⟩⟩
    have q1p := pen2.ne1 hq1
    have s3 : Same H2 (upd H2 q1 (.tup [.int 0])) := Same.new hq1
    have e3 : upd H2 q1 (.tup [.int 0]) q1 = some (.tup [.int 0]) := upd_same
    generalize upd H2 q1 (.tup [.int 0]) = H3 at s3 e3 hL1 ⊢
    have pen3 := pen2.ext s3
    refine ⟨c, p, n + 2, by omega, pen3.new hL1, .inl ⟨L1, _, rfl, pen3.ne1 hL1, upd_same, by show 0 < 9; decide, by show 9 ≤ 1000; decide, fun o H5 ho pen5 x4 => ?_⟩⟩
    have x35 : Ext1 p H3 H5 := Ext1.trans (Ext1.new hL1) x4
    have x05 : Ext1 p H H5 := Ext1.trans x02 (Ext1.trans (Same.ext1 p s3) x35)
    have bo : BadI K p H5 ((tb.length : Int) - 1) o := by
      clear k
      simp only [List.mem_cons, List.not_mem_nil, or_false] at ho
      rcases ho with rfl | rfl | rfl | rfl | rfl | rfl | rfl | rfl | rfl
      · exact badI_int (fun _ => .int (by omega) (by omega) (by decide)) (.inr (by omega))
      · exact badI_int (fun _ => ⟨_, .int _, .of (by decide +kernel)⟩) (.inl (by decide))
      · exact badI_ty (i := true) (fun _ _ => .bl _) (fun _ _ => .base (.bl _)) (by decide +kernel) (fun _ => by decide +kernel)
      · exact badI_ty (i := true) (fun _ _ => .bl _) (fun _ _ => .base (.bl _)) (by decide +kernel) (fun _ => by decide +kernel)
      · exact badI_ty (i := false) (fun _ _ => .non) (fun _ _ => .base .non) (by decide +kernel) (fun z => nomatch z)
      · exact badI_ty (i := false) (fun _ _ => ⟨_, .str _, .of (by decide +kernel)⟩) (fun _ _ => .base (.str _)) (by decide +kernel) (fun z => nomatch z)
      · exact badI_ty (i := false) (fun H' e => Good.tup (h := 0) (w := 10) q1p (e _ _ q1p (x35 _ _ q1p e3)) (fun x hx => by rw [List.mem_singleton.mp hx]; exact .int (by decide) (by decide) (by decide)) (by show 1 * 11 ≤ 200; decide)) (fun H' e => .base (.tup (e _ _ q1p (x35 _ _ q1p e3)))) (by decide +kernel) (fun z => nomatch z)
      · exact badI_int (fun _ => ⟨_, .int _, .of (by decide +kernel)⟩) (.inr (Int.lt_trans (b := 1000) (by omega) (by decide +kernel)))
      · exact badI_int (fun _ => ⟨_, .int _, .of (by decide +kernel)⟩) (.inl (by decide +kernel))
    clear ho x35 e3
    have er : H5 ra = some (.lst (row.map V.int)) := x05 _ _ rp e2
    refine ⟨_, rfl, _, rfl, _, rfl, ra, _, rfl, SqL.of er, fun q2 hq2 => ?_⟩
    have q2p := pen5.ne1 hq2
    have rl : (row.map V.int).length = row.length := List.length_map _
    have s6 : Same H5 (upd H5 q2 (.lst (cutV (row.map V.int) none (some (-1))))) := Same.new hq2
    have e6 : upd H5 q2 (.lst (cutV (row.map V.int) none (some (-1)))) q2 = some (.lst ((row.map V.int).take (row.length - 1))) := by rw [upd_same, cut_last _ (by omega), rl]
    generalize upd H5 q2 (.lst (cutV (row.map V.int) none (some (-1)))) = H6 at s6 e6 ⊢
    have pen6 := pen5.ext s6
    refine ⟨_, rfl, by show 1 ≤ sizeLine; decide, fun q3 hq3 => ?_⟩
    have s7 : Same H6 (upd H6 q3 (.lst [.int 0])) := Same.new hq3
    have e7 : upd H6 q3 (.lst [.int 0]) q3 = some (.lst [.int 0]) := upd_same
    generalize upd H6 q3 (.lst [.int 0]) = H7 at s7 e7 ⊢
    have pen7 := pen6.ext s7
    refine ⟨ra, q3, _, _, rfl, rfl, s7 _ _ (s6 _ _ er), e7, by rw [sizeLine_eq, rl, List.length_singleton]; omega, fun q4 hq4 => ?_⟩
    have q4p := pen7.ne1 hq4
    have s8 : Same H7 (upd H7 q4 (.lst (row.map V.int ++ [.int 0]))) := Same.new hq4
    have e8 : upd H7 q4 (.lst (row.map V.int ++ [.int 0])) q4 = some (.lst (row.map V.int ++ [.int 0])) := upd_same
    generalize upd H7 q4 (.lst (row.map V.int ++ [.int 0])) = H8 at s8 e8 ⊢
    have pen8 := pen7.ext s8
    have s58 : Same H5 H8 := Same.trans s6 (Same.trans s7 s8)
    refine ⟨ra, _, ks, o, rfl, rfl, rfl, s58 _ _ er, by omega, by omega, fun q5 H9 s9 hq5 e9 => ?_⟩
    have q5p := pen8.ne1 hq5
    have pen9 := pen8.ext s9
    refine ⟨_, rfl, _, z.length, rfl, ⟨len_small (by omega), rfl⟩, _, _, rfl, rfl, by omega, by omega, by decide, by decide, ?_, fun d1 hd1 => ⟨by show 8 ≤ sizeLine; decide, fun L2 hL2 => ?_⟩⟩
    · have := (zerosAt zp (show z.length ≤ 8 by omega)).1
      show (rept "0" z.length).length ≤ sizeLine
      rw [sizeLine_eq]; omega
    have d1p := pen9.ne1 hd1
    have s10 : Same H9 (upd H9 d1 (.dK [])) := Same.new hd1
    have e10 : upd H9 d1 (.dK []) d1 = some (.dK []) := upd_same
    generalize upd H9 d1 (.dK []) = H10 at s10 e10 hL2 ⊢
    have pen10 := pen9.ext s10
    have L2p := pen10.ne1 hL2
    generalize hls : ([.ref q2, .ref q4, .ref q5, .non, .int 0, .str (rept "0" z.length), .ref d1, .bl true] : List V) = ls
    have hls' : (V.ref q2 :: V.ref q4 :: V.ref q5 :: V.non :: V.int 0 :: V.str (rept "0" ((z.length : Int)).toNat) :: V.ref d1 :: V.bl true :: []) = ls := hls
    rw [hls']
    have ll : ls.length = 8 := by rw [← hls]; rfl
    have s11 : Same H10 (upd H10 L2 (.lst ls)) := Same.new hL2
    have e11 : upd H10 L2 (.lst ls) L2 = some (.lst ls) := upd_same
    generalize upd H10 L2 (.lst ls) = H11 at s11 e11 ⊢
    have pen11 := pen10.ext s11
    have s511 : Same H5 H11 := Same.trans s58 (Same.trans s9 (Same.trans s10 s11))
    refine ⟨_, rfl, ra, _, ks, o, rfl, rfl, rfl, s511 _ _ er, by omega, by omega, fun q6 H12 s12 hq6 e12 => ⟨by show 1 ≤ sizeLine; decide, fun L3 hL3 => ⟨L3, 6, _, rfl, rfl, upd_same, by decide, by decide, by show 1 * 6 ≤ sizeLine; decide, fun L4 hL4 => ?_⟩⟩⟩
    have q6p := pen11.ne1 hq6
    have pen12 := pen11.ext s12
    have s14 : Same H12 (upd (upd H12 L3 (.lst [.ref q6])) L4 (.lst (List.replicate (6 : Int).toNat [.ref q6]).flatten)) := Same.trans (Same.new hL3) (Same.new hL4)
    have e14 : upd (upd H12 L3 (.lst [.ref q6])) L4 (.lst (List.replicate (6 : Int).toNat [.ref q6]).flatten) L4 = some (.lst (List.replicate (6 : Int).toNat [.ref q6]).flatten) := upd_same
    generalize upd (upd H12 L3 (.lst [.ref q6])) L4 (.lst (List.replicate (6 : Int).toNat [.ref q6]).flatten) = H14 at s14 e14 ⊢
    have pen14 := pen12.ext s14
    have lr6 : (List.replicate (6 : Int).toNat [V.ref q6]).flatten.length = 6 := len_rep 6 _
    refine ⟨L2, L4, _, _, rfl, rfl, s14 _ _ (s12 _ _ e11), e14, by rw [sizeLine_eq, ll, lr6]; decide, fun L5 hL5 => ?_⟩
    have s15 : Same H14 (upd H14 L5 (.lst (ls ++ (List.replicate (6 : Int).toNat [.ref q6]).flatten))) := Same.new hL5
    have e15 : upd H14 L5 (.lst (ls ++ (List.replicate (6 : Int).toNat [.ref q6]).flatten)) L5 = some (.lst (ls ++ (List.replicate (6 : Int).toNat [.ref q6]).flatten)) := upd_same
    have L5p := pen14.ne1 hL5
    generalize upd H14 L5 (.lst (ls ++ (List.replicate (6 : Int).toNat [.ref q6]).flatten)) = H15 at s15 e15 ⊢
    have pen15 := pen14.ext s15
    refine ⟨_, rfl, _, rfl, c, p, n + 3, by omega, pen15, .inl ⟨L5, _, rfl, L5p, e15, by rw [List.length_append, ll]; omega, by rw [List.length_append, ll, lr6]; decide, fun b H16 hb pen16 x15 => ?_⟩⟩
    have x1216 : Ext1 p H12 H16 := Ext1.trans (Same.ext1 p (Same.trans s14 s15)) x15
    have x1016 : Ext1 p H10 H16 := Ext1.trans (Same.ext1 p (Same.trans s11 s12)) x1216
    have x916 : Ext1 p H9 H16 := Ext1.trans (Same.ext1 p s10) x1016
    have x816 : Ext1 p H8 H16 := Ext1.trans (Same.ext1 p s9) x916
    have x616 : Ext1 p H6 H16 := Ext1.trans (Same.ext1 p (Same.trans s7 s8)) x816
    have x516 : Ext1 p H5 H16 := Ext1.trans (Same.ext1 p s6) x616
    have x016 : Ext1 p H H16 := Ext1.trans x05 x516
    have v1000 : ∀ x ∈ row, 0 ≤ x ∧ x < 1000 := fun x hx => by have := l2 x hx; omega
    have vlast : ∀ x ∈ row, 0 ≤ x ∧ x ≤ (tb.length : Int) - 1 := fun x hx => by have := l2 x hx; omega
    have setBad : ∀ q, q ≠ p → H16 q = some (.lst ((row.map V.int).set ks o)) → BadL K p H16 z.length ((tb.length : Int) - 1) (.ref q) := fun q qp eq H' e => by
      have x5 : Ext1 p H5 H' := Ext1.trans x516 e
      refine ⟨Good.lst (h := 1) (w := 200) qp (e _ _ qp eq) (good_set (good_ints (by decide) v1000) (bo H' x5).1) (by rw [List.length_set, rl]; omega), ?_⟩
      rw [← l1]
      exact ln_set (e _ _ qp eq) (by omega) (by omega) vlast fun H2 s => (bo H2 (Ext1.trans x5 (Same.ext1 p s))).2
    have bb : BadL K p H16 z.length ((tb.length : Int) - 1) b := by
      clear k
      rcases List.mem_append.mp hb with hb | hb
      · rw [← hls] at hb
        simp only [List.mem_cons, List.not_mem_nil, or_false] at hb
        rcases hb with rfl | rfl | rfl | rfl | rfl | rfl | rfl | rfl
        · refine fun H' e => ⟨Good.lst (h := 1) (w := 200) q2p (e _ _ q2p (x616 _ _ q2p e6)) (fun x hx => good_ints (by decide) v1000 x (List.mem_of_mem_take hx)) (by rw [List.length_take, rl]; omega), ln_len (.inl (e _ _ q2p (x616 _ _ q2p e6))) (by rw [List.length_take, rl]; omega) (by rw [List.length_take, rl]; omega)⟩
        · refine fun H' e => ⟨Good.lst (h := 1) (w := 190) q4p (e _ _ q4p (x816 _ _ q4p e8)) (fun x hx => ?_) (by rw [List.length_append, rl, List.length_singleton]; omega), ln_len (.inl (e _ _ q4p (x816 _ _ q4p e8))) (by rw [List.length_append, rl, List.length_singleton]; omega) (by rw [List.length_append, rl, List.length_singleton]; omega)⟩
          rcases List.mem_append.mp hx with hx | hx
          · exact good_ints (by decide) v1000 x hx
          · rw [List.mem_singleton.mp hx]; exact .int (by decide) (by decide) (by decide)
        · exact setBad q5 q5p (x916 _ _ q5p e9)
        · exact fun H' e => ⟨.non, .inl ⟨rfl, noSq_non⟩⟩
        · exact fun H' e => ⟨.int (by decide) (by decide) (by decide), .inl ⟨rfl, noSq_int _⟩⟩
        · exact fun H' e => ⟨.zeros zp (by omega) (by decide), .inl ⟨rfl, noSq_str _⟩⟩
        · exact fun H' e => ⟨Good.dK0 d1p (e _ _ d1p (x1016 _ _ d1p e10)), .inl ⟨rfl, noSq_dK (e _ _ d1p (x1016 _ _ d1p e10))⟩⟩
        · exact fun H' e => ⟨.bl _, .inl ⟨rfl, noSq_bl _⟩⟩
      · rw [mem_rep hb]
        exact setBad q6 q6p (x1216 _ _ q6p e12)
    have ext16 : Ext1 p H16 H16 := Ext1.refl p H16
    clear setBad hb x15 x1216 x1016 x916 x816 x616 s15 e15 s14 e14 s12 e12 s11 e11 s10 e10 s9 e9 s8 e8 s7 e7 s6 e6 bo
    have htb : H16 ta = some (.lst xs) := x016 _ _ tp hxs
    refine ⟨ta, xs, kr, b, rfl, rfl, rfl, htb, by omega, by omega, fun q7 H17 s17 hq7 e17 => ⟨by show 1 ≤ sizeLine; decide, fun L6 hL6 => ⟨L6, 8, _, rfl, rfl, upd_same, by decide, by decide, by show 1 * 8 ≤ sizeLine; decide, fun L7 hL7 => ?_⟩⟩⟩
    have q7p := pen16.ne1 hq7
    have pen17 := pen16.ext s17
    have s18 : Same H17 (upd (upd H17 L6 (.lst [.ref q7])) L7 (.lst (List.replicate (8 : Int).toNat [.ref q7]).flatten)) := Same.trans (Same.new hL6) (Same.new hL7)
    have e18 : upd (upd H17 L6 (.lst [.ref q7])) L7 (.lst (List.replicate (8 : Int).toNat [.ref q7]).flatten) L7 = some (.lst (List.replicate (8 : Int).toNat [.ref q7]).flatten) := upd_same
    generalize upd (upd H17 L6 (.lst [.ref q7])) L7 (.lst (List.replicate (8 : Int).toNat [.ref q7]).flatten) = H18 at s18 e18 ⊢
    have pen18 := pen17.ext s18
    have lr8 : (List.replicate (8 : Int).toNat [V.ref q7]).flatten.length = 8 := len_rep 8 _
    refine ⟨_, rfl, _, rfl, by show 0 ≤ sizeLine; decide, fun q8 hq8 => ⟨by show 0 ≤ sizeLine; decide, fun q9 hq9 => fun d2 hd2 => fun d3 hd3 => ?_⟩⟩
    have q8p := pen18.ne1 hq8
    have s19 : Same H18 (upd H18 q8 (.lst [])) := Same.new hq8
    have e19 : upd H18 q8 (.lst []) q8 = some (.lst []) := upd_same
    generalize upd H18 q8 (.lst []) = H19 at s19 e19 hq9 hd2 hd3 ⊢
    have pen19 := pen18.ext s19
    have q9p := pen19.ne1 hq9
    have s20 : Same H19 (upd H19 q9 (.tup [])) := Same.new hq9
    have e20 : upd H19 q9 (.tup []) q9 = some (.tup []) := upd_same
    generalize upd H19 q9 (.tup []) = H20 at s20 e20 hd2 hd3 ⊢
    have pen20 := pen19.ext s20
    have d2p := pen20.ne1 hd2
    have s21 : Same H20 (upd H20 d2 (.dK [])) := Same.new hd2
    have e21 : upd H20 d2 (.dK []) d2 = some (.dK []) := upd_same
    generalize upd H20 d2 (.dK []) = H21 at s21 e21 hd3 ⊢
    have pen21 := pen20.ext s21
    have d3p := pen21.ne1 hd3
    refine ⟨_, rfl, upd_same, [(.inl 0, .ref ra)], rfl, by show 1 ≤ 15; decide, ?_⟩
    have s22 : Same H21 (upd (upd H21 d3 (.dK [])) d3 (.dK (mergeK [] [(.inl 0, .ref ra)]))) := by rw [upd_upd]; exact Same.new hd3
    have e22 : upd (upd H21 d3 (.dK [])) d3 (.dK (mergeK [] [(.inl 0, .ref ra)])) d3 = some (.dK [(.inl 0, .ref ra)]) := upd_same
    generalize upd (upd H21 d3 (.dK [])) d3 (.dK (mergeK [] [(.inl 0, .ref ra)])) = H22 at s22 e22 ⊢
    have pen22 := pen21.ext s22
    refine ⟨_, rfl, _, _, rfl, rfl, by omega, by omega, by decide, by decide, ?_, ?_⟩
    · have := (zerosAt tpos tf).1
      show (rept "0" xs.length).length ≤ sizeLine
      rw [hx, sizeLine_eq]; omega
    refine ⟨_, rfl, by show 0 ≤ sizeLine; decide, fun q10 hq10 => ⟨by show 1 ≤ sizeLine; decide, fun q11 hq11 => ?_⟩⟩
    have q10p := pen22.ne1 hq10
    have s23 : Same H22 (upd H22 q10 (.lst [])) := Same.new hq10
    have e23 : upd H22 q10 (.lst []) q10 = some (.lst []) := upd_same
    generalize upd H22 q10 (.lst []) = H23 at s23 e23 hq11 ⊢
    have pen23 := pen22.ext s23
    have s24 : Same H23 (upd H23 q11 (.lst [.ref q10])) := Same.new hq11
    have e24 : upd H23 q11 (.lst [.ref q10]) q11 = some (.lst [.ref q10]) := upd_same
    generalize upd H23 q11 (.lst [.ref q10]) = H24 at s24 e24 ⊢
    have pen24 := pen23.ext s24
    have s1824 : Same H18 H24 := Same.trans s19 (Same.trans s20 (Same.trans s21 (Same.trans s22 (Same.trans s23 s24))))
    refine ⟨ta, q11, _, _, rfl, rfl, s1824 _ _ (s18 _ _ (s17 _ _ htb)), e24, by rw [sizeLine_eq, List.length_singleton]; omega, fun q12 hq12 => ⟨by show 10 ≤ sizeLine; decide, fun L8 hL8 => ?_⟩⟩
    have q12p := pen24.ne1 hq12
    have s25 : Same H24 (upd H24 q12 (.lst (xs ++ [.ref q10]))) := Same.new hq12
    have e25 : upd H24 q12 (.lst (xs ++ [.ref q10])) q12 = some (.lst (xs ++ [.ref q10])) := upd_same
    generalize upd H24 q12 (.lst (xs ++ [.ref q10])) = H25 at s25 e25 hL8 ⊢
    have pen25 := pen24.ext s25
    generalize hms : ([.ref q8, .ref q9, .non, .int 0, .str "", .ref d2, .ref d3, .bl true, .str (rept "0" xs.length), .ref q12] : List V) = ms
    have hms' : (V.ref q8 :: V.ref q9 :: V.non :: V.int 0 :: V.str "" :: V.ref d2 :: V.ref d3 :: V.bl true :: V.str (rept "0" ((xs.length : Int)).toNat) :: V.ref q12 :: []) = ms := hms
    rw [hms']
    have lm : ms.length = 10 := by rw [← hms]; rfl
    have s26 : Same H25 (upd H25 L8 (.lst ms)) := Same.new hL8
    have e26 : upd H25 L8 (.lst ms) L8 = some (.lst ms) := upd_same
    generalize upd H25 L8 (.lst ms) = H26 at s26 e26 ⊢
    have pen26 := pen25.ext s26
    refine ⟨L7, L8, _, _, rfl, rfl, s26 _ _ (s25 _ _ (s1824 _ _ e18)), e26, by rw [sizeLine_eq, lm, lr8]; decide, fun L9 hL9 => ?_⟩
    refine ⟨c, p, n + 4, by omega, pen26.new hL9, .inl ⟨L9, _, rfl, pen26.ne1 hL9, upd_same, by rw [List.length_append, lm]; omega, by rw [List.length_append, lm, lr8]; decide, fun v H27 hv pen27 x26 => ?_⟩⟩
    have x2627 : Ext1 p H26 H27 := Ext1.trans (Ext1.new hL9) x26
    have x2527 : Ext1 p H25 H27 := Ext1.trans (Same.ext1 p s26) x2627
    have x2327 : Ext1 p H23 H27 := Ext1.trans (Same.ext1 p (Same.trans s24 s25)) x2527
    have x2227 : Ext1 p H22 H27 := Ext1.trans (Same.ext1 p s23) x2327
    have x2127 : Ext1 p H21 H27 := Ext1.trans (Same.ext1 p s22) x2227
    have x2027 : Ext1 p H20 H27 := Ext1.trans (Same.ext1 p s21) x2127
    have x1927 : Ext1 p H19 H27 := Ext1.trans (Same.ext1 p s20) x2027
    have x1727 : Ext1 p H17 H27 := Ext1.trans (Same.ext1 p (Same.trans s18 s19)) x1927
    have x1627 : Ext1 p H16 H27 := Ext1.trans (Same.ext1 p s17) x1727
    have x027 : Ext1 p H H27 := Ext1.trans x016 x1627
    refine k v H27 ?_ ⟨x027, pen27⟩
    have gr : ∀ H', Ext1 p H27 H' → ∀ x ∈ xs, Good p 2 1000 H' x := fun H' e => good_rows rows Tb Z (Ext1.trans x027 e)
    have ro : ∀ H', Ext1 p H27 H' → RowsAt H' z tb xs := fun H' e => rowsAt_of rows Tb (Ext1.trans x027 e)
    clear k
    rcases List.mem_append.mp hv with hv | hv
    · rw [mem_rep hv]
      refine fun H' e => ⟨Good.lst (h := 2) (w := 1000) q7p (e _ _ q7p (x1727 _ _ q7p e17)) (good_set (gr H' e) (bb H' (Ext1.trans x1627 e)).1) (by rw [List.length_set]; omega), ?_⟩
      exact stp_set (ro H' e) Z (by omega) (e _ _ q7p (x1727 _ _ q7p e17)) (by omega) fun H2 s => (bb H2 (Ext1.trans x1627 (Ext1.trans e (Same.ext1 p s)))).2
    · rw [← hms] at hv
      simp only [List.mem_cons, List.not_mem_nil, or_false] at hv
      rcases hv with rfl | rfl | rfl | rfl | rfl | rfl | rfl | rfl | rfl | rfl
      · exact fun H' e => ⟨Good.lst (h := 2) (w := 1000) (xs := []) q8p (e _ _ q8p (x1927 _ _ q8p e19)) (fun x hx => absurd hx List.not_mem_nil) (by decide), .inr ⟨q8, [], rfl, .inl (e _ _ q8p (x1927 _ _ q8p e19)), by decide, .inl ⟨rfl, rfl⟩⟩⟩
      · exact fun H' e => ⟨Good.tup (h := 2) (w := 1000) (xs := []) q9p (e _ _ q9p (x2027 _ _ q9p e20)) (fun x hx => absurd hx List.not_mem_nil) (by decide), .inr ⟨q9, [], rfl, .inr (e _ _ q9p (x2027 _ _ q9p e20)), by decide, .inl ⟨rfl, rfl⟩⟩⟩
      · exact fun H' e => ⟨.non, .inl ⟨rfl, noSq_non⟩⟩
      · exact fun H' e => ⟨.int (by decide) (by decide) (by decide), .inl ⟨rfl, noSq_int _⟩⟩
      · exact fun H' e => ⟨⟨_, .str _, .of (by decide +kernel)⟩, .inl ⟨rfl, noSq_str _⟩⟩
      · exact fun H' e => ⟨Good.dK0 d2p (e _ _ d2p (x2127 _ _ d2p e21)), .inl ⟨rfl, noSq_dK (e _ _ d2p (x2127 _ _ d2p e21))⟩⟩
      · refine fun H' e => ⟨(Good.dK1 d3p (e _ _ d3p (x2227 _ _ d3p e22)) (by decide) (by decide) (Good.lst (h := 1) (w := 100) (W := 1000) rp (e _ _ rp (x027 _ _ rp e2)) (good_ints (by decide) v1000) (by rw [rl]; omega))).mono (by decide) (by decide), .inl ⟨rfl, noSq_dK (e _ _ d3p (x2227 _ _ d3p e22))⟩⟩
      · exact fun H' e => ⟨.bl _, .inl ⟨rfl, noSq_bl _⟩⟩
      · exact fun H' e => ⟨.zeros (by omega) (by omega) (by decide), .inl ⟨rfl, noSq_str _⟩⟩
      · refine fun H' e => ⟨Good.lst (h := 2) (w := 1000) q12p (e _ _ q12p (x2527 _ _ q12p e25)) (fun x hx => ?_) (by rw [List.length_append, List.length_singleton]; omega), stp_more (ro H' e) Z (by omega) (e _ _ q12p (x2527 _ _ q12p e25)) (e _ _ q10p (x2327 _ _ q10p e23))⟩
        rcases List.mem_append.mp hx with hx | hx
        · exact gr H' e x hx
        · rw [List.mem_singleton.mp hx]
          exact Good.lst (h := 1) (w := 100) (xs := []) q10p (e _ _ q10p (x2327 _ _ q10p e23)) (fun x hx => absurd hx List.not_mem_nil) (by decide)
end
end Kx
set_option Elab.async false
set_option maxRecDepth 100000
set_option autoImplicit false
namespace Kx
open PySem L2 PySem.Spec PyProof.Rows Rg Er
abbrev sOddM : Stmt := top 52
def BadB (K : PySem.W.Frag) (p : Addr) (H : Hp) (v : V) : Prop := ∀ H', Ext1 p H H' → Good p 1 200 H' v ∧ Bo K H' v false
def BadM (K : PySem.W.Frag) (p : Addr) (H : Hp) (m : Nat) (v : V) : Prop := ∀ H', Ext1 p H H' → Good p 3 10000 H' v ∧ Ln K (Bo K) H' m v false
theorem bo_ty {K : PySem.W.Frag} {H : Hp} {v : V} {b : String} (t : TyX K H v (.type b)) (h1 : kitB b "bool" = some false) : Bo K H v false := ⟨_, t, kit_ty h1⟩
theorem good_bools {p : Addr} {h w : Nat} {H : Hp} {mk : List Bool} : ∀ x ∈ mk.map V.bl, Good p h w H x := fun x hx => by
  obtain ⟨i, _, rfl⟩ := List.mem_map.mp hx
  exact .bl i
theorem lnb_set {K : PySem.W.Frag} {H : Hp} {a : Addr} {mk : List Bool} {k : Nat} {o : V} (e : H a = some (.lst ((mk.map V.bl).set k o))) (hk : k < mk.length) (few : mk.length ≤ 1000) (no : ∀ H', Same H H' → Bo K H' o false) : Ln K (Bo K) H mk.length (.ref a) false := by
  refine .inr ⟨a, _, rfl, .inl e, by rw [List.length_set, List.length_map]; exact few, .inr ⟨by rw [List.length_set, List.length_map], (List.replicate mk.length true).set k false, by rw [List.length_set, List.length_replicate], (allSet hk).symm, fun i y hy H' s => ?_⟩⟩
  have hi : i < mk.length := by simpa using (List.getElem?_eq_some_iff.mp hy).1
  rw [getSet hi]
  rw [List.getElem?_set] at hy
  by_cases q : k = i
  · subst q
    rw [if_pos rfl, if_pos (by simpa using hk)] at hy
    cases hy
    rw [decide_eq_true rfl]
    exact no H' s
  · rw [if_neg q, List.getElem?_map, List.getElem?_eq_getElem hi] at hy
    cases hy
    rw [decide_eq_false (Ne.symm q)]
    exact ⟨_, .base (.bl _), kit_ty (by decide +kernel)⟩
def spOddM (K : PySem.W.Frag) : Sp := fun vs H Q _ => ∃ (c p : Addr) (n : Nat) (a : Addr) (mk : List Bool), vs = [.ref p, .ref a] ∧ n ≤ 900000 ∧ PenAt c n H p ∧ a ≠ p ∧ H a = some (.lst (mk.map V.bl)) ∧ 0 < mk.length ∧ mk.length ≤ 8 ∧ ∀ v H', BadM K p H' mk.length v → Ink c p (n + 3) H H' → Q v H'
section
variable {P : Program} {w : World} {K : PySem.W.Frag} {mg : Str → Option Value} {base : Heap}
abbrev nOddM : List Str := ["_law_pen_here", "_law_marks", "_law_at", "_law_odd", "_law_some"]
theorem scOddM : FnScope nOddM ["_law_pen_here", "_law_marks"] (defScope sOddM) := ⟨rfl, rfl, rfl, by decide +kernel, rfl, by decide +kernel, by decide +kernel⟩
set_option maxHeartbeats 0 in
theorem ok_oddM {f f1 f2 : Addr} {fd fd1 fd2 : FuncData} (F : L2.Fun K "_law_odd_marks" "_law_odd_marks" sOddM f fd) (T : Txt mg) (GD : FnOk P w K mg base CX0 1 f1 fd1 ["_law_pen_here", "_law_many"] spDraw) (m1 : mg "_law_draw" = some (.ref f1)) (k1 : PySem.W.keepIn K (.ref f1) = true) (b1 : L2.Binds K fd1 ["_law_pen_here", "_law_many"] [])
    (GP : FnOk P w K mg base CX0 2 f2 fd2 ["_law_pen_here", "_law_some"] spPick) (m2 : mg "_law_pick" = some (.ref f2)) (k2 : PySem.W.keepIn K (.ref f2) = true) (b2 : L2.Binds K fd2 ["_law_pen_here", "_law_some"] []) : FnOk P w K mg base CX0 3 f fd ["_law_pen_here", "_law_marks"] (spOddM K) := by
  refine F.ok scOddM (fun vs H Q E h => ?_) (fun cdv A outer s H vs Q E hr h => ?_)
  · obtain ⟨c, p, n, a, mk, rfl, _⟩ := h
    rfl
  · obtain ⟨c, p, n, a, mk, rfl, nb, pen, ap, ha, mpos, mfew, k⟩ := h
    have nd := scOddM.nd
    have hr1 := hr.mono (show 1 ≤ 2 by decide)
    refine ⟨_, pss_cons (ps_set (i := 2) nd rfl (.inl rfl) (pe_call GD hr1 (by rfl) m1 k1 b1 .nil pass0 (pa_cons (pv 0) (pa_cons (bLen (by rfl) T.len (pv 1)) pa_nil))))
      (pss_cons (ps_set (i := 3) nd rfl (.inl rfl) (pe_call GP hr (by rfl) m2 k2 b2 .nil pass0 (pa_cons (pv 0) (pa_cons (pe_lst (pa_cons pe_int (pa_cons pe_int (pa_cons pe_non (pa_cons pe_str (pa_cons (pe_tup (pa_cons pe_bl pa_nil)) (pa_cons (pe_lst pa_nil) pa_nil))))))) pa_nil))))
      (pss_cons (ps_set (i := 4) nd rfl (.inl rfl) (pe_op op_rep (pe_lst (pa_cons (pe_setAt (pv 1) (pv 2) (pv 3) (pv 1) (pv 2)) pa_nil)) pe_int))
      (pss_one (ps_ret (pe_call GP hr (by rfl) m2 k2 b2 .nil pass0 (pa_cons (pv 0) (pa_cons (pe_op op_cat (pv 4) (pe_lst (pa_cons (pe_op op_cat (pv 1) (pe_lst (pa_cons pe_bl pa_nil))) (pa_cons (pe_slice sl_list (pv 1) (po_some pe_int) po_none) (pa_cons pe_non (pa_cons pe_bl (pa_cons pe_dnewK (pa_cons pe_str (pa_cons pe_int
        (pa_cons (pe_op op_catT (bTup (by rfl) T.tuple (pv 1)) (pe_tup (pa_cons pe_bl pa_nil))) pa_nil)))))))))) pa_nil))))))), ?_⟩
    have rl : (mk.map V.bl).length = mk.length := List.length_map _
    refine ⟨_, rfl, _, rfl, _, _, rfl, Sq.len (.inl ha), c, p, _, n, rfl, by omega, by omega, by omega, pen, fun r1 H1 r10 r11 pen1 x1 => ?_⟩
    obtain ⟨ks, rfl⟩ : ∃ u : Nat, r1 = (u : Int) := ⟨r1.toNat, by omega⟩
    refine ⟨_, rfl, by show 1 ≤ sizeLine; decide, fun q1 hq1 => ⟨by show 0 ≤ sizeLine; decide, fun q2 hq2 => ⟨by show 6 ≤ sizeLine; decide, fun L1 hL1 => ?_⟩⟩⟩
    have q1p := pen1.ne1 hq1
    have s2 : Same H1 (upd H1 q1 (.tup [.bl true])) := Same.new hq1
    have e2 : upd H1 q1 (.tup [.bl true]) q1 = some (.tup [.bl true]) := upd_same
    generalize upd H1 q1 (.tup [.bl true]) = H2 at s2 e2 hq2 hL1 ⊢
    have pen2 := pen1.ext s2
    have q2p := pen2.ne1 hq2
    have s3 : Same H2 (upd H2 q2 (.lst [])) := Same.new hq2
    have e3 : upd H2 q2 (.lst []) q2 = some (.lst []) := upd_same
    generalize upd H2 q2 (.lst []) = H3 at s3 e3 hL1 ⊢
    have pen3 := pen2.ext s3
    refine ⟨c, p, n + 1, by omega, pen3.new hL1, .inl ⟨L1, _, rfl, pen3.ne1 hL1, upd_same, by show 0 < 6; decide, by show 6 ≤ 1000; decide, fun o H5 ho pen5 x4 => ?_⟩⟩
    have x35 : Ext1 p H3 H5 := Ext1.trans (Ext1.new hL1) x4
    have x25 : Ext1 p H2 H5 := Ext1.trans (Same.ext1 p s3) x35
    have x05 : Ext1 p H H5 := Ext1.trans x1 (Ext1.trans (Same.ext1 p s2) x25)
    have bo : BadB K p H5 o := by
      clear k
      simp only [List.mem_cons, List.not_mem_nil, or_false] at ho
      rcases ho with rfl | rfl | rfl | rfl | rfl | rfl
      · exact fun H' e => ⟨.int (by decide) (by decide) (by decide), bo_ty (.base (.int _)) (by decide +kernel)⟩
      · exact fun H' e => ⟨.int (by decide) (by decide) (by decide), bo_ty (.base (.int _)) (by decide +kernel)⟩
      · exact fun H' e => ⟨.non, bo_ty (.base .non) (by decide +kernel)⟩
      · exact fun H' e => ⟨⟨_, .str _, .of (by decide +kernel)⟩, bo_ty (.base (.str _)) (by decide +kernel)⟩
      · exact fun H' e => ⟨Good.tup (h := 0) (w := 10) q1p (e _ _ q1p (x25 _ _ q1p e2)) (fun x hx => by rw [List.mem_singleton.mp hx]; exact .bl _) (by show 1 * 11 ≤ 200; decide), bo_ty (.base (.tup (e _ _ q1p (x25 _ _ q1p e2)))) (by decide +kernel)⟩
      · exact fun H' e => ⟨Good.lst (h := 0) (w := 10) (xs := []) q2p (e _ _ q2p (x35 _ _ q2p e3)) (fun x hx => absurd hx List.not_mem_nil) (by decide), bo_ty (.base (.lst (e _ _ q2p (x35 _ _ q2p e3)))) (by decide +kernel)⟩
    clear ho x35 x25 e3 e2
    have h5 : H5 a = some (.lst (mk.map V.bl)) := x05 _ _ ap ha
    refine ⟨a, _, ks, o, rfl, rfl, rfl, h5, by omega, by omega, fun q6 H6 s6 hq6 e6 => ⟨by show 1 ≤ sizeLine; decide, fun L3 hL3 => ⟨L3, 5, _, rfl, rfl, upd_same, by decide, by decide, by show 1 * 5 ≤ sizeLine; decide, fun L4 hL4 => ?_⟩⟩⟩
    have q6p := pen5.ne1 hq6
    have pen6 := pen5.ext s6
    have s8 : Same H6 (upd (upd H6 L3 (.lst [.ref q6])) L4 (.lst (List.replicate (5 : Int).toNat [.ref q6]).flatten)) := Same.trans (Same.new hL3) (Same.new hL4)
    have e8 : upd (upd H6 L3 (.lst [.ref q6])) L4 (.lst (List.replicate (5 : Int).toNat [.ref q6]).flatten) L4 = some (.lst (List.replicate (5 : Int).toNat [.ref q6]).flatten) := upd_same
    generalize upd (upd H6 L3 (.lst [.ref q6])) L4 (.lst (List.replicate (5 : Int).toNat [.ref q6]).flatten) = H8 at s8 e8 ⊢
    have pen8 := pen6.ext s8
    have lr5 : (List.replicate (5 : Int).toNat [V.ref q6]).flatten.length = 5 := len_rep 5 _
    refine ⟨_, rfl, _, rfl, _, rfl, by show 1 ≤ sizeLine; decide, fun q7 hq7 => ?_⟩
    have s9 : Same H8 (upd H8 q7 (.lst [.bl true])) := Same.new hq7
    have e9 : upd H8 q7 (.lst [.bl true]) q7 = some (.lst [.bl true]) := upd_same
    generalize upd H8 q7 (.lst [.bl true]) = H9 at s9 e9 ⊢
    have pen9 := pen8.ext s9
    have s59 : Same H5 H9 := Same.trans s6 (Same.trans s8 s9)
    refine ⟨a, q7, _, _, rfl, rfl, s59 _ _ h5, e9, by rw [sizeLine_eq, rl, List.length_singleton]; omega, fun q8 hq8 => ?_⟩
    have q8p := pen9.ne1 hq8
    have s10 : Same H9 (upd H9 q8 (.lst (mk.map V.bl ++ [.bl true]))) := Same.new hq8
    have e10 : upd H9 q8 (.lst (mk.map V.bl ++ [.bl true])) q8 = some (.lst (mk.map V.bl ++ [.bl true])) := upd_same
    generalize upd H9 q8 (.lst (mk.map V.bl ++ [.bl true])) = H10 at s10 e10 ⊢
    have pen10 := pen9.ext s10
    refine ⟨_, rfl, _, rfl, a, _, rfl, SqL.of (s10 _ _ (s59 _ _ h5)), fun q9 hq9 => fun d1 hd1 => ?_⟩
    have q9p := pen10.ne1 hq9
    have s11 : Same H10 (upd H10 q9 (.lst (cutV (mk.map V.bl) (some 1) none))) := Same.new hq9
    have e11 : upd H10 q9 (.lst (cutV (mk.map V.bl) (some 1) none)) q9 = some (.lst ((mk.map V.bl).drop 1)) := by rw [upd_same]; exact congrArg (fun l => some (HO.lst l)) (cut_from (mk.map V.bl) 1)
    generalize upd H10 q9 (.lst (cutV (mk.map V.bl) (some 1) none)) = H11 at s11 e11 hd1 ⊢
    have pen11 := pen10.ext s11
    have d1p := pen11.ne1 hd1
    have s12 : Same H11 (upd H11 d1 (.dK [])) := Same.new hd1
    have e12 : upd H11 d1 (.dK []) d1 = some (.dK []) := upd_same
    generalize upd H11 d1 (.dK []) = H12 at s12 e12 ⊢
    have pen12 := pen11.ext s12
    have s512 : Same H5 H12 := Same.trans s59 (Same.trans s10 (Same.trans s11 s12))
    refine ⟨_, rfl, a, _, rfl, .inl ⟨SqL.of (s512 _ _ h5), fun q10 hq10 => ?_⟩⟩
    have s13 : Same H12 (upd H12 q10 (.tup (mk.map V.bl))) := Same.new hq10
    have e13 : upd H12 q10 (.tup (mk.map V.bl)) q10 = some (.tup (mk.map V.bl)) := upd_same
    generalize upd H12 q10 (.tup (mk.map V.bl)) = H13 at s13 e13 ⊢
    have pen13 := pen12.ext s13
    refine ⟨by show 1 ≤ sizeLine; decide, fun q11 hq11 => ?_⟩
    have s14 : Same H13 (upd H13 q11 (.tup [.bl false])) := Same.new hq11
    have e14 : upd H13 q11 (.tup [.bl false]) q11 = some (.tup [.bl false]) := upd_same
    generalize upd H13 q11 (.tup [.bl false]) = H14 at s14 e14 ⊢
    have pen14 := pen13.ext s14
    refine ⟨q10, q11, _, _, rfl, rfl, SqT.of (s14 _ _ e13), SqT.of e14, (by intro z; rw [z] at rl; simp at rl; omega), by rw [sizeLine_eq, rl, List.length_singleton]; omega, fun z => absurd z (by simp), fun _ q12 hq12 => ⟨by show 8 ≤ sizeLine; decide, fun L8 hL8 => ?_⟩⟩
    have q12p := pen14.ne1 hq12
    have s15 : Same H14 (upd H14 q12 (.tup (mk.map V.bl ++ [.bl false]))) := Same.new hq12
    have e15 : upd H14 q12 (.tup (mk.map V.bl ++ [.bl false])) q12 = some (.tup (mk.map V.bl ++ [.bl false])) := upd_same
    generalize upd H14 q12 (.tup (mk.map V.bl ++ [.bl false])) = H15 at s15 e15 hL8 ⊢
    have pen15 := pen14.ext s15
    generalize hms : ([.ref q8, .ref q9, .non, .bl true, .ref d1, .str "told", .int 0, .ref q12] : List V) = ms
    have lm : ms.length = 8 := by rw [← hms]; rfl
    have s16 : Same H15 (upd H15 L8 (.lst ms)) := Same.new hL8
    have e16 : upd H15 L8 (.lst ms) L8 = some (.lst ms) := upd_same
    generalize upd H15 L8 (.lst ms) = H16 at s16 e16 ⊢
    have pen16 := pen15.ext s16
    have s816 : Same H8 H16 := Same.trans s9 (Same.trans s10 (Same.trans s11 (Same.trans s12 (Same.trans s13 (Same.trans s14 (Same.trans s15 s16))))))
    refine ⟨L4, L8, _, _, rfl, rfl, s816 _ _ e8, e16, by rw [sizeLine_eq, lm, lr5]; decide, fun L9 hL9 => ?_⟩
    refine ⟨c, p, n + 2, by omega, pen16.new hL9, .inl ⟨L9, _, rfl, pen16.ne1 hL9, upd_same, by rw [List.length_append, lm]; omega, by rw [List.length_append, lm, lr5]; decide, fun v H27 hv pen27 x26 => ?_⟩⟩
    have x1627 : Ext1 p H16 H27 := Ext1.trans (Ext1.new hL9) x26
    have x1527 : Ext1 p H15 H27 := Ext1.trans (Same.ext1 p s16) x1627
    have x1227 : Ext1 p H12 H27 := Ext1.trans (Same.ext1 p (Same.trans s13 (Same.trans s14 s15))) x1527
    have x1127 : Ext1 p H11 H27 := Ext1.trans (Same.ext1 p s12) x1227
    have x1027 : Ext1 p H10 H27 := Ext1.trans (Same.ext1 p s11) x1127
    have x627 : Ext1 p H6 H27 := Ext1.trans (Same.ext1 p (Same.trans s8 (Same.trans s9 s10))) x1027
    have x527 : Ext1 p H5 H27 := Ext1.trans (Same.ext1 p s6) x627
    refine k v H27 ?_ ⟨Ext1.trans x05 x527, pen27⟩
    clear k
    rcases List.mem_append.mp hv with hv | hv
    · rw [mem_rep hv]
      refine fun H' e => ⟨Good.lst (h := 2) (w := 200) q6p (e _ _ q6p (x627 _ _ q6p e6)) (good_set good_bools ((bo H' (Ext1.trans x527 e)).1.mono (by decide) (by decide))) (by rw [List.length_set, rl]; omega), ?_⟩
      exact lnb_set (e _ _ q6p (x627 _ _ q6p e6)) (by omega) (by omega) fun H2 s => (bo H2 (Ext1.trans x527 (Ext1.trans e (Same.ext1 p s)))).2
    · rw [← hms] at hv
      simp only [List.mem_cons, List.not_mem_nil, or_false] at hv
      rcases hv with rfl | rfl | rfl | rfl | rfl | rfl | rfl | rfl
      · refine fun H' e => ⟨Good.lst (h := 2) (w := 200) q8p (e _ _ q8p (x1027 _ _ q8p e10)) (fun x hx => ?_) (by rw [List.length_append, rl, List.length_singleton]; omega), ln_len (.inl (e _ _ q8p (x1027 _ _ q8p e10))) (by rw [List.length_append, rl, List.length_singleton]; omega) (by rw [List.length_append, rl, List.length_singleton]; omega)⟩
        rcases List.mem_append.mp hx with hx | hx
        · exact good_bools x hx
        · rw [List.mem_singleton.mp hx]; exact .bl _
      · exact fun H' e => ⟨Good.lst (h := 2) (w := 200) q9p (e _ _ q9p (x1127 _ _ q9p e11)) (fun x hx => good_bools x (List.mem_of_mem_drop hx)) (by rw [List.length_drop, rl]; omega), ln_len (.inl (e _ _ q9p (x1127 _ _ q9p e11))) (by rw [List.length_drop, rl]; omega) (by rw [List.length_drop, rl]; omega)⟩
      · exact fun H' e => ⟨.non, .inl ⟨rfl, noSq_non⟩⟩
      · exact fun H' e => ⟨.bl _, .inl ⟨rfl, noSq_bl _⟩⟩
      · exact fun H' e => ⟨Good.dK0 d1p (e _ _ d1p (x1227 _ _ d1p e12)), .inl ⟨rfl, noSq_dK (e _ _ d1p (x1227 _ _ d1p e12))⟩⟩
      · exact fun H' e => ⟨⟨_, .str _, .of (by decide +kernel)⟩, .inl ⟨rfl, noSq_str _⟩⟩
      · exact fun H' e => ⟨.int (by decide) (by decide) (by decide), .inl ⟨rfl, noSq_int _⟩⟩
      · refine fun H' e => ⟨Good.tup (h := 2) (w := 200) q12p (e _ _ q12p (x1527 _ _ q12p e15)) (fun x hx => ?_) (by rw [List.length_append, rl, List.length_singleton]; omega), ln_len (.inr (e _ _ q12p (x1527 _ _ q12p e15))) (by rw [List.length_append, rl, List.length_singleton]; omega) (by rw [List.length_append, rl, List.length_singleton]; omega)⟩
        rcases List.mem_append.mp hx with hx | hx
        · exact good_bools x hx
        · rw [List.mem_singleton.mp hx]; exact .bl _
end
end Kx
set_option Elab.async false
set_option maxRecDepth 100000
set_option autoImplicit false
namespace Kx
open PySem L2 PySem.Spec PyProof.Rows Rg Er
def spLaw (K : PySem.W.Frag) : Sp := fun vs H Q _ => ∃ (a : Addr) (ns : List Int), vs = [.ref a] ∧ SqL K H a (ns.map V.int) ∧ ns.length ≤ 63 ∧ ∀ H', Q (.bl true) H'
def due6 : List Str := ["signs", "steps", "told", "signs", "steps", "signs"]
theorem due6_eqv : PyData.eqv (.list (due6.map PyData.str)) (.list (due6.map PyData.str)) = true := by decide +kernel
theorem due6_shaped : SeqAt.shaped (.list (due6.map PyData.str)) = true := by decide +kernel
theorem dpStrs (K : PySem.W.Frag) (H : Hp) : ∀ ns : List Str, DpAll K H (ns.map V.str) (ns.map PyData.str)
  | [] => .nil
  | n :: r => .cons (.str n) (dpStrs K H r)
section
variable {P : Program} {w : World} {K : PySem.W.Frag} {mg : Str → Option Value} {base : Heap}
abbrev nLaw : List Str := ["_law_script", "_law_pen_here", "_law_turn", "_law_letters_here", "_law_table", "_law_marks", "_law_first", "_law_second", "_law_third", "_law_shown", "_law_heard_here"]
theorem scLaw : FnScope nLaw ["_law_script"] (defScope sLaw) := ⟨rfl, rfl, rfl, by decide +kernel, rfl, by decide +kernel, by decide +kernel⟩
set_option maxHeartbeats 0 in
theorem ok_law {f f1 f2 f3 f4 f5 f6 f7 : Addr} {fd d1 d2 d3 d4 d5 d6 d7 : FuncData} (F : L2.Fun K "law" "law" sLaw f fd) (T : Txt mg) (S : SysD base)
    (GA : FnOk P w K mg base CX0 1 f1 d1 ["_law_script"] (spPen K)) (m1 : mg "_law_pen" = some (.ref f1)) (k1 : PySem.W.keepIn K (.ref f1) = true) (b1 : L2.Binds K d1 ["_law_script"] [])
    (GL : FnOk P w K mg base CX0 3 f2 d2 ["_law_pen_here"] spLetters) (m2 : mg "_law_letters" = some (.ref f2)) (k2 : PySem.W.keepIn K (.ref f2) = true) (b2 : L2.Binds K d2 ["_law_pen_here"] [])
    (GB : FnOk P w K mg base CX0 2 f3 d3 ["_law_pen_here", "_law_letters_here", "_law_bound"] spPlan) (m3 : mg "_law_plan" = some (.ref f3)) (k3 : PySem.W.keepIn K (.ref f3) = true) (b3 : L2.Binds K d3 ["_law_pen_here", "_law_letters_here", "_law_bound"] [])
    (GY : FnOk P w K mg base CX0 7 f4 d4 ["_law_letters_here", "_law_table", "_law_marks"] spHeardY) (GH : FnOk P w K mg base CX0 7 f4 d4 ["_law_letters_here", "_law_table", "_law_marks"] (spHeardB K)) (m4 : mg "_law_heard" = some (.ref f4)) (k4 : PySem.W.keepIn K (.ref f4) = true) (b4 : L2.Binds K d4 ["_law_letters_here", "_law_table", "_law_marks"] [])
    (GO : FnOk P w K mg base CX0 3 f5 d5 ["_law_pen_here"] (spOddL K)) (m5 : mg "_law_odd_letters" = some (.ref f5)) (k5 : PySem.W.keepIn K (.ref f5) = true) (b5 : L2.Binds K d5 ["_law_pen_here"] [])
    (GT : FnOk P w K mg base CX0 3 f6 d6 ["_law_pen_here", "_law_letters_here", "_law_table"] (spOddT K)) (m6 : mg "_law_odd_table" = some (.ref f6)) (k6 : PySem.W.keepIn K (.ref f6) = true) (b6 : L2.Binds K d6 ["_law_pen_here", "_law_letters_here", "_law_table"] [])
    (GM : FnOk P w K mg base CX0 3 f7 d7 ["_law_pen_here", "_law_marks"] (spOddM K)) (m7 : mg "_law_odd_marks" = some (.ref f7)) (k7 : PySem.W.keepIn K (.ref f7) = true) (b7 : L2.Binds K d7 ["_law_pen_here", "_law_marks"] []) :
    FnG P w K mg base CX0 9 f fd ["_law_script"] (spLaw K) := by
  refine funG F scLaw (fun vs H Q E h => ?_) (fun cdv A outer s H vs Q E hg hr h => ?_)
  · obtain ⟨a, ns, rfl, _⟩ := h
    rfl
  · obtain ⟨a, ns, rfl, hs, hl, k⟩ := h
    have nd := scLaw.nd
    have hg' : (A.deeper (envOfC "law" (defScope sLaw) s.heap.objs.size f cdv)).guards = some [] := hg
    have hr0 := hr.mono (show 0 ≤ 8 by decide)
    have hr1 := hr.mono (show 1 ≤ 8 by decide)
    have hr2 := hr.mono (show 2 ≤ 8 by decide)
    have hr3 := hr.mono (show 3 ≤ 8 by decide)
    have hr7 := hr.mono (show 7 ≤ 8 by decide)
    refine ⟨_, pss_cons (ps_set (i := 1) nd rfl (.inl rfl) (pe_call GA hr1 (by rfl) m1 k1 b1 .nil pass0 (pa_cons (pv 0) pa_nil)))
      (pss_cons (ps_for PassesOwn.never rfl (pi_range1 (by rfl) T.range (pa_cons pe_int pa_nil)) (pg_name (i := 2) nd rfl (Or.inl rfl))
        (pss_cons (ps_set (i := 3) nd rfl (.inl rfl) (pe_call GL hr3 (by rfl) m2 k2 b2 .nil pass0 (pa_cons (pv 1) pa_nil)))
        (pss_cons (ps_asg (pe_call GB hr2 (by rfl) m3 k3 b3 .nil pass0 (pa_cons (pv 1) (pa_cons (pv 3) (pa_cons pe_int pa_nil)))) (pg_tup rfl (pgs_cons (pg_name (i := 4) nd rfl (Or.inl rfl)) (pgs_cons (pg_name (i := 5) nd rfl (Or.inl rfl)) pgs_nil))))
        (pss_cons (ps_if (pt_cmp (pc_notN (pe_call GY hr7 (by rfl) m4 k4 b4 .nil pass0 (pa_cons (pv 3) (pa_cons (pv 4) (pa_cons (pv 5) pa_nil)))))) (pss_one ps_never) pss_nil)
        (pss_cons (ps_par (i := 6) (j := 7) rfl nd rfl rfl (by decide) rfl rfl (pa_cons (pe_call GO hr3 (by rfl) m5 k5 b5 .nil pass0 (pa_cons (pv 1) pa_nil)) (pa_cons (pe_call GT hr3 (by rfl) m6 k6 b6 .nil pass0 (pa_cons (pv 1) (pa_cons (pv 3) (pa_cons (pv 4) pa_nil)))) pa_nil)) rfl)
        (pss_cons (ps_set (i := 8) nd rfl (.inl rfl) (pe_call GM hr3 (by rfl) m7 k7 b7 .nil pass0 (pa_cons (pv 1) (pa_cons (pv 5) pa_nil))))
        (pss_cons (ps_set (i := 9) nd rfl (.inl rfl) (bRepr2 S hg' hr0 (by rfl) T.repr (pe_lst (pa_cons (pv 6) (pa_cons (pv 7) (pa_cons (pv 8) pa_nil))))))
        (pss_cons (ps_set (i := 10) nd rfl (.inl rfl) (pe_lst (pa_cons (pe_call GH hr7 (by rfl) m4 k4 b4 .nil pass0 (pa_cons (pv 6) (pa_cons (pv 4) (pa_cons (pv 5) pa_nil)))) (pa_cons (pe_call GH hr7 (by rfl) m4 k4 b4 .nil pass0 (pa_cons (pv 3) (pa_cons (pv 7) (pa_cons (pv 5) pa_nil)))) pa_nil))))
        (pss_cons (ps_set (i := 10) nd rfl (.inl rfl) (pe_op op_cat (pv 10) (pe_lst (pa_cons (pe_call GH hr7 (by rfl) m4 k4 b4 .nil pass0 (pa_cons (pv 3) (pa_cons (pv 4) (pa_cons (pv 8) pa_nil)))) (pa_cons (pe_call GH hr7 (by rfl) m4 k4 b4 .nil pass0 (pa_cons (pv 6) (pa_cons (pv 7) (pa_cons (pv 8) pa_nil)))) pa_nil)))))
        (pss_cons (ps_set (i := 10) nd rfl (.inl rfl) (pe_op op_cat (pv 10) (pe_lst (pa_cons (pe_call GH hr7 (by rfl) m4 k4 b4 .nil pass0 (pa_cons (pv 3) (pa_cons (pv 7) (pa_cons (pv 8) pa_nil)))) (pa_cons (pe_call GH hr7 (by rfl) m4 k4 b4 .nil pass0 (pa_cons (pv 6) (pa_cons (pv 4) (pa_cons (pv 8) pa_nil)))) pa_nil)))))
        (pss_one (ps_if (PW.pt (pw_or (pt_cmpR (op_neD hr.units) (pv 10) (pe_lst (pa_cons pe_str (pa_cons pe_str (pa_cons pe_str (pa_cons pe_str (pa_cons pe_str (pa_cons pe_str pa_nil))))))) (nomark _)) (pw_or1 (pt_cmpR op_ne (bRepr2 S hg' hr0 (by rfl) T.repr (pe_lst (pa_cons (pv 6) (pa_cons (pv 7) (pa_cons (pv 8) pa_nil))))) (pv 9) (nomark _))))) (pss_one ps_never) pss_nil))))))))))))
      (pss_one (ps_ret pe_bl))), ?_⟩
    refine ⟨_, rfl, a, ns, rfl, hs, hl, fun c p H1 s1 pen => ?_⟩
    refine ⟨8, rfl, by decide, by decide, for_it walk_range (fun i σ' H' => ∃ y2 y3 y4 y5 y6 y7 y8 y9 y10, σ' = [some (.ref a), some (.ref p), y2, y3, y4, y5, y6, y7, y8, y9, y10] ∧ PenAt c (100 * i) H' p) ⟨none, none, none, none, none, none, none, none, none, rfl, pen⟩ (fun _ _ _ _ _ => trivial) ?_ ?_⟩
    · rintro i x σ' H' H2 hi ⟨y2, y3, y4, y5, y6, y7, y8, y9, y10, rfl, pen2⟩ yy
      obtain ⟨e6, ex⟩ := yy
      subst e6
      subst ex
      have hi5 : i < 8 := hi
      have nm : 100 * i ≤ 800 := by omega
      rw [show 100 * (i + 1) = 100 * i + 100 by omega]
      generalize 100 * i = n at pen2 nm ⊢
      refine ⟨_, rfl, c, p, n, rfl, by omega, pen2, fun z H3 hz i3 => ?_⟩
      have Z := zok hz
      refine ⟨_, rfl, _, rfl, c, p, n + 1, z, 4, rfl, by decide, by decide, by omega, i3.2, Z, fun t ta tm tb mk H4 ht lt Tb bp hb ml i4 => ?_⟩
      refine ⟨t, _, rfl, SqT.of ht, rfl, _, _, rfl, _, _, rfl, rfl, ?_⟩
      obtain ⟨tp, xs, hxs, rows⟩ := id lt
      have tpos := Tb.pos
      have tfew := Tb.few
      have hx := rows.1
      refine ⟨_, rfl, _, rfl, _, rfl, ta, tm, z, xs, tb, mk, rfl, Z, .inl hxs, rows.mono fun r ys h => .inl h.2, Tb, .inl hb, ml, fun H5 s5 => ⟨_, rfl, iteF ?_⟩⟩
      have pen5 := i4.2.ext s5
      refine ⟨_, rfl, c, p, n + 42, rfl, by omega, pen5, fun v1 g1 H6 rq1 t1 bad1 i6 => ?_⟩
      have x46 : Ext1 p H4 H6 := Ext1.trans (Same.ext1 p s5) i6.1
      refine ⟨_, rfl, _, rfl, _, rfl, c, p, n + 43, z, ta, tb, rfl, by omega, i6.2, Z, lt.ext x46, Tb, fun v2 H7 bad2 i7 => ⟨_, _, rfl, ?_⟩⟩
      have x47 : Ext1 p H4 H7 := Ext1.trans x46 i7.1
      refine ⟨_, rfl, _, rfl, c, p, n + 48, tm, mk, rfl, by omega, i7.2, bp, x47 _ _ bp hb, by omega, by omega, fun v3 H8 bad3 i8 => ?_⟩
      have x48 : Ext1 p H4 H8 := Ext1.trans x47 i8.1
      have x68 : Ext1 p H6 H8 := Ext1.trans i7.1 i8.1
      obtain ⟨⟨g2, rq2, t2⟩, _⟩ := bad2 H8 i8.1
      obtain ⟨⟨g3, rq3, t3⟩, _⟩ := bad3 H8 (Ext1.refl p H8)
      have rq1 := rq1.ext x68
      have tD : Tam (.list [g1, g2, g3]) 5 30003 := Tam.list (Tams.cons (w1 := 1000) (w2 := 20002) (t1.mono (by decide) (Nat.le_refl _)) (Tams.cons (w1 := 10000) (w2 := 10001) (t2.mono (by decide) (Nat.le_refl _)) (Tams.cons (w1 := 10000) (w2 := 0) (t3.mono (by decide) (Nat.le_refl _)) .nil (by decide)) (by decide)) (by decide))
      have pen8 := i8.2
      refine ⟨_, rfl, _, rfl, _, rfl, by show 3 ≤ sizeLine; decide, fun l1 hl1 => ?_⟩
      have l1p := pen8.ne1 hl1
      have s9 : Same H8 (upd H8 l1 (.lst [v1, v2, v3])) := Same.new hl1
      have e9 : upd H8 l1 (.lst [v1, v2, v3]) l1 = some (.lst [v1, v2, v3]) := upd_same
      generalize upd H8 l1 (.lst [v1, v2, v3]) = H9 at s9 e9 ⊢
      dsimp only [tNil]
      refine rRepr2_of (p := p) (d := .list [g1, g2, g3]) (.lst l1p e9 (.cons (rq1.ext (Same.ext1 p s9)) (.cons (rq2.ext (Same.ext1 p s9)) (.cons (rq3.ext (Same.ext1 p s9)) .nil)))) tD (by decide) (by decide) ?_
      have w1 : ∀ y u H', Ext1 p H8 H' → Wrong K H' v1 y u "signs" := fun y u H' e => .inl ⟨rfl, fun H2 s2 => bad1 H2 (Ext1.trans x68 (Ext1.trans e (Same.ext1 p s2)))⟩
      have w2 : ∀ u H', Ext1 p H8 H' → Wrong K H' (.str z) v2 u "steps" := fun u H' e => .inr (.inl ⟨z, rfl, rfl, Z, fun H2 s2 => (bad2 H2 (Ext1.trans i8.1 (Ext1.trans e (Same.ext1 p s2)))).2⟩)
      have w3 : ∀ H', Ext1 p H8 H' → Wrong K H' (.str z) (.ref ta) v3 "told" := fun H' e => .inr (.inr ⟨z, ta, xs, rfl, rfl, Z, rfl, .inl (e _ _ tp (x48 _ _ tp hxs)), fun H2 s2 => stp_good (rowsAt_of rows Tb (Ext1.trans x48 (Ext1.trans e (Same.ext1 p s2)))) Z tpos (by omega) (s2 _ _ (e _ _ tp (x48 _ _ tp hxs))), fun H2 s2 => by
        rw [hx, ← ml]
        exact (bad3 H2 (Ext1.trans e (Same.ext1 p s2))).2⟩)
      have x89 := Same.ext1 p s9
      refine ⟨_, rfl, _, rfl, _, rfl, v1, .ref ta, .ref tm, "signs", rfl, w1 _ _ _ x89, fun H10 s10 => ?_⟩
      have x810 := Ext1.trans x89 (Same.ext1 p s10)
      refine ⟨_, rfl, _, rfl, _, rfl, .str z, v2, .ref tm, "steps", rfl, w2 _ _ x810, fun H11 s11 => ⟨by show 2 ≤ sizeLine; decide, fun l2 hl2 => ?_⟩⟩
      have x811 := Ext1.trans x810 (Same.ext1 p s11)
      have s12 : Same H11 (upd H11 l2 (.lst [.str "signs", .str "steps"])) := Same.new hl2
      have e12 : upd H11 l2 (.lst [.str "signs", .str "steps"]) l2 = some (.lst [.str "signs", .str "steps"]) := upd_same
      generalize upd H11 l2 (.lst [.str "signs", .str "steps"]) = H12 at s12 e12 ⊢
      have x812 := Ext1.trans x811 (Same.ext1 p s12)
      refine ⟨_, rfl, _, rfl, _, rfl, _, rfl, .str z, .ref ta, v3, "told", rfl, w3 _ x812, fun H13 s13 => ?_⟩
      have x813 := Ext1.trans x812 (Same.ext1 p s13)
      refine ⟨_, rfl, _, rfl, _, rfl, v1, v2, v3, "signs", rfl, w1 _ _ _ x813, fun H14 s14 => ⟨by show 2 ≤ sizeLine; decide, fun l3 hl3 => ?_⟩⟩
      have x814 := Ext1.trans x813 (Same.ext1 p s14)
      have s15 : Same H14 (upd H14 l3 (.lst [.str "told", .str "signs"])) := Same.new hl3
      have e15 : upd H14 l3 (.lst [.str "told", .str "signs"]) l3 = some (.lst [.str "told", .str "signs"]) := upd_same
      generalize upd H14 l3 (.lst [.str "told", .str "signs"]) = H15 at s15 e15 ⊢
      have x815 := Ext1.trans x814 (Same.ext1 p s15)
      refine ⟨l2, l3, _, _, rfl, rfl, s15 _ _ (s14 _ _ (s13 _ _ e12)), e15, by show 4 ≤ sizeLine; decide, fun l4 hl4 => ?_⟩
      have s16 : Same H15 (upd H15 l4 (.lst ([.str "signs", .str "steps"] ++ [.str "told", .str "signs"]))) := Same.new hl4
      have e16 : upd H15 l4 (.lst ([.str "signs", .str "steps"] ++ [.str "told", .str "signs"])) l4 = some (.lst ([.str "signs", .str "steps"] ++ [.str "told", .str "signs"])) := upd_same
      generalize upd H15 l4 (.lst ([.str "signs", .str "steps"] ++ [.str "told", .str "signs"])) = H16 at s16 e16 ⊢
      have x816 := Ext1.trans x815 (Same.ext1 p s16)
      refine ⟨_, rfl, _, rfl, _, rfl, _, rfl, .str z, v2, v3, "steps", rfl, w2 _ _ x816, fun H17 s17 => ?_⟩
      have x817 := Ext1.trans x816 (Same.ext1 p s17)
      refine ⟨_, rfl, _, rfl, _, rfl, v1, .ref ta, v3, "signs", rfl, w1 _ _ _ x817, fun H18 s18 => ⟨by show 2 ≤ sizeLine; decide, fun l5 hl5 => ?_⟩⟩
      have x818 := Ext1.trans x817 (Same.ext1 p s18)
      have s19 : Same H18 (upd H18 l5 (.lst [.str "steps", .str "signs"])) := Same.new hl5
      have e19 : upd H18 l5 (.lst [.str "steps", .str "signs"]) l5 = some (.lst [.str "steps", .str "signs"]) := upd_same
      generalize upd H18 l5 (.lst [.str "steps", .str "signs"]) = H19 at s19 e19 ⊢
      refine ⟨l4, l5, _, _, rfl, rfl, s19 _ _ (s18 _ _ (s17 _ _ e16)), e19, by show 6 ≤ sizeLine; decide, fun l6 hl6 => ?_⟩
      have s20 : Same H19 (upd H19 l6 (.lst ([.str "signs", .str "steps"] ++ [.str "told", .str "signs"] ++ [.str "steps", .str "signs"]))) := Same.new hl6
      have e20 : upd H19 l6 (.lst ([.str "signs", .str "steps"] ++ [.str "told", .str "signs"] ++ [.str "steps", .str "signs"])) l6 = some (.lst (due6.map V.str)) := upd_same
      generalize upd H19 l6 (.lst ([.str "signs", .str "steps"] ++ [.str "told", .str "signs"] ++ [.str "steps", .str "signs"])) = H20 at s20 e20 ⊢
      refine ⟨_, rfl, by show 6 ≤ sizeLine; decide, fun l7 hl7 => ?_⟩
      have s21 : Same H20 (upd H20 l7 (.lst (due6.map V.str))) := Same.new hl7
      have e21 : upd H20 l7 (.lst (due6.map V.str)) l7 = some (.lst (due6.map V.str)) := upd_same
      refine ⟨.list (due6.map PyData.str), .list (due6.map PyData.str), .lst (SqL.of (s21 _ _ e20)) (dpStrs _ _ due6), .lst (SqL.of e21) (dpStrs _ _ due6), due6_shaped, due6_shaped, _, rfl, ?_⟩
      rw [due6_eqv]
      refine iteF ?_
      have s821 : Ext1 p H8 (upd H20 l7 (.lst (due6.map V.str))) := Ext1.trans x818 (Same.ext1 p (Same.trans s19 (Same.trans s20 s21)))
      have pen21 : PenAt c (n + 51) (upd H20 l7 (.lst (due6.map V.str))) p := pen8.ext (Same.trans s9 (Same.trans s10 (Same.trans s11 (Same.trans s12 (Same.trans s13 (Same.trans s14 (Same.trans s15 (Same.trans s16 (Same.trans s17 (Same.trans s18 (Same.trans s19 (Same.trans s20 s21))))))))))))
      change tB _ _ (upd H20 l7 (.lst (due6.map V.str))) _
      generalize upd H20 l7 (.lst (due6.map V.str)) = H21 at s821 pen21 ⊢
      refine ⟨_, rfl, _, rfl, _, rfl, by show 3 ≤ sizeLine; decide, fun l8 hl8 => ?_⟩
      have l8p := pen21.ne1 hl8
      have s22 : Same H21 (upd H21 l8 (.lst [v1, v2, v3])) := Same.new hl8
      have e22 : upd H21 l8 (.lst [v1, v2, v3]) l8 = some (.lst [v1, v2, v3]) := upd_same
      generalize upd H21 l8 (.lst [v1, v2, v3]) = H22 at s22 e22 ⊢
      have s822 := Ext1.trans s821 (Same.ext1 p s22)
      dsimp only [tNil]
      refine rRepr2_of (p := p) (d := .list [g1, g2, g3]) (.lst l8p e22 (.cons (rq1.ext s822) (.cons (rq2.ext s822) (.cons (rq3.ext s822) .nil)))) tD (by decide) (by decide) ?_
      refine ⟨_, rfl, rfl, _, rfl, ?_⟩
      rw [show decide (V.str (PyData.list [g1, g2, g3]).shown = V.str (PyData.list [g1, g2, g3]).shown) = true from decide_eq_true rfl]
      refine iteF ?_
      exact ⟨_, _, _, _, _, _, _, _, _, rfl, (pen21.ext s22).mono (by omega)⟩
    · rintro σ' H' ⟨y2, y3, y4, y5, y6, y7, y8, y9, y10, rfl, pen2⟩
      exact k H'
end
end Kx
set_option Elab.async false
set_option maxRecDepth 100000
set_option autoImplicit false
namespace Kx
open PySem L2 PySem.Spec PyProof.Rows Rg Er
abbrev sMachInit : Stmt := inClass (top 6) 0
theorem free_of {ns : List (Str × NameKind)} (h : ns.all (fun y => decide (y.2 ≠ .free) || y.1 == "__class__") = true) : ∀ x, ns.lookup x = some .free → x = "__class__" := by
  intro x e
  have m : (x, NameKind.free) ∈ ns := by
    induction ns with
    | nil => cases e
    | cons y r ih =>
      obtain ⟨y1, y2⟩ := y
      by_cases q : (x == y1) = true
      · simp only [List.lookup, q] at e
        rw [beq_iff_eq.mp q]
        cases e
        exact List.mem_cons_self
      · have q' : (x == y1) = false := by simpa using q
        simp only [List.lookup, q'] at e
        exact List.mem_cons_of_mem _ (ih (by
          rw [List.all_cons, Bool.and_eq_true] at h
          exact h.2) e)
  have := List.all_eq_true.mp h _ m
  simpa using this
theorem esMach : ErrS ["self", "part"] (defScope sMachInit) := ⟨rfl, by decide +kernel, by decide +kernel, by decide +kernel, rfl, rfl, free_of (by decide +kernel), rfl, rfl, rfl⟩
section
variable {P : Program} {w : World} {K : PySem.W.Frag} {mg : Str → Option Value} {base : Heap}
theorem ok_machInit {C f cda cc : Addr} {oc dV kV doc pm ct : Value} {od an : Option Addr} {osl : Array (Option Value)} (T : ErrC P K C f cc cda) (O : OexC K C) (no : PySem.W.findIn K (.ref C) "part" = some none)
    (lk : K.lookup f = some ⟨oc, od, .func (PySem.W.ksFn "__init__" "BadMachine.__init__" (defArgs sMachInit) (defBody sMachInit) (defScope sMachInit) dV kV doc pm an (.ref cda) ct cc), osl⟩) (hcd : PySem.W.codeIn K (.ref cda) "BadMachine.__init__" = true) (gs : mg "super" = none) :
    FnOk P w K mg base CX0 1 f (PySem.W.ksFn "__init__" "BadMachine.__init__" (defArgs sMachInit) (defBody sMachInit) (defScope sMachInit) dV kV doc pm an (.ref cda) ct cc) ["self", "part"] (spErr1 C "part") := by
  refine ok_err T esMach lk hcd gs rfl rfl rfl (fun vs H Q E h => ?_) (fun vs H Q E h => ?_) (fun A outer s H vs Q E h => rest1 esMach O no rfl rfl A outer s H vs Q E h) (fun _ => rfl) (fun _ => rfl) (fun _ => rfl)
  · obtain ⟨a, v, rfl, _⟩ := h
    rfl
  · obtain ⟨a, v, rfl, ea, _⟩ := h
    exact ⟨a, _, rfl, ea⟩
end
set_option maxHeartbeats 0 in
theorem all_mk {l : PySem.W.OpenLaw} {w : World} {K : PySem.W.Frag} {h : Heap} {mg : Str → Option Value} {fa C : Addr} {tk : Tok} (X : K.In h) (G : h.Ns mainGlobals mg) (hfa : mg "law" = some (.ref fa))
    {G0 : Addr}
    {GR : Addr}
    {GS : Addr}
    {GN : Addr}
    {GI : Addr}
    {GM : Addr}
    {nm_M q_M : Str} {N_M : Addr} {bs_M bm_M : List Value} {sn_M : List Str} {sub_M : List Value} {ab_M : Bool} {col_M : Option Bool} {dd_M : Option Addr} {w0_M w1_M w2_M w3_M w5_M : Option Value} {fe_M cc_M cda_M : Addr} {oce_M kVe_M doce_M pme_M cte_M : Value} {ode_M ane_M : Option Addr} {osle_M : Array (Option Value)} {cl_M ccl_M : Value} {cld_M cdd_M : Option Addr} {csl_M ccs_M : Array (Option Value)} {vs_M : Array Value} {file_M : Str} {tf_M : Tok}
    {f_fromto : Addr} {od_fromto an_fromto : Option Addr} {sl_fromto : Array (Option Value)} {oc_fromto kV_fromto dc_fromto pm_fromto cd_fromto ct_fromto : Value}
    {f_letrs : Addr} {od_letrs an_letrs : Option Addr} {sl_letrs : Array (Option Value)} {oc_letrs kV_letrs dc_letrs pm_letrs cd_letrs ct_letrs : Value}
    {f_signs_ : Addr} {od_signs_ an_signs_ : Option Addr} {sl_signs_ : Array (Option Value)} {oc_signs_ kV_signs_ dc_signs_ pm_signs_ cd_signs_ ct_signs_ : Value}
    {f_chsig : Addr} {od_chsig an_chsig : Option Addr} {sl_chsig : Array (Option Value)} {oc_chsig kV_chsig dc_chsig pm_chsig cd_chsig ct_chsig : Value}
    {f_asteps : Addr} {od_asteps an_asteps : Option Addr} {sl_asteps : Array (Option Value)} {oc_asteps kV_asteps dc_asteps pm_asteps cd_asteps ct_asteps : Value}
    {f_astates : Addr} {od_astates an_astates : Option Addr} {sl_astates : Array (Option Value)} {oc_astates kV_astates dc_astates pm_astates cd_astates ct_astates : Value}
    {f_aansw : Addr} {od_aansw an_aansw : Option Addr} {sl_aansw : Array (Option Value)} {oc_aansw kV_aansw dc_aansw pm_aansw cd_aansw ct_aansw : Value}
    {f_pen : Addr} {od_pen an_pen : Option Addr} {sl_pen : Array (Option Value)} {oc_pen kV_pen dc_pen pm_pen cd_pen ct_pen : Value}
    {f_draw : Addr} {od_draw an_draw : Option Addr} {sl_draw : Array (Option Value)} {oc_draw kV_draw dc_draw pm_draw cd_draw ct_draw : Value}
    {f_pick : Addr} {od_pick an_pick : Option Addr} {sl_pick : Array (Option Value)} {oc_pick kV_pick dc_pick pm_pick cd_pick ct_pick : Value}
    {f_lett : Addr} {od_lett an_lett : Option Addr} {sl_lett : Array (Option Value)} {oc_lett kV_lett dc_lett pm_lett cd_lett ct_lett : Value}
    {f_plan : Addr} {od_plan an_plan : Option Addr} {sl_plan : Array (Option Value)} {oc_plan kV_plan dc_plan pm_plan cd_plan ct_plan : Value}
    {f_hrd : Addr} {od_hrd an_hrd : Option Addr} {sl_hrd : Array (Option Value)} {oc_hrd kV_hrd dc_hrd pm_hrd cd_hrd ct_hrd : Value}
    {f_oddl : Addr} {od_oddl an_oddl : Option Addr} {sl_oddl : Array (Option Value)} {oc_oddl kV_oddl dc_oddl pm_oddl cd_oddl ct_oddl : Value}
    {f_oddt : Addr} {od_oddt an_oddt : Option Addr} {sl_oddt : Array (Option Value)} {oc_oddt kV_oddt dc_oddt pm_oddt cd_oddt ct_oddt : Value}
    {f_oddm : Addr} {od_oddm an_oddm : Option Addr} {sl_oddm : Array (Option Value)} {oc_oddm kV_oddm dc_oddm pm_oddm cd_oddm ct_oddm : Value}
    {f_law : Addr} {od_law an_law : Option Addr} {sl_law : Array (Option Value)} {oc_law kV_law dc_law pm_law cd_law ct_law : Value}
    {f_init : Addr} {od_init an_init : Option Addr} {sl_init : Array (Option Value)} {oc_init kV_init dc_init pm_init cd_init ct_init : Value}
    (aC : PySem.W.nsIn K mainGlobals "Machine" = some (some (.ref C)))
    (aG0 : PySem.W.nsIn K mainGlobals "GameError" = some (some (.ref G0)))
    (aGR : PySem.W.nsIn K mainGlobals "BadRow" = some (some (.ref GR)))
    (aGS : PySem.W.nsIn K mainGlobals "BadSigns" = some (some (.ref GS)))
    (aGN : PySem.W.nsIn K mainGlobals "BadNumber" = some (some (.ref GN)))
    (aGI : PySem.W.nsIn K mainGlobals "BadInput" = some (some (.ref GI)))
    (aGM : PySem.W.nsIn K mainGlobals "BadMachine" = some (some (.ref GM)))
    (xL_M : K.lookup GM = some (excClassObj nm_M q_M GM N_M bs_M bm_M true sn_M sub_M ab_M col_M dd_M w0_M w1_M w2_M w3_M w5_M "ValueError.__new__"))
    (rv_M : PySem.HandSPX.refsVE bm_M = true)
    (sa_M : PySem.W.findIn K (.ref GM) "__setattr__" = some (some (.builtin "object.__setattr__")))
    (ex_M : PySem.W.subIn K (.ref GM) (.type "BaseException") = some true)
    (ty_M : PySem.W.typeIn K (.ref GM) = some (.type "type"))
    (kC_M : PySem.W.keepIn K (.ref GM) = true)
    (ga_M : PySem.W.findIn K (.ref GM) "__getattribute__" = some (some (.builtin "BaseException.__getattribute__")))
    (gg_M : PySem.W.findIn K (.ref GM) "__getattr__" = some none)
    (hdc_M : PySem.W.hasDictIn K GM = true)
    (ic_M : (PySem.W.clsIn K GM).isSome = true)
    (ca_M : PySem.W.findIn K (.ref GM) "__class__" = some (some (.builtin "object.__class__")))
    (ob_M : PySem.W.mroIn K GM (.type "object") = some true)
    (ini_M : PySem.W.findIn K (.ref GM) "__init__" = some (some (.ref fe_M)))
    (ti_M : PySem.W.typeIn K (.ref fe_M) = some (.type "function"))
    (le_M : K.lookup fe_M = some ⟨oce_M, ode_M, .func (PySem.W.ksFn "__init__" "BadMachine.__init__" (defArgs sMachInit) (defBody sMachInit) (defScope sMachInit) .none kVe_M doce_M pme_M ane_M (.ref cda_M) cte_M cc_M), osle_M⟩)
    (ce_M : PySem.W.codeIn K (.ref cda_M) "BadMachine.__init__" = true)
    (no_M : PySem.W.findIn K (.ref GM) "part" = some none)
    (su_M : PySem.W.ks_superIn K GM GM "__init__" = some (some (.builtin veInit)))
    (ve_M : PySem.W.subIn K (.ref GM) (.type "ValueError") = some true)
    (se_M : PySem.W.mroIn K GM (.ref GM) = some true)
    (cel_M : K.lookup cc_M = some ⟨cl_M, cld_M, .cell (some (.ref GM)), csl_M⟩)
    (cod_M : K.lookup cda_M = some ⟨ccl_M, cdd_M, .fields vs_M, ccs_M⟩)
    (v2_M : vs_M[2]? = some (.str file_M tf_M))
    (fl_M : ((l.prog.main.file : Str) == file_M) = true)
    (em_M : PySem.W.exmOne K (.ref GM) (.ref G0) = some true)
    (nGR : PySem.W.kitOne K (.ref GM) (.ref GR) = some false)
    (nGS : PySem.W.kitOne K (.ref GM) (.ref GS) = some false)
    (nGN : PySem.W.kitOne K (.ref GM) (.ref GN) = some false)
    (nGI : PySem.W.kitOne K (.ref GM) (.ref GI) = some true)
    (nGM : PySem.W.kitOne K (.ref GM) (.ref GM) = some true)
    (ay : PySem.W.nsIn K cStatics "thirdparty.any" = some none)
    (tp : (l.prog.main.scope.names.lookup ("super" : Str)).isSome = false)
    (cg : PySem.W.specialIn K (.builtin "object.__class__") "__get__" = some (some (.builtin "getset_descriptor.__get__")))
    (ct : PySem.W.takesIn K (.builtin "object.__class__") = some true)
    (a_fromto : PySem.W.nsIn K mainGlobals "is_from_to" = some (some (.ref f_fromto)))
    (l_fromto : K.lookup f_fromto = some ⟨oc_fromto, od_fromto, .func (PySem.W.fnOf "is_from_to" "is_from_to" (defArgs sFromTo) (defBody sFromTo) (defScope sFromTo) .none kV_fromto dc_fromto pm_fromto an_fromto cd_fromto ct_fromto), sl_fromto⟩)
    (c_fromto : PySem.W.codeIn K cd_fromto "is_from_to" = true)
    (k_fromto : PySem.W.keepIn K (.ref f_fromto) = true)
    (a_letrs : PySem.W.nsIn K mainGlobals "are_letters" = some (some (.ref f_letrs)))
    (l_letrs : K.lookup f_letrs = some ⟨oc_letrs, od_letrs, .func (PySem.W.fnOf "are_letters" "are_letters" (defArgs sAreLetters) (defBody sAreLetters) (defScope sAreLetters) .none kV_letrs dc_letrs pm_letrs an_letrs cd_letrs ct_letrs), sl_letrs⟩)
    (c_letrs : PySem.W.codeIn K cd_letrs "are_letters" = true)
    (k_letrs : PySem.W.keepIn K (.ref f_letrs) = true)
    (a_signs_ : PySem.W.nsIn K mainGlobals "are_signs" = some (some (.ref f_signs_)))
    (l_signs_ : K.lookup f_signs_ = some ⟨oc_signs_, od_signs_, .func (PySem.W.fnOf "are_signs" "are_signs" (defArgs sAreSigns) (defBody sAreSigns) (defScope sAreSigns) .none kV_signs_ dc_signs_ pm_signs_ an_signs_ cd_signs_ ct_signs_), sl_signs_⟩)
    (c_signs_ : PySem.W.codeIn K cd_signs_ "are_signs" = true)
    (k_signs_ : PySem.W.keepIn K (.ref f_signs_) = true)
    (a_chsig : PySem.W.nsIn K mainGlobals "check_signs" = some (some (.ref f_chsig)))
    (l_chsig : K.lookup f_chsig = some ⟨oc_chsig, od_chsig, .func (PySem.W.fnOf "check_signs" "check_signs" (defArgs sCheckSigns) (defBody sCheckSigns) (defScope sCheckSigns) .none kV_chsig dc_chsig pm_chsig an_chsig cd_chsig ct_chsig), sl_chsig⟩)
    (c_chsig : PySem.W.codeIn K cd_chsig "check_signs" = true)
    (k_chsig : PySem.W.keepIn K (.ref f_chsig) = true)
    (a_asteps : PySem.W.nsIn K mainGlobals "are_steps" = some (some (.ref f_asteps)))
    (l_asteps : K.lookup f_asteps = some ⟨oc_asteps, od_asteps, .func (PySem.W.fnOf "are_steps" "are_steps" (defArgs sAreSteps) (defBody sAreSteps) (defScope sAreSteps) .none kV_asteps dc_asteps pm_asteps an_asteps cd_asteps ct_asteps), sl_asteps⟩)
    (c_asteps : PySem.W.codeIn K cd_asteps "are_steps" = true)
    (k_asteps : PySem.W.keepIn K (.ref f_asteps) = true)
    (a_astates : PySem.W.nsIn K mainGlobals "are_states" = some (some (.ref f_astates)))
    (l_astates : K.lookup f_astates = some ⟨oc_astates, od_astates, .func (PySem.W.fnOf "are_states" "are_states" (defArgs sAreStates) (defBody sAreStates) (defScope sAreStates) .none kV_astates dc_astates pm_astates an_astates cd_astates ct_astates), sl_astates⟩)
    (c_astates : PySem.W.codeIn K cd_astates "are_states" = true)
    (k_astates : PySem.W.keepIn K (.ref f_astates) = true)
    (a_aansw : PySem.W.nsIn K mainGlobals "are_answers" = some (some (.ref f_aansw)))
    (l_aansw : K.lookup f_aansw = some ⟨oc_aansw, od_aansw, .func (PySem.W.fnOf "are_answers" "are_answers" (defArgs sAreAnswers) (defBody sAreAnswers) (defScope sAreAnswers) .none kV_aansw dc_aansw pm_aansw an_aansw cd_aansw ct_aansw), sl_aansw⟩)
    (c_aansw : PySem.W.codeIn K cd_aansw "are_answers" = true)
    (k_aansw : PySem.W.keepIn K (.ref f_aansw) = true)
    (a_pen : PySem.W.nsIn K mainGlobals "_law_pen" = some (some (.ref f_pen)))
    (l_pen : K.lookup f_pen = some ⟨oc_pen, od_pen, .func (PySem.W.fnOf "_law_pen" "_law_pen" (defArgs sPen) (defBody sPen) (defScope sPen) .none kV_pen dc_pen pm_pen an_pen cd_pen ct_pen), sl_pen⟩)
    (c_pen : PySem.W.codeIn K cd_pen "_law_pen" = true)
    (k_pen : PySem.W.keepIn K (.ref f_pen) = true)
    (a_draw : PySem.W.nsIn K mainGlobals "_law_draw" = some (some (.ref f_draw)))
    (l_draw : K.lookup f_draw = some ⟨oc_draw, od_draw, .func (PySem.W.fnOf "_law_draw" "_law_draw" (defArgs sDraw) (defBody sDraw) (defScope sDraw) .none kV_draw dc_draw pm_draw an_draw cd_draw ct_draw), sl_draw⟩)
    (c_draw : PySem.W.codeIn K cd_draw "_law_draw" = true)
    (k_draw : PySem.W.keepIn K (.ref f_draw) = true)
    (a_pick : PySem.W.nsIn K mainGlobals "_law_pick" = some (some (.ref f_pick)))
    (l_pick : K.lookup f_pick = some ⟨oc_pick, od_pick, .func (PySem.W.fnOf "_law_pick" "_law_pick" (defArgs sPick) (defBody sPick) (defScope sPick) .none kV_pick dc_pick pm_pick an_pick cd_pick ct_pick), sl_pick⟩)
    (c_pick : PySem.W.codeIn K cd_pick "_law_pick" = true)
    (k_pick : PySem.W.keepIn K (.ref f_pick) = true)
    (a_lett : PySem.W.nsIn K mainGlobals "_law_letters" = some (some (.ref f_lett)))
    (l_lett : K.lookup f_lett = some ⟨oc_lett, od_lett, .func (PySem.W.fnOf "_law_letters" "_law_letters" (defArgs sLetters) (defBody sLetters) (defScope sLetters) .none kV_lett dc_lett pm_lett an_lett cd_lett ct_lett), sl_lett⟩)
    (c_lett : PySem.W.codeIn K cd_lett "_law_letters" = true)
    (k_lett : PySem.W.keepIn K (.ref f_lett) = true)
    (a_plan : PySem.W.nsIn K mainGlobals "_law_plan" = some (some (.ref f_plan)))
    (l_plan : K.lookup f_plan = some ⟨oc_plan, od_plan, .func (PySem.W.fnOf "_law_plan" "_law_plan" (defArgs sPlan) (defBody sPlan) (defScope sPlan) .none kV_plan dc_plan pm_plan an_plan cd_plan ct_plan), sl_plan⟩)
    (c_plan : PySem.W.codeIn K cd_plan "_law_plan" = true)
    (k_plan : PySem.W.keepIn K (.ref f_plan) = true)
    (a_hrd : PySem.W.nsIn K mainGlobals "_law_heard" = some (some (.ref f_hrd)))
    (l_hrd : K.lookup f_hrd = some ⟨oc_hrd, od_hrd, .func (PySem.W.fnOf "_law_heard" "_law_heard" (defArgs sHeard) (defBody sHeard) (defScope sHeard) .none kV_hrd dc_hrd pm_hrd an_hrd cd_hrd ct_hrd), sl_hrd⟩)
    (c_hrd : PySem.W.codeIn K cd_hrd "_law_heard" = true)
    (k_hrd : PySem.W.keepIn K (.ref f_hrd) = true)
    (a_oddl : PySem.W.nsIn K mainGlobals "_law_odd_letters" = some (some (.ref f_oddl)))
    (l_oddl : K.lookup f_oddl = some ⟨oc_oddl, od_oddl, .func (PySem.W.fnOf "_law_odd_letters" "_law_odd_letters" (defArgs sOddL) (defBody sOddL) (defScope sOddL) .none kV_oddl dc_oddl pm_oddl an_oddl cd_oddl ct_oddl), sl_oddl⟩)
    (c_oddl : PySem.W.codeIn K cd_oddl "_law_odd_letters" = true)
    (k_oddl : PySem.W.keepIn K (.ref f_oddl) = true)
    (a_oddt : PySem.W.nsIn K mainGlobals "_law_odd_table" = some (some (.ref f_oddt)))
    (l_oddt : K.lookup f_oddt = some ⟨oc_oddt, od_oddt, .func (PySem.W.fnOf "_law_odd_table" "_law_odd_table" (defArgs sOddT) (defBody sOddT) (defScope sOddT) .none kV_oddt dc_oddt pm_oddt an_oddt cd_oddt ct_oddt), sl_oddt⟩)
    (c_oddt : PySem.W.codeIn K cd_oddt "_law_odd_table" = true)
    (k_oddt : PySem.W.keepIn K (.ref f_oddt) = true)
    (a_oddm : PySem.W.nsIn K mainGlobals "_law_odd_marks" = some (some (.ref f_oddm)))
    (l_oddm : K.lookup f_oddm = some ⟨oc_oddm, od_oddm, .func (PySem.W.fnOf "_law_odd_marks" "_law_odd_marks" (defArgs sOddM) (defBody sOddM) (defScope sOddM) .none kV_oddm dc_oddm pm_oddm an_oddm cd_oddm ct_oddm), sl_oddm⟩)
    (c_oddm : PySem.W.codeIn K cd_oddm "_law_odd_marks" = true)
    (k_oddm : PySem.W.keepIn K (.ref f_oddm) = true)
    (a_law : PySem.W.nsIn K mainGlobals "law" = some (some (.ref f_law)))
    (l_law : K.lookup f_law = some ⟨oc_law, od_law, .func (PySem.W.fnOf "law" "law" (defArgs sLaw) (defBody sLaw) (defScope sLaw) .none kV_law dc_law pm_law an_law cd_law ct_law), sl_law⟩)
    (c_law : PySem.W.codeIn K cd_law "law" = true)
    (k_law : PySem.W.keepIn K (.ref f_law) = true)
    (a_init : PySem.W.findIn K (.ref C) "__init__" = some (some (.ref f_init)))
    (i_init : PySem.W.isFn K (.ref f_init) = true)
    (l_init : K.lookup f_init = some ⟨oc_init, od_init, .func (PySem.W.fnOf "__init__" "Machine.__init__" (defArgs sInit) (defBody sInit) (defScope sInit) .none kV_init dc_init pm_init an_init cd_init ct_init), sl_init⟩)
    (c_init : PySem.W.codeIn K cd_init "Machine.__init__" = true)
    (k_init : PySem.W.keepIn K (.ref f_init) = true)
    (pg : PySem.W.plainGet K C Str.empty = true)
    (hd : PySem.W.hasDictIn K C = true)
    (po : PySem.W.plainOver K C = true)
    (sa : PySem.W.findIn K (.ref C) "__setattr__" = some (some (.builtin "object.__setattr__")))
    (mk : PySem.W.makesIn K C = true)
    (kc : PySem.W.keepIn K (.ref C) = true)
    (n1 : PySem.W.findIn K (.ref C) "_signs" = some none)
    (n2 : PySem.W.findIn K (.ref C) "_steps" = some none)
    (n3 : PySem.W.findIn K (.ref C) "_told" = some none)
    (aL : PySem.W.nsIn K mainGlobals "LETTERS" = some (some (.str "abcdefghijklmnopqrstuvwxyz" tk)))
    (z_len : PySem.W.nsIn K mainGlobals "len" = some none)
    (z_int : PySem.W.nsIn K mainGlobals "int" = some none)
    (z_abs : PySem.W.nsIn K mainGlobals "abs" = some none)
    (z_list : PySem.W.nsIn K mainGlobals "list" = some none)
    (z_tuple : PySem.W.nsIn K mainGlobals "tuple" = some none)
    (z_range : PySem.W.nsIn K mainGlobals "range" = some none)
    (z_repr : PySem.W.nsIn K mainGlobals "repr" = some none)
    (z_isinstance : PySem.W.nsIn K mainGlobals "isinstance" = some none)
    (z_all : PySem.W.nsIn K mainGlobals "all" = some none)
    (z_set : PySem.W.nsIn K mainGlobals "set" = some none)
    (z_bool : PySem.W.nsIn K mainGlobals "bool" = some none)
    (z_str : PySem.W.nsIn K mainGlobals "str" = some none)
    (z_super : PySem.W.nsIn K mainGlobals "super" = some none)
    : ∃ fd : FuncData, (∀ (s : Shared) (v : Value), BindsTo s fd ⟨[v], []⟩ [("_law_script", v)]) ∧ ∀ base : Heap, K.In base → base.Ns mainGlobals mg → SysD base → FnG l.prog w K mg base CX0 9 fa fd ["_law_script"] (spLaw K) := by
  have e := hfa.symm.trans (PySem.W.mg_of X G a_law)
  cases e
  have T : Txt mg := ⟨PySem.W.mg_none_of X G z_len, PySem.W.mg_none_of X G z_int, PySem.W.mg_none_of X G z_abs, PySem.W.mg_none_of X G z_list, PySem.W.mg_none_of X G z_tuple, PySem.W.mg_none_of X G z_range, PySem.W.mg_none_of X G z_repr, PySem.W.mg_none_of X G z_isinstance, PySem.W.mg_none_of X G z_all, PySem.W.mg_none_of X G z_set⟩
  have zB := PySem.W.mg_none_of X G z_bool
  have zI := PySem.W.mg_none_of X G z_int
  have zS := PySem.W.mg_none_of X G z_str
  have zP := PySem.W.mg_none_of X G z_super
  have mL : mg "LETTERS" = some (.str abc tk) := PySem.W.mg_of X G aL
  have M : MT K mg C := ⟨⟨pg, hd, po, sa⟩, n1, n2, n3, PySem.W.mg_of X G aC⟩
  have O_M : OexC K GM := ⟨⟨_, _, _, _, _, _, _, _, _, _, _, _, _, _, _, xL_M, rv_M⟩, sa_M, ex_M, ty_M, kC_M⟩
  have D_M : KeptC K GM := ⟨⟨ga_M, gg_M, ex_M, hdc_M⟩, ic_M, ca_M, cg, ct, ob_M⟩
  have R_M : ErrC l.prog K GM fe_M cc_M cda_M := ⟨⟨_, _, _, _, _, _, _, _, _, _, _, _, _, _, _, xL_M, rv_M⟩, su_M, ay, ve_M, se_M, ⟨_, _, _, cel_M⟩, ⟨_, _, _, _, _, _, cod_M, v2_M, fl_M⟩, tp⟩
  have Hc : HearC K mg G0 GR GS GN GI GM := ⟨PySem.W.mg_of X G aG0, PySem.W.mg_of X G aGR, PySem.W.mg_of X G aGS, PySem.W.mg_of X G aGN, PySem.W.mg_of X G aGI, PySem.W.mg_of X G aGM, D_M, em_M, nGR, nGS, nGN, nGI, nGM, no_M, PySem.W.mg_none_of X G z_isinstance⟩
  have F_fromto := fun_mk (st := sFromTo) l_fromto c_fromto k_fromto
  have b_fromto := F_fromto.binds (ps := ["value", "low", "high"]) fun _ _ _ _ _ _ us hl => match us, hl with | [_, _, _], _ => rfl
  have m_fromto := PySem.W.mg_of X G a_fromto
  have F_letrs := fun_mk (st := sAreLetters) l_letrs c_letrs k_letrs
  have b_letrs := F_letrs.binds (ps := ["value", "least", "most"]) fun _ _ _ _ _ _ us hl => match us, hl with | [_, _, _], _ => rfl
  have m_letrs := PySem.W.mg_of X G a_letrs
  have F_signs_ := fun_mk (st := sAreSigns) l_signs_ c_signs_ k_signs_
  have b_signs_ := F_signs_.binds (ps := ["value"]) fun _ _ _ _ _ _ us hl => match us, hl with | [_], _ => rfl
  have m_signs_ := PySem.W.mg_of X G a_signs_
  have F_chsig := fun_mk (st := sCheckSigns) l_chsig c_chsig k_chsig
  have b_chsig := F_chsig.binds (ps := ["value"]) fun _ _ _ _ _ _ us hl => match us, hl with | [_], _ => rfl
  have m_chsig := PySem.W.mg_of X G a_chsig
  have F_asteps := fun_mk (st := sAreSteps) l_asteps c_asteps k_asteps
  have b_asteps := F_asteps.binds (ps := ["value", "many"]) fun _ _ _ _ _ _ us hl => match us, hl with | [_, _], _ => rfl
  have m_asteps := PySem.W.mg_of X G a_asteps
  have F_astates := fun_mk (st := sAreStates) l_astates c_astates k_astates
  have b_astates := F_astates.binds (ps := ["value", "many", "last"]) fun _ _ _ _ _ _ us hl => match us, hl with | [_, _, _], _ => rfl
  have m_astates := PySem.W.mg_of X G a_astates
  have F_aansw := fun_mk (st := sAreAnswers) l_aansw c_aansw k_aansw
  have b_aansw := F_aansw.binds (ps := ["value", "many"]) fun _ _ _ _ _ _ us hl => match us, hl with | [_, _], _ => rfl
  have m_aansw := PySem.W.mg_of X G a_aansw
  have F_pen := fun_mk (st := sPen) l_pen c_pen k_pen
  have b_pen := F_pen.binds (ps := ["_law_script"]) fun _ _ _ _ _ _ us hl => match us, hl with | [_], _ => rfl
  have m_pen := PySem.W.mg_of X G a_pen
  have F_draw := fun_mk (st := sDraw) l_draw c_draw k_draw
  have b_draw := F_draw.binds (ps := ["_law_pen_here", "_law_many"]) fun _ _ _ _ _ _ us hl => match us, hl with | [_, _], _ => rfl
  have m_draw := PySem.W.mg_of X G a_draw
  have F_pick := fun_mk (st := sPick) l_pick c_pick k_pick
  have b_pick := F_pick.binds (ps := ["_law_pen_here", "_law_some"]) fun _ _ _ _ _ _ us hl => match us, hl with | [_, _], _ => rfl
  have m_pick := PySem.W.mg_of X G a_pick
  have F_lett := fun_mk (st := sLetters) l_lett c_lett k_lett
  have b_lett := F_lett.binds (ps := ["_law_pen_here"]) fun _ _ _ _ _ _ us hl => match us, hl with | [_], _ => rfl
  have m_lett := PySem.W.mg_of X G a_lett
  have F_plan := fun_mk (st := sPlan) l_plan c_plan k_plan
  have b_plan := F_plan.binds (ps := ["_law_pen_here", "_law_letters_here", "_law_bound"]) fun _ _ _ _ _ _ us hl => match us, hl with | [_, _, _], _ => rfl
  have m_plan := PySem.W.mg_of X G a_plan
  have F_hrd := fun_mk (st := sHeard) l_hrd c_hrd k_hrd
  have b_hrd := F_hrd.binds (ps := ["_law_letters_here", "_law_table", "_law_marks"]) fun _ _ _ _ _ _ us hl => match us, hl with | [_, _, _], _ => rfl
  have m_hrd := PySem.W.mg_of X G a_hrd
  have F_oddl := fun_mk (st := sOddL) l_oddl c_oddl k_oddl
  have b_oddl := F_oddl.binds (ps := ["_law_pen_here"]) fun _ _ _ _ _ _ us hl => match us, hl with | [_], _ => rfl
  have m_oddl := PySem.W.mg_of X G a_oddl
  have F_oddt := fun_mk (st := sOddT) l_oddt c_oddt k_oddt
  have b_oddt := F_oddt.binds (ps := ["_law_pen_here", "_law_letters_here", "_law_table"]) fun _ _ _ _ _ _ us hl => match us, hl with | [_, _, _], _ => rfl
  have m_oddt := PySem.W.mg_of X G a_oddt
  have F_oddm := fun_mk (st := sOddM) l_oddm c_oddm k_oddm
  have b_oddm := F_oddm.binds (ps := ["_law_pen_here", "_law_marks"]) fun _ _ _ _ _ _ us hl => match us, hl with | [_, _], _ => rfl
  have m_oddm := PySem.W.mg_of X G a_oddm
  have F_law := fun_mk (st := sLaw) l_law c_law k_law
  have b_law := F_law.binds (ps := ["_law_script"]) fun _ _ _ _ _ _ us hl => match us, hl with | [_], _ => rfl
  have m_law := PySem.W.mg_of X G a_law
  have F_init := fun_mk (st := sInit) l_init c_init k_init
  have b_init := F_init.binds (ps := ["self", "signs", "steps", "told"]) fun _ _ _ _ _ _ us hl => match us, hl with | [_, _, _, _], _ => rfl
  refine ⟨PySem.W.fnOf "law" "law" (defArgs sLaw) (defBody sLaw) (defScope sLaw) .none kV_law dc_law pm_law an_law cd_law ct_law, fun s v => .of_eq rfl, fun base _ _ Sd => ?_⟩
  have B_mach : ErrB l.prog w K mg base "BadMachine" "part" GM := ⟨O_M, PySem.W.mg_of X G aGM, _, _, ["self", "part"], ini_M, ti_M, ok_machInit R_M O_M no_M le_M ce_M zP, L2.Binds.all fun us hl => match us, hl with | [_, _], _ => rfl⟩
  have G_fromto := ok_fromTo (P := l.prog) (w := w) (base := base) F_fromto T zI zB
  have G_fromto2 := ok_fromTo2 (P := l.prog) (w := w) (base := base) F_fromto T zI zB
  have G_letrs := ok_areLetters (P := l.prog) (w := w) (base := base) F_letrs T zS mL
  have G_letrs2 := ok_areLetters2 (P := l.prog) (w := w) (base := base) F_letrs T zS mL
  have G_signs := ok_areSigns F_signs_ T G_letrs m_letrs k_letrs b_letrs
  have G_signs2 := ok_areSigns2 F_signs_ T G_letrs2 m_letrs k_letrs b_letrs
  have G_chsig := ok_checkSigns F_chsig G_signs m_signs_ k_signs_ b_signs_
  have G_chsigN := ok_checkSignsN F_chsig G_signs2 m_signs_ k_signs_ b_signs_ B_mach
  have G_astates := ok_areStates F_astates T G_fromto m_fromto k_fromto b_fromto
  have G_astates2 := ok_areStates2 F_astates T G_fromto2 m_fromto k_fromto b_fromto
  have G_asteps := ok_areSteps F_asteps T G_astates m_astates k_astates b_astates
  have G_asteps2 := ok_areSteps2 F_asteps T G_astates2 m_astates k_astates b_astates
  have G_aansw := ok_areAnswers (P := l.prog) (w := w) (base := base) F_aansw T zB
  have G_aansw2 := ok_areAnswers2 (P := l.prog) (w := w) (base := base) F_aansw T zB
  have G_init := ok_init F_init T M G_chsig m_chsig k_chsig b_chsig G_asteps m_asteps k_asteps b_asteps G_aansw m_aansw k_aansw b_aansw
  have G_initN := ok_initN F_init T M B_mach G_chsig G_chsigN m_chsig k_chsig b_chsig G_asteps2 m_asteps k_asteps b_asteps G_aansw2 m_aansw k_aansw b_aansw
  have mk' : Mk K C f_init := ⟨mk, a_init, i_init, kc⟩
  have G_hrdY := ok_heardY F_hrd Hc M mk' G_init b_init
  have G_hrdB := ok_heardB F_hrd Hc M mk' G_initN b_init
  have G_draw := ok_draw (P := l.prog) (w := w) (base := base) F_draw T
  have G_pick := ok_pick F_pick T G_draw m_draw k_draw b_draw
  have G_lett := ok_letters F_lett G_pick m_pick k_pick b_pick
  have G_plan := ok_plan F_plan T G_draw m_draw k_draw b_draw
  have G_oddl := ok_oddL F_oddl G_pick m_pick k_pick b_pick
  have G_oddt := ok_oddT F_oddt T G_draw m_draw k_draw b_draw G_pick m_pick k_pick b_pick
  have G_oddm := ok_oddM F_oddm T G_draw m_draw k_draw b_draw G_pick m_pick k_pick b_pick
  exact ok_law F_law T Sd (ok_pen F_pen T) m_pen k_pen b_pen G_lett m_lett k_lett b_lett G_plan m_plan k_plan b_plan G_hrdY G_hrdB m_hrd k_hrd b_hrd G_oddl m_oddl k_oddl b_oddl G_oddt m_oddt k_oddt b_oddt G_oddm m_oddm k_oddm b_oddm
end Kx
set_option Elab.async false
open PySem PySem.W PyProof.Rows in
set_option maxRecDepth 100000 in
set_option maxHeartbeats 0 in
theorem PySem.Challenge.cw_rowgames_k18_machines_refused_holds : PySem.Challenge.rw_rowgames_k18_machines_refused.Holds := by
  w_on; o_law; k_head; (case hw => w_witness2)
  k_fill
  refine Kx.walkGD (l := PySem.Challenge.rw_rowgames_k18_machines_refused) (n := 63) (k := 9) (x := "_law_script") (sp := fun w => Kx.spLaw _) rfl (by decide) rfl ⟨rfl, by decide, by decide⟩ (by first | rfl | decide +kernel) (fun w h Y => PySem.W.kIn_of Y) ?F (fun _ _ a ns hl _ _ hS => ⟨a, ns, rfl, hS, hl, fun _ => rfl⟩)
  case F =>
    intro w mg fa h KX G hmg
    refine' Kx.all_mk KX G hmg ?aC ?aG0 ?aGR ?aGS ?aGN ?aGI ?aGM ?xL_M ?rv_M ?sa_M ?ex_M ?ty_M ?kC_M ?ga_M ?gg_M ?hdc_M ?ic_M ?ca_M ?ob_M ?ini_M ?ti_M ?le_M ?ce_M ?no_M ?su_M ?ve_M ?se_M ?cel_M ?cod_M ?v2_M ?fl_M ?em_M ?nGR ?nGS ?nGN ?nGI ?nGM ?ay ?tp ?cg ?ct ?a_fromto ?l_fromto ?c_fromto ?k_fromto ?a_letrs ?l_letrs ?c_letrs ?k_letrs ?a_signs_ ?l_signs_ ?c_signs_ ?k_signs_ ?a_chsig ?l_chsig ?c_chsig ?k_chsig ?a_asteps ?l_asteps ?c_asteps ?k_asteps ?a_astates ?l_astates ?c_astates ?k_astates ?a_aansw ?l_aansw ?c_aansw ?k_aansw ?a_pen ?l_pen ?c_pen ?k_pen ?a_draw ?l_draw ?c_draw ?k_draw ?a_pick ?l_pick ?c_pick ?k_pick ?a_lett ?l_lett ?c_lett ?k_lett ?a_plan ?l_plan ?c_plan ?k_plan ?a_hrd ?l_hrd ?c_hrd ?k_hrd ?a_oddl ?l_oddl ?c_oddl ?k_oddl ?a_oddt ?l_oddt ?c_oddt ?k_oddt ?a_oddm ?l_oddm ?c_oddm ?k_oddm ?a_law ?l_law ?c_law ?k_law ?a_init ?i_init ?l_init ?c_init ?k_init ?pg ?hd ?po ?sa ?mk ?kc ?n1 ?n2 ?n3 ?aL ?z_len ?z_int ?z_abs ?z_list ?z_tuple ?z_range ?z_repr ?z_isinstance ?z_all ?z_set ?z_bool ?z_str ?z_super
    (case aC => k_is)
    (case aG0 => k_is)
    (case aGR => k_is)
    (case aGS => k_is)
    (case aGN => k_is)
    (case aGI => k_is)
    (case aGM => k_is)
    (case xL_M => k_is)
    (case rv_M => first | rfl | decide +kernel | k_is)
    (case sa_M => k_is)
    (case ex_M => k_is)
    (case ty_M => k_is)
    (case kC_M => k_is)
    (case ga_M => k_is)
    (case gg_M => k_is)
    (case hdc_M => k_is)
    (case ic_M => first | kernel_rfl | decide +kernel | rfl)
    (case ca_M => k_is)
    (case ob_M => k_is)
    (case ini_M => k_is)
    (case ti_M => k_is)
    (case le_M => k_is)
    (case ce_M => k_is)
    (case no_M => k_is)
    (case su_M => first | kernel_rfl | decide +kernel | rfl)
    (case ve_M => k_is)
    (case se_M => k_is)
    (case cel_M => k_is)
    (case cod_M => k_is)
    (case v2_M => first | rfl | decide +kernel | k_is)
    (case fl_M => first | rfl | decide +kernel | k_is)
    (case em_M => first | kernel_rfl | decide +kernel | rfl)
    (case nGR => first | kernel_rfl | decide +kernel | rfl)
    (case nGS => first | kernel_rfl | decide +kernel | rfl)
    (case nGN => first | kernel_rfl | decide +kernel | rfl)
    (case nGI => first | kernel_rfl | decide +kernel | rfl)
    (case nGM => first | kernel_rfl | decide +kernel | rfl)
    (case ay => k_is)
    (case tp => first | rfl | decide +kernel | k_is)
    (case cg => k_is)
    (case ct => k_is)
    (case a_fromto => k_is)
    (case l_fromto => k_is)
    (case c_fromto => k_is)
    (case k_fromto => k_is)
    (case a_letrs => k_is)
    (case l_letrs => k_is)
    (case c_letrs => k_is)
    (case k_letrs => k_is)
    (case a_signs_ => k_is)
    (case l_signs_ => k_is)
    (case c_signs_ => k_is)
    (case k_signs_ => k_is)
    (case a_chsig => k_is)
    (case l_chsig => k_is)
    (case c_chsig => k_is)
    (case k_chsig => k_is)
    (case a_asteps => k_is)
    (case l_asteps => k_is)
    (case c_asteps => k_is)
    (case k_asteps => k_is)
    (case a_astates => k_is)
    (case l_astates => k_is)
    (case c_astates => k_is)
    (case k_astates => k_is)
    (case a_aansw => k_is)
    (case l_aansw => k_is)
    (case c_aansw => k_is)
    (case k_aansw => k_is)
    (case a_pen => k_is)
    (case l_pen => k_is)
    (case c_pen => k_is)
    (case k_pen => k_is)
    (case a_draw => k_is)
    (case l_draw => k_is)
    (case c_draw => k_is)
    (case k_draw => k_is)
    (case a_pick => k_is)
    (case l_pick => k_is)
    (case c_pick => k_is)
    (case k_pick => k_is)
    (case a_lett => k_is)
    (case l_lett => k_is)
    (case c_lett => k_is)
    (case k_lett => k_is)
    (case a_plan => k_is)
    (case l_plan => k_is)
    (case c_plan => k_is)
    (case k_plan => k_is)
    (case a_hrd => k_is)
    (case l_hrd => k_is)
    (case c_hrd => k_is)
    (case k_hrd => k_is)
    (case a_oddl => k_is)
    (case l_oddl => k_is)
    (case c_oddl => k_is)
    (case k_oddl => k_is)
    (case a_oddt => k_is)
    (case l_oddt => k_is)
    (case c_oddt => k_is)
    (case k_oddt => k_is)
    (case a_oddm => k_is)
    (case l_oddm => k_is)
    (case c_oddm => k_is)
    (case k_oddm => k_is)
    (case a_law => k_is)
    (case l_law => k_is)
    (case c_law => k_is)
    (case k_law => k_is)
    (case a_init => k_is)
    (case i_init => k_is)
    (case l_init => k_is)
    (case c_init => k_is)
    (case k_init => k_is)
    (case pg => k_is)
    (case hd => k_is)
    (case po => k_is)
    (case sa => k_is)
    (case mk => k_is)
    (case kc => k_is)
    (case n1 => k_is)
    (case n2 => k_is)
    (case n3 => k_is)
    (case aL => k_is)
    (case z_len => k_is)
    (case z_int => k_is)
    (case z_abs => k_is)
    (case z_list => k_is)
    (case z_tuple => k_is)
    (case z_range => k_is)
    (case z_repr => k_is)
    (case z_isinstance => k_is)
    (case z_all => k_is)
    (case z_set => k_is)
    (case z_bool => k_is)
    (case z_str => k_is)
    (case z_super => k_is)
#print axioms PySem.Challenge.cw_rowgames_k18_machines_refused_holds
