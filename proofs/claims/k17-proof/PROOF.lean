import PyProof.Rows.All
import Wide.All
import OpenK.AllK
import Wide.FinOn
import HandS.ForMost
import HandS.Defaults
import HandS.MakeKwOnly
import HandS.Property
import HandS.Strs
import PyProof.StrWalks
import HandS.EndBits
import PyProof.ReprRoads
import HandS.Walk
import HandS.StrMore
import HandS.RaiseOp
import HandS.Codes
import HandS.IsInst
import PySem.Challenge.RW_rowgames_k17_machines_made
import HandS.WordsExc
import PyProof.ReprLen
set_option Elab.async false
set_option maxRecDepth 100000
/-! Rules of my own over the hand layer: what a class of one's own says of len, [ ], in; a method called by keywords alone. -/
namespace Rg
open PySem L2 PySem.Spec PyProof.Rows
theorem rvRef (a : Addr) : RelV (.ref a) (Value.ref a) := rfl
section
variable {X : Cx} {CX : CXT} {k : Nat} {C f : Addr} {fd : FuncData} {ps : List Str} {sp : Sp} {E : XK} {pins : List (Addr × Obj)} {σ : L2.St} {H : Hp} {s : Shared}

/-- a def of the text, run one step further in -/
theorem runIn {Q : VK} {us : List Value} {vs : List V} (F : FnOk X.prog X.w X.K X.mg X.base CX k f fd ps sp) (room : Room (k + 1) X.A) (bd : Binds X.K fd ps []) (ex : Passes CX X E)
    (I : Inv X pins σ H s) (r : Vals vs us) (want : sp vs H Q E) : wpAny (model X.prog X.w) X.A.in1 (call (.ref f) us) (EP X pins σ Q) X.xe s := by
  have len : us.length = ps.length := r.length.symm.trans (F.len _ _ _ _ want)
  have bt : BindsTo s fd ⟨us, []⟩ (ps.zip us) := by
    have z := bd s us I.kIn (by rw [List.append_nil]; exact len)
    rw [List.append_nil] at z
    exact z
  refine wpAny_call (codeAny_mono (F.run X.A.in1 X.stack s H ⟨us, []⟩ us vs Q E room.in1 I.env0.in1 bt r want) fun res s' got => ?_)
  rcases res with e | fl
  · exact ex pins σ H s e s' I got
  · cases fl <;> first | exact I.after got | exact False.elim got

/-- the instance at a, as the walk's lemmas want it -/
theorem instAt {a dx : Addr} {fs : List (Str × V)} (I : Inv X pins σ H s) (e : H a = some (.ins C dx fs)) : ∃ od, PySem.W.InstAt s.heap a (PySem.W.instObj C dx) C od := by
  obtain ⟨mA, O, _⟩ := ins_get I.hok e
  obtain ⟨od, J, _⟩ := O.look
  exact ⟨od, J⟩

/-- len(o) -/
def rLen (C : Addr) (sp : Sp) (E : XK) : List V → Hp → VK → Prop := fun xs H Q => ∃ a dx fs, xs = [.ref a] ∧ H a = some (.ins C dx fs) ∧ sp [.ref a] H (fun v H' => ∃ n : Int, v = .int n ∧ 0 ≤ n ∧ n < 2 ^ 63 ∧ Q (.int n) H') E
theorem cr_len (F : FnOk X.prog X.w X.K X.mg X.base CX k f fd ps sp) (room : Room (k + 1) X.A) (bd : Binds X.K fd ps []) (ex : Passes CX X E)
    (at_ : PySem.W.findIn X.K (.ref C) "__len__" = some (some (.ref f))) (fn : PySem.W.isFn X.K (.ref f) = true) : CallR X (.builtin "len") (rLen C sp E) := by
  rintro pins s σ H xs us Q I r ⟨a, dx, fs, rfl, e, want⟩
  obtain ⟨od, J⟩ := instAt I e
  obtain ⟨m, fr⟩ := I.fr
  cases r with
  | cons r0 r1 =>
    cases r1
    cases r0
    refine PySem.W.len_K fr I.ok.mod.kin J at_ fn (thn (runIn F room bd ex I (.cons (rvRef a) .nil) want) ?_)
    rintro u s' ⟨v, H', I', rv, n, rfl, n0, n1, q⟩
    obtain ⟨t, rfl⟩ := rv
    exact ⟨⟨n0, n1⟩, .int n, H', I'.tok _, ⟨_, rfl⟩, q⟩

/-- o[i] -/
def rItem (C : Addr) (sp : Sp) (E : XK) : R2 := fun x y H Q => ∃ a dx fs, x = .ref a ∧ H a = some (.ins C dx fs) ∧ sp [x, y] H Q E
theorem pe_item {a b : Expr} {ta tb : TE} {pos : Pos} (F : FnOk X.prog X.w X.K X.mg X.base CX k f fd ps sp) (room : Room (k + 1) X.A) (bd : Binds X.K fd ps []) (ex : Passes CX X E)
    (at_ : PySem.W.findIn X.K (.ref C) "__getitem__" = some (some (.ref f))) (fi : PySem.W.fnIn X.K f = true) (fn : PySem.W.isFn X.K (.ref f) = true) (ha : PE X a ta) (hb : PE X b tb)
    (hs : ∀ o i, subscripted b true o i = runValue (.builtin "lifetime.subscript" ⟨[o, i], []⟩) := by intro _ _; with_unfolding_all rfl) : PE X (.Subscript a b pos) (tOp (rItem C sp E) ta tb) := by
  refine ⟨fun pins s σ H Q I h => Subscript_ (binT ha hb I h ?_)⟩
  rintro v u s2 x y H2 I2 rx ry ⟨o, dx, fs, rfl, e, want⟩
  obtain rfl : v = Value.ref o := rx
  obtain ⟨od, J⟩ := instAt I2 e
  obtain ⟨m, fr⟩ := I2.fr
  exact PySem.W.sub_K fr I2.ok.mod.kin J at_ fi fn (runIn F room bd ex I2 (.cons (rvRef o) (.cons ry .nil)) want) (hs _ _)

/-- x in o, x not in o -/
def rHas (neg : Bool) (C : Addr) (sp : Sp) (E : XK) : R2 := fun x y H Q => ∃ a dx fs, y = .ref a ∧ H a = some (.ins C dx fs) ∧ sp [y, x] H (fun v H' => ∃ b, v = .bl b ∧ Q (.bl (if neg then !b else b)) H') E
theorem op_has (F : FnOk X.prog X.w X.K X.mg X.base CX k f fd ps sp) (room : Room k X.A) (bd : Binds X.K fd ps []) (ex : Passes CX X E)
    (at_ : PySem.W.findIn X.K (.ref C) "__contains__" = some (some (.ref f))) (fn : PySem.W.isFn X.K (.ref f) = true) : OpR X (compareOp .In) (rHas false C sp E) := by
  rintro pins s σ H x y v u Q I rx ry ⟨a, dx, fs, rfl, e, want⟩
  obtain rfl : u = Value.ref a := ry
  obtain ⟨od, J⟩ := instAt I e
  obtain ⟨m, fr⟩ := I.fr
  refine PySem.W.in_K fr I.ok.mod.kin J at_ fn (thn (run_fn (ds := []) (dvs := []) F room bd .nil ex I (.cons (rvRef a) (.cons rx .nil)) want) ?_)
  rintro z s' ⟨v', H', I', rv, b, rfl, q⟩
  obtain rfl : z = Value.bool b := rv
  exact wpAny_truthy_bool ⟨.bl b, H', I', rfl, q⟩
theorem op_hasnt (F : FnOk X.prog X.w X.K X.mg X.base CX k f fd ps sp) (room : Room k X.A) (bd : Binds X.K fd ps []) (ex : Passes CX X E)
    (at_ : PySem.W.findIn X.K (.ref C) "__contains__" = some (some (.ref f))) (fn : PySem.W.isFn X.K (.ref f) = true) : OpR X (compareOp .NotIn) (rHas true C sp E) := by
  rintro pins s σ H x y v u Q I rx ry ⟨a, dx, fs, rfl, e, want⟩
  obtain rfl : u = Value.ref a := ry
  obtain ⟨od, J⟩ := instAt I e
  obtain ⟨m, fr⟩ := I.fr
  refine PySem.W.notIn_K fr I.ok.mod.kin J at_ fn (thn (run_fn (ds := []) (dvs := []) F room bd .nil ex I (.cons (rvRef a) (.cons rx .nil)) want) ?_)
  rintro z s' ⟨v', H', I', rv, b, rfl, q⟩
  obtain rfl : z = Value.bool b := rv
  exact wpAny_truthy_bool ⟨.bl (!b), H', I', rfl, q⟩

/-- o.m(k = v, ..), no value by place -/
def tMethK (C : Addr) (m : Str) (sp : Sp) (gV : List V → List V → List V) (n : Nat) (E : XK) (ta : TE) (tk : TA) : TE := fun σ H Q => ta σ H fun x H1 => ∃ a dx fs, x = .ref a ∧ H1 a = some (.ins C dx fs) ∧ fs.lookup m = none ∧
  tk σ H1 fun zs H2 => zs.length = n ∧ sp (gV [x] zs) H2 Q E
theorem pe_methK {pl : Sem Bool} {o : Expr} {m : Str} {kws : List Keyword} {ks : List Str} {ta : TE} {tk : TA} {pos apos : Pos} {g : List Value → List Value → List Value} {gV : List V → List V → List V}
    (he : PE X o ta) (c : Cls X.K C) (hm : Meth X.K C m f) (F : FnOk X.prog X.w X.K X.mg X.base CX k f fd ps sp) (room : Room k X.A) (kb : KBn X.K fd ps 1 ks g gV) (ex : Passes CX X E) (hk : PK X kws tk)
    (hall : (backToKw pos (keywordEach kws X.env)).all (·.1.isSome) = true := by rfl) (hks : (backToKw pos (keywordEach kws X.env)).filterMap (·.1) = ks := by rfl)
    (hpl : ((backTo pos (starEach [] X.env)).any (·.1) || (backToKw pos (keywordEach kws X.env)).any (·.1.isNone)) = false := by rfl)
    (ht : eval (.Call (.Attribute o m apos) [] kws pos) X.env = (do
      let ov ← eval o X.env
      standAt apos.atName
      let (f, first) ← holding [ov] (getMethod ov m pl)
      callWith pos f first (backTo pos (starEach [] X.env)) (backToKw pos (keywordEach kws X.env))) := by rfl) :
    PE X (.Call (.Attribute o m apos) [] kws pos) (tMethK C m sp gV ks.length E ta tk) := by
  refine ⟨fun pins s σ H Q I h => PySem.W.methodCall_KW (pl := pl) (thn (he.run pins s σ H _ I h) ?_) ht⟩
  rintro u s1 ⟨x, H1, I1, rx, a, dx, fs, rfl, e, no, q⟩
  obtain rfl : u = Value.ref a := rx
  refine getmeth_ok I1 e c hm no (PySem.W.callWith_KW0 (first := [.ref a]) (h₀ := X.base) I1.ok.mod.kin hm.kp hall (thn (hk.run pos pins s1 σ H1 _ I1 q) ?_) hpl)
  rintro ws s2 ⟨zs, H2, I2, rz, lz, want⟩
  refine ⟨I2.kIn, ?_⟩
  rw [hks]
  have lw : ws.length = ks.length := rz.length.symm.trans lz
  have rr : Vals (gV [V.ref a] zs) (g [Value.ref a] ws) := kb.rel (.cons (rvRef a) .nil) rz
  refine wpAny_call (codeAny_mono (F.run X.A X.stack s2 H2 ⟨[.ref a], ks.zip ws⟩ (g [.ref a] ws) (gV [.ref a] zs) Q E room I2.env0 (kb.to s2 [.ref a] ws I2.kIn rfl lw) rr want) fun res s' got => ?_)
  rcases res with er | fl
  · exact ex pins σ H2 s2 er s' I2 got
  · cases fl <;> first | exact I2.after got | exact False.elim got
end
end Rg
set_option Elab.async false
set_option maxRecDepth 100000
/-! len(set(text)) where no sign stands twice. -/
namespace Rg
open PySem L2 PySem.Spec PyProof.Rows
section
variable {prog : Program} {w : World} {A : Around}
/-- the signs of a text, each a text -/
def signs (x : Str) : List Str := x.cps.toList.map fun c => ⟨#[c]⟩
theorem signs_len (x : Str) : (signs x).length = x.cps.size := by unfold signs; simp
theorem signAt {x : Str} {i : Nat} {v : Value} (h : SignAt x i v) : ∃ z t, (signs x)[i]? = some z ∧ v = .str z t := by
  obtain ⟨c, u, e, rfl⟩ := h
  refine ⟨⟨#[c]⟩, u, ?_, rfl⟩
  unfold signs
  rw [List.getElem?_map, Array.getElem?_toList, e] <;> rfl
theorem take_has {zs : List Str} {i : Nat} {z : Str} (e : zs[i]? = some z) (k : Str) : ((zs.take i).any (· == k) || decide (k = z)) = (zs.take (i + 1)).any (· == k) := by
  rw [List.take_add_one, e, List.any_append]
  congr 1
  by_cases h : k = z
  · subst h; simp
  · have h' : (z == k) = false := by simpa using fun q : z = k => h q.symm
    simp [h, h']
theorem take_no {zs : List Str} {i : Nat} {z : Str} (nd : zs.Nodup) (e : zs[i]? = some z) : (zs.take i).any (· == z) = false := by
  rw [Bool.eq_false_iff]
  intro q
  obtain ⟨y, hy, ey⟩ := List.any_eq_true.mp q
  have : y = z := by simpa using ey
  subst this
  obtain ⟨j, hj, ej⟩ := List.getElem_of_mem hy
  rw [List.length_take] at hj
  obtain ⟨hi, ei⟩ := List.getElem?_eq_some_iff.mp e
  rw [List.getElem_take] at ej
  exact absurd (ej.trans ei.symm) (List.pairwise_iff_getElem.mp nd j i (by omega) hi (by omega))

/-- the loop of set(..) over a walk that hands out the texts zs -/
theorem fill {R : Result → Shared → Prop} {it S : Addr} {fp wr : List Addr} {G : Array GenState → Array GenState → Prop} {n : Nat} {P : Nat → Value → Prop} {St : Nat → Shared → Prop}
    (W : WalksS prog w A.in1 it fp wr G n P St) (far : S ∉ fp) (zs : List Str) (nd : zs.Nodup) (zn : zs.length = n) (few : n + 1 < scanBound) (val : ∀ i v, P i v → ∃ z t, zs[i]? = some z ∧ v = .str z t) (j : Nat) :
    ∀ (i : Nat) (s : Shared), i + j = n → St i s → s.heap.SetOf (PySem.strKind prog w) S (fun k => (zs.take i).any (· == k)) i →
      (∀ s', Moved (S :: wr) G s s' → s'.heap.SetOf (PySem.strKind prog w) S (fun k => (zs.take n).any (· == k)) n → R (.ok (.ret .none)) s') →
      codeAny (model prog w) A (.builtin "set.update.loop" ⟨[.ref S, .ref it], []⟩) R s := by
  have far' : S ∉ wr := fun q => far (W.sub _ q)
  have more : ∀ b ∈ wr, b ∈ S :: wr := fun _ q => List.mem_cons_of_mem _ q
  have keepS : ∀ {s s' : Shared} {f : Str → Bool} {m : Nat}, Moved wr G s s' → s.heap.SetOf (PySem.strKind prog w) S f m → s'.heap.SetOf (PySem.strKind prog w) S f m :=
    fun mv ⟨o, es, ep, t, ho, r⟩ => ⟨o, es, ep, t, mv.heap S _ far' ho, r⟩
  induction j with
  | zero =>
    intro i s hi st hS out
    obtain rfl : i = n := by omega
    refine codeAny_builtin PyProof.Rows.F.entry_set_update_loop ?_; rw [Around.under_plainId PyProof.Rows.F.plain_set_update_loop _]
    show wpAny _ A.in1 (pyNext (.ref it) >>= _) _ _ s; refine wpAny_bind (W.done s _ _ st fun s' mv => ?_)
    exact wpAny_pure (out s' (mv.mono more) (keepS mv hS))
  | succ j ih =>
    intro i s hi st hS out
    refine codeAny_builtin PyProof.Rows.F.entry_set_update_loop ?_; rw [Around.under_plainId PyProof.Rows.F.plain_set_update_loop _]
    show wpAny _ A.in1 (pyNext (.ref it) >>= _) _ _ s; refine wpAny_bind (W.item i s _ _ (by omega) st fun v s' hP st' mv => ?_)
    obtain ⟨z, t, ez, rfl⟩ := val i v hP
    have hS' := keepS mv hS
    show wpAny _ A.in1 (holding [Value.str z t] (setAdd S (.str z t)) >>= _) _ _ s'
    refine wpAny_bind (wpAny_holding ?_); unfold setAdd; refine wpAny_holding (wpAny_bind ((PySem.strKind prog w).pyHash (k := z) (strKind_is _ _ _ _) ?_))
    refine wpAny_setAddHashed_of (knd := PySem.strKind prog w) (s := { s' with toks := s'.toks + 1 }) (strKind_is _ _ _ _) rfl hS' (by omega) fun h' same new => ?_
    have new' : h'.SetOf (PySem.strKind prog w) S (fun k => (zs.take (i + 1)).any (· == k)) (i + 1) :=
      SetOf_congr new (fun k => take_has ez k) (by rw [take_no nd ez]; rfl)
    have other : ∀ b, b ≠ S → ∀ o, s'.heap.get? b = some o → h'.get? b = some o := fun b hb o e => (same.2 b hb).trans e
    refine wpAny_pure ⟨plainId_quiet PyProof.Rows.F.plain_set_update_loop _, ih (i + 1) _ (by omega) (W.frame _ s' _ _ st' (Nat.le_succ _) fun b hb o e => other b (fun q => far (q ▸ hb)) o e) new' fun s2 mv2 hS2 => ?_⟩
    exact out s2 (Moved.trans W.gtrans ((mv.mono more).then_heap (Nat.le_succ _) fun b o hb e => other b (fun q => hb (q ▸ List.mem_cons_self)) o e) mv2) hS2
end

section
variable {prog : Program} {w : World} {A : Around} {E : Value → Shared → Prop} {s : Shared}
abbrev bare (led : Bool) : Obj := { cls := .type "set", dict := none, data := .set #[] 0 (.fresh 0 0 led) }
set_option maxHeartbeats 3200000 in
theorem set_text {x : Str} {t : Tok} {Q : Value → Shared → Prop} (calm : A.handled = none) (nd : (signs x).Nodup) (few : x.cps.size + 1 < scanBound)
    (out : ∀ (h' : Heap) (tk : Nat), h'.SetOf (PySem.strKind prog w) s.heap.objs.size (fun k => ((signs x).take x.cps.size).any (· == k)) x.cps.size →
      (∀ b o, s.heap.get? b = some o → h'.get? b = some o) → Q (.ref s.heap.objs.size) { s with heap := h', toks := tk }) :
    wpAny (model prog w) A (call (.type "set") [.str x t]) Q E s := by
  obtain ⟨c, tl, hmro⟩ := PySem.F.called_set.mro
  have hmade := PySem.F.called_set.made
  have hsub := PySem.F.called_set.sub
  refine wpAny_call (codeAny_of_tree ?_); show wpAny _ _ (callAny (.type "set") _) _ _ _
  refine wpAny_pure ⟨Code.quiet_builtin _ (by decide +kernel), codeAny_builtin PySem.F.entry_type_call ?_⟩
  rw [Around.under_plain (weight_type_call_type "set" [.str x t] []) rfl]
  have h1 := PySem.F.called_set.notType
  have h2 := PySem.F.called_set.canCreate
  have hct := PySem.F.typeCall_set_1 (.str x t)
  repeat (any_goals (first | assumption | wp_step))
  refine codeAny_mono (code_set_new_1 (.str x t) (E := E) (Q₁ := fun v s1 => ∃ led : Bool, v = .ref s.heap.objs.size ∧ s1 = { s with heap := s.heap.push (bare led) }) fun led => ⟨led, rfl, rfl⟩) fun r s1 got => ?_
  rcases r with e | fl
  · exact got
  cases fl <;> first | exact got.elim | skip
  obtain ⟨led, rfl, rfl⟩ := got
  have hS : (s.heap.push (bare led)).get? s.heap.objs.size = some (bare led) := Heap.get?_push_size _ rfl
  have hT : Shared.TypeIs { s with heap := s.heap.push (bare led) } (.ref s.heap.objs.size) "set" := ⟨_, hS, rfl⟩
  have hli := PySem.F.called_set.init.lookup
  have hbi := PySem.F.called_set.init.bind (.ref s.heap.objs.size)
  repeat (any_goals (first | assumption | wp_step))
  refine codeAny_mono (codeAny_call_builtin (R := wants (fun r s2 => r = .none ∧ ∃ h' tk, s2 = { s with heap := h', toks := tk } ∧ h'.SetOf (PySem.strKind prog w) s.heap.objs.size (fun k => ((signs x).take x.cps.size).any (· == k)) x.cps.size ∧
      (∀ b o, s.heap.get? b = some o → h'.get? b = some o)) E) PySem.F.called_set.init.plain PySem.F.entry_set_init (check_set_init_1 hT ?_)) fun r2 s2 got2 => ?_
  · have e1 := PySem.F.sub_str_set
    have e2 := PySem.F.sub_str_frozenset
    unfold Builtin.«set.__init__» noKeywords Builtin.Frozenset.updateFrom
    generalize hPI : pyIter = PI
    wp_walk
    subst hPI
    refine wpAny_pyIter_str fun o St W st0 => wpAny_bind (wpAny_runValue ?_)
    have lt : s.heap.objs.size < (s.heap.push (bare led)).objs.size := by rw [Heap.size_push]; exact Nat.lt_succ_self _
    have apart : s.heap.objs.size ∉ [(s.heap.push (bare led)).objs.size] := fun q => absurd (List.mem_singleton.mp q) (Nat.ne_of_lt lt)
    refine fill ((W _ (by simp [calm])).toS) apart (signs x) nd (signs_len x) few (fun i v q => signAt q) x.cps.size 0 _ (Nat.zero_add _) st0 ?_ ?_
    · exact SetOf_congr ((setObjOf_fresh (knd := PySem.strKind prog w) led).setOf (Heap.get?_push_of_some _ hS) (by unfold scanBound; omega)) (fun _ => rfl) rfl
    · rintro ⟨h', g', d', tk', os'⟩ mv hS'
      obtain rfl : g' = s.gens := mv.gens
      obtain rfl : d' = s.drawn := mv.drawn
      obtain rfl : os' = s.os := mv.os
      refine wpAny_pure (wpAny_pure ⟨rfl, h', tk', rfl, hS', fun b o q => ?_⟩)
      have nb : b < s.heap.objs.size := Heap.lt_size q
      refine mv.heap b o ?_ (Heap.get?_push_of_some _ (Heap.get?_push_of_some _ q))
      intro m
      rcases List.mem_cons.mp m with e | m
      · exact absurd e (Nat.ne_of_lt nb)
      · exact absurd (List.mem_singleton.mp m) (Nat.ne_of_lt (Nat.lt_trans nb lt))
  · rcases r2 with e | fl2
    · exact got2
    cases fl2 <;> first | exact got2.elim | skip
    obtain ⟨rfl, h', tk, rfl, hS', keep⟩ := got2
    repeat (any_goals (first | assumption | wp_step))
    exact out _ _ hS' keep
end

section
variable {X : Cx}
/-- len(set(x)), x a text of few signs, none twice -/
def tLenSet (ta : TE) : TE := fun σ H Q => ta σ H fun v H1 => ∃ x : Str, v = .str x ∧ (signs x).Nodup ∧ x.cps.size ≤ 100 ∧ Q (.int x.cps.size) H1
theorem pe_lenSetT {a : Expr} {ta : TE} {p p2 q pos : Pos} (hc : X.calm = true) (g1 : Gl X "len") (m1 : X.mg "len" = none) (g2 : Gl X "set") (m2 : X.mg "set" = none) (ha : PE X a ta)
    (na : starEach [a] X.env = (false, eval a X.env) :: starEach [] X.env := by rfl) : PE X (.Call (.Name "len" p) [.Call (.Name "set" p2) [a] [] q] [] pos) (tLenSet ta) := by
  refine ⟨fun pins s σ H Q I h => Call_ (ld_blt I g1 m1 PySem.boot_len (callWith_builtin1 (args_cons (Call_ (ld_blt I g2 m2 boot_set (callWith_type1 (args_cons (thn (ha.run pins s σ H _ I h) ?_) na) na rfl))) rfl) rfl rfl))⟩
  rintro v s1 ⟨y, H1, I1, r1, x, rfl, nd, few, q1⟩
  obtain ⟨t, rfl⟩ := r1
  refine args_nil (set_text (I1.ok.hd hc) nd (by unfold scanBound; omega) fun h' tk hS keep => args_nil ?_)
  obtain ⟨o, es, ep, tb, ho, hex, hd, _, _, _, hf, hn⟩ := hS
  have I2 : Inv X pins σ H1 { s1 with heap := h', toks := tk } := I1.kept fun b o e => keep b o e
  exact call_len_set ho hex hd hf (by rw [hn]; omega) ⟨.int x.cps.size, H1, I2.tok _, ⟨_, by rw [hn]⟩, q1⟩
end
end Rg
set_option Elab.async false
set_option maxRecDepth 100000
/-! A def that is told that no repr runs around it; repr of data; the law's end with such a def. -/
namespace Rg
open PySem L2 PySem.Spec PyProof.Rows

/-- as FnOk, where nothing guards around the call -/
structure FnG (P : Program) (w : World) (K : PySem.W.Frag) (mg : Str → Option Value) (base : Heap) (CX : CXT) (k : Nat) (f : Addr) (fd : FuncData) (ps : List Str) (sp : Sp) : Prop where
  len : ∀ vs H Q E, sp vs H Q E → vs.length = ps.length
  run : ∀ (A : Around) (outer : List Env) (s : Shared) (H : Hp) (args : Args) (us : List Value) (vs : List V) (Q : VK) (E : XK), A.guards = some [] → Room k A → Env0 P w K mg base A outer s H → BindsTo s fd args (ps.zip us) → Vals vs us → sp vs H Q E →
    codeAny (model P w) A (.call (.ref f) args) (CR CX outer P w H s Q E) s

section
variable {P : Program} {w : World} {K : PySem.W.Frag} {mg : Str → Option Value} {base : Heap}
theorem funG {x qual : Str} {st : Stmt} {f : Addr} {fd : FuncData} {N ps : List Str} {k : Nat} {sp : Sp} (F : Fun K x qual st f fd) (S : FnScope N ps (defScope st)) (len : ∀ vs H Q E, sp vs H Q E → vs.length = ps.length)
    (body : ∀ (cdv : Value) (A : Around) (outer : List Env) (s : Shared) (H : Hp) (vs : List V) (Q : VK) (E : XK), A.guards = some [] → Room k (A.deeper (envOfC qual (defScope st) s.heap.objs.size f cdv)) → sp vs H Q E →
      ∃ t, PSs (cxOf CX0 P w K mg base N qual (defScope st) f cdv A outer s H E).nox (defBody st) t ∧ t { nx := fun _ H' => Q .non H', rt := Q } (start N vs) H) : FnG P w K mg base CX0 (k + 1) f fd ps sp := by
  obtain ⟨oc, od, kV, doc, pm, an, cdv, ct, osl, rfl, lk, hcd⟩ := F.ex
  refine ⟨len, fun A outer s H args us vs Q E hg hr e0 hb r want => ?_⟩
  have there : ∀ b o, base.get? b = some o → s.heap.get? b = some o := fun b o e => (e0.bs b o e).1
  have KX := e0.mod.kin.keeps there
  have kinds : ∀ y ∈ ps.zip us, (defScope st).names.lookup y.1 = some .local ∨ ((defScope st).names.lookup y.1 = some .cell ∧ ((cellsFrom (s.heap.objs.size + 1) (defScope st).names []).lookup y.1).isSome = true) := by
    rintro ⟨n, v⟩ hy
    rcases S.par n (List.of_mem_zip hy).1 with q | q
    · exact Or.inl q
    · exact Or.inr ⟨q, PySem.W.cellsFrom_some _ _ _ (Or.inl q)⟩
  refine codeAny_call_function hr.depth (KX _ _ lk) rfl S.co S.gen rfl (PySem.W.codeRec_of KX hcd) (hb _ _ _ _ (wpAny_newFunctionEnv_cells S.kind kinds ?_))
  intro env he s1 x
  subst he
  obtain ⟨t, ht, q⟩ := body cdv A outer s H vs Q E hg (hr.deeper _) want
  have I : Inv (cxOf CX0 P w K mg base N qual (defScope st) f cdv A outer s H E) [] (start N vs) H s1 := inv_start S hr.hd e0 (len _ _ _ _ want) r x
  refine ⟨(e0.mod.nolimit.keeps there).keeps x.toInCall.keep, codeAny_func (wpAny_mono (ht.nox.run [] s1 (start N vs) H _ I q) ?_ fun _ _ z => z)⟩
  intro fl s2 out
  cases fl with
  | ret u => obtain ⟨v, _, H2, J, rv, q2⟩ := out; exact ⟨v, H2, J.os, J.bare, J.base, J.hok, rv, q2⟩
  | next => obtain ⟨_, H2, J, q2⟩ := out; exact ⟨V.non, H2, J.os, J.bare, J.base, J.hok, rfl, q2⟩
  | brk => obtain ⟨_, _, _, q2⟩ := out; exact q2.elim
  | cont => obtain ⟨_, _, _, q2⟩ := out; exact q2.elim
end

section
variable {X : Cx} {CX : CXT} {k : Nat} {f : Addr} {fd : FuncData} {ps : List Str} {sp : Sp} {E : XK} {x : Str} {p pos : Pos} {e : Expr} {es : List Expr} {t : TA}
/-- f(e, ..), f such a def -/
theorem pe_callG (hg0 : X.A.guards = some []) (F : FnG X.prog X.w X.K X.mg X.base CX k f fd ps sp) (hr : Room k X.A) (hg : Gl X x) (hm : X.mg x = some (.ref f)) (hk : PySem.W.keepIn X.K (.ref f) = true) (bd : Binds X.K fd ps []) (ex : Passes CX X E)
    (ha : PA X (e :: es) t) (hdb : (x == ("__debug__" : Str)) = false := by decide) (he : starEach (e :: es) X.env = (false, eval e X.env) :: starEach es X.env := by rfl) (hpl : (backTo pos (starEach es X.env)).any (·.1) = false := by rfl) :
    PE X (.Call (.Name x p) (e :: es) [] pos) (tCall sp [] E t) := by
  refine ⟨fun pins s σ H Q I h => wpAny_Call_Name_kw (ld_glob I hg hm (PySem.W.callWith_K (h₀ := X.base) I.ok.mod.kin hk (thn (ha.run pos pins s σ H _ I h) ?_) he hpl) hdb)⟩
  rintro us s1 ⟨vs, H1, I1, r, want⟩
  rw [List.append_nil] at want
  refine ⟨I1.kIn, ?_⟩
  have len : us.length = ps.length := r.length.symm.trans (F.len _ _ _ _ want)
  have bt : BindsTo s1 fd ⟨us, []⟩ (ps.zip us) := by
    have z := bd s1 us I1.kIn (by rw [List.append_nil]; exact len)
    rw [List.append_nil] at z
    exact z
  refine wpAny_call (codeAny_mono (F.run X.A X.stack s1 H1 ⟨us, []⟩ us vs Q E hg0 hr I1.env0 bt r want) fun res s' got => ?_)
  rcases res with er | fl
  · exact ex pins σ H1 s1 er s' I1 got
  · cases fl <;> first | exact I1.after got | exact False.elim got
end

/-! ### repr -/
section
/-- how a value of the layer reads as data: no dict, no object of one's own -/
inductive Rp (K : PySem.W.Frag) (H : Hp) : V → PyData → Prop
  | non : Rp K H .non .none
  | bl (b) : Rp K H (.bl b) (.bool b)
  | int (i) : Rp K H (.int i) (.int i)
  | str (x) : Rp K H (.str x) (.str x)
  | lst {a xs ds} : SqL K H a xs → Paired (Rp K H) xs ds → Rp K H (.ref a) (.list ds)
  | tup {a xs ds} : SqT K H a xs → Paired (Rp K H) xs ds → Rp K H (.ref a) (.tuple ds)
variable {X : Cx} {pins : List (Addr × Obj)} {σ : L2.St} {H : Hp} {s : Shared}
mutual
theorem Rp.reads (I : Inv X pins σ H s) : ∀ {v : V} {d : PyData} {u : Value}, Rp X.K H v d → RelV v u → ∃ as, Reads s.heap u d as
  | _, _, _, .non, r => by cases r; exact ⟨_, .none⟩
  | _, _, _, .bl b, r => by cases r; exact ⟨_, .bool b⟩
  | _, _, _, .int i, r => by obtain ⟨t, rfl⟩ := r; exact ⟨_, .int i t⟩
  | _, _, _, .str x, r => by obtain ⟨t, rfl⟩ := r; exact ⟨_, .str x t⟩
  | _, _, _, .lst h all, r => by
    cases r
    obtain ⟨its, rv, ⟨o, n, eo, hc, _, hd⟩, _⟩ := I.list h
    obtain ⟨as, ra⟩ := Rp.readsAll I all rv
    exact ⟨_, .list eo hc hd ra⟩
  | _, _, _, .tup h all, r => by
    cases r
    obtain ⟨its, rv, ⟨o, eo, hc, n, hd⟩, _⟩ := I.tuple h
    obtain ⟨as, ra⟩ := Rp.readsAll I all rv
    exact ⟨_, .tuple eo hc hd ra⟩
theorem Rp.readsAll (I : Inv X pins σ H s) : ∀ {vs : List V} {ds : List PyData} {us : List Value}, Paired (Rp X.K H) vs ds → Vals vs us → ∃ as, ReadsAll s.heap us ds as
  | _, _, _, .nil, .nil => ⟨_, .nil⟩
  | _, _, _, .cons a b, .cons r t => by
    obtain ⟨as, h1⟩ := Rp.reads I a r
    obtain ⟨bs, h2⟩ := Rp.readsAll I b t
    exact ⟨_, .cons h1 h2⟩
end
/-- repr(v), v a list of data -/
def rRepr (K : PySem.W.Frag) : List V → Hp → VK → Prop := fun vs H Q => ∃ a d, vs = [.ref a] ∧ Rp K H (.ref a) d ∧ d.showable = true ∧ d.hasDict = false ∧ d.depth ≤ 20 ∧ d.shown.length ≤ sizeLine ∧ Q (.str d.shown) H
theorem cr_repr (hg : X.A.guards = some []) (hr : Room 0 X.A) : CallR X (.builtin "repr") (rRepr X.K) := by
  rintro pins s σ H xs us Q I r ⟨a, d, rfl, rd, h1, h2, h3, h4, q⟩
  cases r with
  | cons r0 r1 =>
    cases r1
    obtain ⟨as, R⟩ := Rp.reads I rd r0
    cases r0
    refine repr_of_reads' R h1 (fun z => absurd (h2.symm.trans z) Bool.false_ne_true) hg (by have := hr.un; omega) (fun _ _ e => e) (fun h' u tk keep => ?_) h4
    exact ⟨.str d.shown, H, I.kept keep, ⟨u, rfl⟩, q⟩
end

/-! ### the law's end -/
theorem lawG {P : Program} {w : World} {K : PySem.W.Frag} {mg mb : Str → Option Value} {k : Nat} {fa a : Addr} {fd : FuncData} {x : Str} {sp : Sp} {s₁ : Shared} {vs : List Value} {ns : List Int}
    (KX : K.In s₁.heap) (hns : s₁.heap.Ns mainGlobals mg) (hb : s₁.heap.Ns builtinsNs mb) (hbb : ∀ x : Str, x ≠ "__name__" → mb x = bootBuiltins x) (hlim : s₁.heap.NoLimit) (hg : s₁.gens = #[])
    (ha : s₁.heap.get? a = some { cls := .type "list", data := .seq vs.toArray }) (hi : IntsAre vs ns) (hl : ns.length ≤ sizeLine) (hr : Room k callerA)
    (F : ∀ base : Heap, K.In base → base.Ns mainGlobals mg → FnG P w K mg base CX0 k fa fd [x] sp) (bind : ∀ (s : Shared) (u : Value), BindsTo s fd ⟨[u], []⟩ [(x, u)])
    (want : ∀ H : Hp, Only H → SqL K H a (ns.map V.int) → sp [.ref a] H (fun v _ => v = .bl true) fun _ _ _ => False) :
    codeAny (model P w) callerA (.call (.ref fa) ⟨[.ref a], []⟩) (fun r s' => r = .ok (.ret (.bool true)) ∧ OldK s₁.heap s'.heap ∧ s'.os = s₁.os ∧ AllBare s'.gens) s₁ := by
  have rv := vals_ints hi
  have ln := hi.length
  -- H tracks the script at most
  have main : ∀ H : Hp, Only H → SqL K H a (ns.map V.int) → HOk P w H s₁.heap → (∀ b, H b ≠ none → b = a ∧ K.lookup a = none) →
      codeAny (model P w) callerA (.call (.ref fa) ⟨[.ref a], []⟩) (fun r s' => r = .ok (.ret (.bool true)) ∧ OldK s₁.heap s'.heap ∧ s'.os = s₁.os ∧ AllBare s'.gens) s₁ := by
    intro H only seq hok few
    have none_of : ∀ {b : Addr}, ¬ (b = a ∧ K.lookup a = none) → H b = none := fun {b} z => Decidable.by_contra fun q => z (few b q)
    have dicts : ∀ {b : Addr} {m : Str → Option Value}, s₁.heap.Ns b m → (hidT s₁.heap H).Ns b m := by
      rintro b m ⟨o, es, ep, e, d, r⟩
      refine ⟨o, es, ep, hidT_get e (none_of ?_), d, r⟩
      rintro ⟨rfl, _⟩
      cases ha.symm.trans e
      cases d
    have KB : K.In (hidT s₁.heap H) := fun b o e => hidT_get (KX b o e) (none_of (by
      rintro ⟨rfl, z⟩
      cases z.symm.trans e))
    have M : Mod K mg (hidT s₁.heap H) := ⟨KB, dicts hns, ⟨mb, dicts hb, hbb⟩, let ⟨mc, h1, h2⟩ := hlim; ⟨mc, dicts h1, h2⟩⟩
    have none0 : ∀ b, b ∉ frs ([] : List Env) := fun b => by unfold frs; simp
    have e0 : Env0 P w K mg (hidT s₁.heap H) callerA [] s₁ H := ⟨rfl, M, fun b o e => of_hidT e, Nat.le_of_eq (hidT_size _ _), trivial, fun b q => absurd q (none0 b), hok, .of_eq hg⟩
    refine codeAny_mono ((F _ KB (dicts hns)).run callerA [] s₁ H ⟨[.ref a], []⟩ [.ref a] [.ref a] _ _ rfl hr e0 (bind s₁ (.ref a)) (.cons rfl .nil) (want H only seq)) fun r s' got => ?_
    rcases r with er | fl
    · exact False.elim got
    cases fl <;> first | exact False.elim got | skip
    obtain ⟨v, H', os, bare, un, hok', r', q⟩ := got
    subst q
    cases r'
    refine ⟨rfl, OldK.of_keep fun b o e => ?_, os, bare⟩
    rcases only b with z | ⟨ob, xs, z⟩
    · exact un.keep b o e z (none0 b) (by simp)
    · obtain ⟨e1, _⟩ := hok b _ z
      obtain ⟨e2, _⟩ := hok' b _ (un.frzs b ob _ z)
      cases e1.symm.trans e
      exact e2
  cases hk : K.lookup a with
  | some o =>
    have e := KX a o hk
    cases ha.symm.trans e
    exact main (fun _ => none) (fun _ => Or.inl rfl) (Or.inr ⟨_, vs.toArray, _, hk, rfl, rfl, rfl, by rw [List.size_toArray, ln]; exact hl, by simpa using rv⟩) (fun b u z => by cases (show (none : Option HO) = some u from z)) fun b z => absurd rfl z
  | none =>
    let ob : Obj := { cls := .type "list", data := .seq vs.toArray }
    have at_ : ∀ {b : Addr} {u : HO}, (if b = a then some (HO.frz ob (.lst (ns.map V.int))) else none) = some u → b = a ∧ u = HO.frz ob (.lst (ns.map V.int)) := by
      intro b u z
      by_cases q : b = a
      · rw [if_pos q] at z; exact ⟨q, (Option.some.inj z).symm⟩
      · rw [if_neg q] at z; cases z
    refine main (fun b => if b = a then some (.frz ob (.lst (ns.map V.int))) else none) (fun b => ?_) (Or.inl (Or.inr ⟨ob, if_pos rfl⟩)) (fun b u z => ?_) (fun b z => ?_)
    · by_cases q : b = a
      · exact Or.inr ⟨_, _, if_pos q⟩
      · exact Or.inl (if_neg q)
    · obtain ⟨rfl, rfl⟩ := at_ z
      exact ⟨ha, by rw [List.length_map]; exact hl, vs, _, rv, ha⟩
    · cases q : (if b = a then some (HO.frz ob (.lst (ns.map V.int))) else none) with
      | none => exact absurd q z
      | some u => exact ⟨(at_ q).1, hk⟩
theorem walkG {l : PySem.W.OpenLaw} {n k : Nat} {q : Program} {loose : List Str} {XP : (Str → Option Value) → Heap → Prop} {YP : World → Heap → Prop} {d : DefRec} {K : Params → PySem.W.Frag} {sp : World → Sp} {x : Str}
    (hn : l.most = some n) (hn2 : n ≤ sizeLine) (hdf : d.params.defaults = []) (hr : Room k callerA) (hY : ∀ (w : World) (h : Heap), YP w h → (K w.params).In h)
    (F : ∀ (w : World) (mg : Str → Option Value) (fa : Addr) (h : Heap), (K w.params).In h → h.Ns mainGlobals mg → mg d.name = some (.ref fa) →
      ∃ fd : FuncData, (∀ (s : Shared) (u : Value), BindsTo s fd ⟨[u], []⟩ [(x, u)]) ∧ ∀ base : Heap, (K w.params).In base → base.Ns mainGlobals mg → FnG l.prog w (K w.params) mg base CX0 k fa fd [x] (sp w))
    (want : ∀ (w : World) (H : Hp) (a : Addr) (ns : List Int), ns.length ≤ n → (∀ z ∈ ns, Builtin.Int.intBits z ≤ 1048576) → Only H → SqL (K w.params) H a (ns.map V.int) → sp w [.ref a] H (fun v _ => v = .bl true) fun _ _ _ => False) :
    PySem.W.WalkO q loose XP YP l.row.toRowW d [] (fun f vs => PySem.call f vs) := by
  refine Att.attach_callB hn hdf fun w s₀ s₁ mg mb fa o pm cd doc a vs ns G Y ho hd hcd hmg hobj hints hlen hbits hg => ?_
  obtain ⟨fd, hb, hF⟩ := F w mg fa _ (hY w _ Y) G.T.g hmg
  exact lawG (hY w _ Y) G.T.g G.T.b G.T.builtins G.T.nolimit hg hobj hints (Nat.le_trans hlen hn2) hr hF hb fun H only seq => want w H a ns hlen hbits only seq
end Rg
set_option Elab.async false
set_option maxRecDepth 100000
namespace Kx
open PySem L2 PySem.Spec PyProof.Rows Rg
def top (i : Nat) : Stmt := PySem.Challenge.pw_rowgames_k17_machines_made.main.body.getD i (.Pass ⟨0, 0, 0, 0⟩)
abbrev sPen : Stmt := top 43
abbrev sDraw : Stmt := top 44
abbrev sPick : Stmt := top 45

/-! ### heaps that grow, but for the pen -/
def Ext1 (p : Addr) (H H' : Hp) : Prop := ∀ b o, b ≠ p → H b = some o → H' b = some o
theorem Ext1.refl (p : Addr) (H : Hp) : Ext1 p H H := fun _ _ _ e => e
theorem Ext1.trans {p : Addr} {H H1 H2 : Hp} (a : Ext1 p H H1) (b : Ext1 p H1 H2) : Ext1 p H H2 := fun c o n e => b c o n (a c o n e)
theorem Ext1.new {p q : Addr} {H : Hp} {o : HO} (h : H q = none) : Ext1 p H (upd H q o) := fun b u _ e => by rw [upd_ne (ne_of_none e h)]; exact e
theorem Ext1.put {p : Addr} {H : Hp} {o : HO} : Ext1 p H (upd H p o) := fun b u n e => by rw [upd_ne n]; exact e

/-- at p the pen: at most n cells were taken -/
def PenAt (c : Addr) (n : Nat) (H : Hp) (p : Addr) : Prop := ∃ (ns : List Int) (a g : Int), H p = some (.lst [.ref c, .int a, .int g]) ∧ H c = some (.lst (ns.map V.int)) ∧ c ≠ p ∧ ns.length ≤ 63 ∧ 0 ≤ a ∧ a ≤ n
theorem PenAt.mono {c : Addr} {n m : Nat} {H : Hp} {p : Addr} (h : PenAt c n H p) (l : n ≤ m) : PenAt c m H p := by
  obtain ⟨ns, a, g, h1, h2, h3, h4, h5, h6⟩ := h
  exact ⟨ns, a, g, h1, h2, h3, h4, h5, by omega⟩
theorem PenAt.ext {c : Addr} {n : Nat} {H H' : Hp} {p : Addr} (h : PenAt c n H p) (e : ∀ b o, H b = some o → H' b = some o) : PenAt c n H' p := by
  obtain ⟨ns, a, g, h1, h2, h3⟩ := h
  exact ⟨ns, a, g, e _ _ h1, e _ _ h2, h3⟩
theorem PenAt.new {c : Addr} {n : Nat} {H : Hp} {p q : Addr} {o : HO} (h : PenAt c n H p) (f : H q = none) : PenAt c n (upd H q o) p := h.ext fun b u e => by rw [upd_ne (ne_of_none e f)]; exact e

/-! ### what the built-in names are -/
structure Txt (mg : Str → Option Value) : Prop where
  len : mg "len" = none
  int : mg "int" = none
  abs : mg "abs" = none
  list : mg "list" = none
  tuple : mg "tuple" = none
  range : mg "range" = none
  repr : mg "repr" = none
  isi : mg "isinstance" = none
  all : mg "all" = none
  set : mg "set" = none

/-! ### _law_draw -/
def spDraw : Sp := fun vs H Q _ => ∃ (c p : Addr) (m : Int) (n : Nat), vs = [.ref p, .int m] ∧ 0 < m ∧ m < 1000000 ∧ n ≤ 1000000 ∧ PenAt c n H p ∧ ∀ r H', 0 ≤ r → r < m → PenAt c (n + 1) H' p → Ext1 p H H' → Q (.int r) H'

theorem dpInts (K : PySem.W.Frag) (H : Hp) : ∀ ns : List Int, DpAll K H (ns.map V.int) (ns.map PyData.int)
  | [] => .nil
  | n :: r => .cons (.int n) (dpInts K H r)
theorem layInts : ∀ ns : List Int, PyData.canLayAll0 (ns.map PyData.int) = true
  | [] => rfl
  | _ :: r => layInts r
theorem depthInts : ∀ ns : List Int, PyData.depthAll (ns.map PyData.int) = 0
  | [] => rfl
  | _ :: r => by
    show max 0 (PyData.depthAll (r.map PyData.int)) = 0
    rw [depthInts r] <;> rfl
theorem shapedInts (ns : List Int) : SeqAt.shaped (.list (ns.map PyData.int)) = true := by
  show (PyData.canLayAll0 (ns.map PyData.int) && decide (PyData.depthAll (ns.map PyData.int) + 1 ≤ 64)) = true
  rw [layInts, depthInts] <;> rfl
theorem mixed1 {z a c d n : Int} (n0 : 0 < n) (nb : n < 2 ^ 32) (c0 : 0 ≤ c) (cb : c ≤ 100000) (d0 : 0 ≤ d) (db : d ≤ 100000) (a0 : 0 ≤ a) (ab : a ≤ 1000000) : (z % n + c * a + d).natAbs < 2 ^ 64 := by
  have h1 := Int.emod_nonneg z (b := n) (by omega)
  have h2 := Int.emod_lt_of_pos z n0
  have h3 : c * a ≤ 100000 * 1000000 := Int.mul_le_mul cb ab a0 (by omega)
  have h4 : 0 ≤ c * a := Int.mul_nonneg c0 a0
  omega
theorem mixed2 {x a b c d n : Int} (x0 : 0 ≤ x) (xb : x < n) (nb : n < 2 ^ 32) (b0 : 0 ≤ b) (bb : b ≤ 100000) (c0 : 0 ≤ c) (cb : c ≤ 100000) (d0 : 0 ≤ d) (db : d ≤ 100000) (a0 : 0 ≤ a) (ab : a ≤ 1000000) : (x * (2 * a + b) + c * a * a + d).natAbs < 2 ^ 64 := by
  have h1 : x * (2 * a + b) ≤ 2 ^ 32 * 2100000 := Int.mul_le_mul (by omega) (by omega) (by omega) (by omega)
  have h2 : 0 ≤ x * (2 * a + b) := Int.mul_nonneg x0 (by omega)
  have h3 : c * a ≤ 100000 * 1000000 := Int.mul_le_mul cb ab a0 (by omega)
  have h4 : 0 ≤ c * a := Int.mul_nonneg c0 a0
  have h5 : c * a * a ≤ 100000 * 1000000 * 1000000 := Int.mul_le_mul h3 ab a0 (by omega)
  have h6 : 0 ≤ c * a * a := Int.mul_nonneg h4 a0
  omega
theorem atMod {ns : List Int} (a : Int) (pos : 0 < ns.length) : ∃ z, atI (ns.map V.int) (a % (ns.length : Int)) = some (.int z) := by
  have h1 := Int.emod_nonneg a (b := (ns.length : Int)) (by omega)
  have h2 := Int.emod_lt_of_pos a (b := (ns.length : Int)) (by omega)
  generalize a % (ns.length : Int) = j at h1 h2
  have hj : j.toNat < ns.length := by omega
  refine ⟨ns[j.toNat], ?_⟩
  have e : (j.toNat : Int) = j := by omega
  have q : atI (ns.map V.int) ((j.toNat : Nat) : Int) = some (.int ns[j.toNat]) := atI_nat (by simp [hj])
  rw [e] at q
  exact q
theorem eqv_nil (ns : List Int) : PyData.eqv (.list (ns.map PyData.int)) (.list []) = ns.isEmpty := by
  cases ns with
  | nil => rfl
  | cons a t => rfl
section
variable {P : Program} {w : World} {K : PySem.W.Frag} {mg : Str → Option Value} {base : Heap}
theorem scDraw : FnScope ["_law_pen_here", "_law_many", "_law_digit", "_law_at", "_law_cell", "_law_great", "_law_mixed"] ["_law_pen_here", "_law_many"] (defScope sDraw) := ⟨rfl, rfl, rfl, by decide +kernel, rfl, by decide +kernel, by decide +kernel⟩
theorem bLen {X : Cx} {e : Expr} {te : TE} {p pos : Pos} (hg : Gl X "len") (m : X.mg "len" = none) (he : PE X e te) (na : starEach [e] X.env = (false, eval e X.env) :: starEach [] X.env := by rfl) : PE X (.Call (.Name "len" p) [e] [] pos) (tCB (fun xs H Q => ∃ x n, xs = [x] ∧ LenV X.K x H n ∧ Q (.int n) H) (tCons te tNil)) := pe_callB call_len hg m PySem.boot_len (pa_cons he pa_nil na) (he := na)
theorem bInt {X : Cx} {e : Expr} {te : TE} {p pos : Pos} (hg : Gl X "int") (m : X.mg "int" = none) (he : PE X e te) (na : starEach [e] X.env = (false, eval e X.env) :: starEach [] X.env := by rfl) : PE X (.Call (.Name "int" p) [e] [] pos) (tCB (fun xs H Q => (∃ i, xs = [.int i] ∧ Q (.int i) H) ∨ ∃ k, xs = [.bl k] ∧ Q (.int (if k then 1 else 0)) H) (tCons te tNil)) :=
  pe_callTy call_int1 hg m (by decide +kernel) (pa_cons he pa_nil na) (he := na)
theorem bAbs {X : Cx} {e : Expr} {te : TE} {p pos : Pos} (hg : Gl X "abs") (m : X.mg "abs" = none) (he : PE X e te) (na : starEach [e] X.env = (false, eval e X.env) :: starEach [] X.env := by rfl) : PE X (.Call (.Name "abs" p) [e] [] pos) (tCB (fun xs H Q => ∃ i, xs = [.int i] ∧ Q (.int (if i < 0 then -i else i)) H) (tCons te tNil)) :=
  pe_callB call_abs hg m (by decide +kernel) (pa_cons he pa_nil na) (he := na)
theorem bIx {X : Cx} {a b : Expr} {ta tb : TE} {pos : Pos} (ha : PE X a ta) (hb : PE X b tb) (hs : PlainIx b := by intro _ _; rfl) : PE X (.Subscript a b pos) (tOp (rIxL X.K) ta tb) := pe_ix ix_list ha hb hs
theorem ok_draw {f : Addr} {fd : FuncData} (F : Fun K "_law_draw" "_law_draw" sDraw f fd) (T : Txt mg) : FnOk P w K mg base CX0 1 f fd ["_law_pen_here", "_law_many"] spDraw := by
  refine F.ok scDraw (fun vs H Q E h => ?_) (fun cdv A outer s H vs Q E hr h => ?_)
  · obtain ⟨c, p, m, n, rfl, _⟩ := h
    rfl
  · obtain ⟨c, p, m, n, rfl, m0, mb, nb, pen, k⟩ := h
    have nd := scDraw.nd
    refine ⟨_, pss_cons (ps_if (pt_cmpR op_gt (bIx (pv 0) pe_int) pe_int (nomark _))
        (pss_cons (ps_set (i := 2) nd rfl (.inl rfl) (pe_op op_mod (bInt (by rfl) T.int (bIx (pv 0) pe_int)) (pv 1)))
          (pss_cons (ps_asg (pe_op op_fdivN (bInt (by rfl) T.int (bIx (pv 0) pe_int)) (pv 1)) (pg_sub (pv 0) pe_int set_list)) (pss_one (ps_ret (pv 2))))) pss_nil)
      (pss_cons (ps_set (i := 3) nd rfl (.inl rfl) (bIx (pv 0) pe_int))
      (pss_cons (ps_asg (pe_op op_add (pv 3) pe_int) (pg_sub (pv 0) pe_int set_list))
      (pss_cons (ps_set (i := 4) nd rfl (.inl rfl) (pe_op op_add (pe_op op_mul pe_int (pv 3)) pe_int))
      (C8.pss_cut (ps_if (pt_cmpR (op_neD hr.units) (bIx (pv 0) pe_int) (pe_lst pa_nil) (nomark _))
        (pss_one (ps_set (i := 4) nd rfl (.inl rfl) (bIx (bIx (pv 0) pe_int) (pe_op op_mod (bInt (by rfl) T.int (pv 3)) (bLen (by rfl) T.len (bIx (pv 0) pe_int)))))) pss_nil)
      (C8.pss_cut (ps_if (PW.pt (pw_and (pt_cmpR op_lt (pv 3) (bLen (by rfl) T.len (bIx (pv 0) pe_int)) (nomark _)) (pw_and1 (pt_cmpR op_ge (bAbs (by rfl) T.abs (pv 4)) (pe_op op_pow pe_int pe_int) (nomark _)))))
        (pss_cons (ps_set (i := 5) nd rfl (.inl rfl) (pe_op op_add (pe_op op_mul pe_int (pe_op op_sub (bAbs (by rfl) T.abs (pv 4)) (pe_op op_pow pe_int pe_int))) (bInt (by rfl) T.int (pe_cmpR op_lt (pv 4) pe_int (nomark _)))))
          (pss_cons (ps_asg (pe_op op_fdivN (bInt (by rfl) T.int (pv 5)) (pv 1)) (pg_sub (pv 0) pe_int set_list)) (pss_one (ps_ret (pe_op op_mod (bInt (by rfl) T.int (pv 5)) (pv 1)))))) pss_nil)
      (pss_cons (ps_set (i := 6) nd rfl (.inl rfl) (pe_op op_mod (bInt (by rfl) T.int (pe_op op_pow (pe_op op_add (pe_op op_add (pe_op op_mod (bInt (by rfl) T.int (pv 4)) pe_int) (pe_op op_mul pe_int (pv 3))) pe_int) pe_int)) pe_int))
      (pss_cons (ps_set (i := 6) nd rfl (.inl rfl) (pe_op op_mod (bInt (by rfl) T.int (pe_op op_pow (pe_op op_add (pe_op op_add (pe_op op_mul (pv 6) (pe_op op_add (pe_op op_mul pe_int (pv 3)) pe_int)) (pe_op op_mul (pe_op op_mul pe_int (pv 3)) (pv 3))) pe_int) pe_int)) pe_int))
      (pss_one (ps_ret (pe_op op_mod (bInt (by rfl) T.int (pe_op op_fdivN (pv 6) pe_int)) (pv 1))))))))))), ?_⟩
    obtain ⟨ns, a, g, hp, hc, cp, hl, a0, an⟩ := pen
    have md : ∀ x : Int, 0 ≤ x % m ∧ x % m < m := fun x => ⟨Int.emod_nonneg x (by omega), Int.emod_lt_of_pos x m0⟩
    have ms : m ≠ 0 ∧ m.natAbs < 1073741824 := ⟨by omega, by omega⟩
    refine ⟨_, rfl, p, _, 2, _, rfl, rfl, SqL.of hp, rfl, g, 0, rfl, rfl, _, rfl, ite2 (fun hg => ?_) (fun hg => ?_)⟩
    · refine ⟨_, rfl, p, _, 2, _, rfl, rfl, SqL.of hp, rfl, .inl ⟨_, rfl, _, rfl, _, _, rfl, rfl, m0, ?_⟩⟩
      refine ⟨_, rfl, p, _, 2, _, rfl, rfl, SqL.of hp, rfl, .inl ⟨_, rfl, _, rfl, _, _, rfl, rfl, ms, ?_⟩⟩
      refine ⟨_, rfl, p, _, 2, 2, rfl, rfl, hp, rfl, ?_⟩
      refine ⟨_, rfl, k _ _ (md g).1 (md g).2 ⟨ns, a, _, upd_same, ?_, cp, hl, a0, by omega⟩ Ext1.put⟩
      rw [upd_ne cp]; exact hc
    refine ⟨_, rfl, p, _, 1, _, rfl, rfl, SqL.of hp, rfl, ?_⟩
    refine ⟨_, rfl, _, _, rfl, rfl, ?_⟩
    refine ⟨_, rfl, p, _, 1, 1, rfl, rfl, hp, rfl, ?_⟩
    have mul64 : ∀ {x y : Int}, -(2 ^ 64) < x → x < 2 ^ 64 → CMul x y := fun h1 h2 => Or.inl ⟨h1, h2⟩
    generalize hH1 : upd H p (HO.lst ([V.ref c, V.int a, V.int g].set 1 (V.int (a + 1)))) = H1
    have hp1 : H1 p = some (.lst [.ref c, .int (a + 1), .int g]) := by rw [← hH1]; exact upd_same
    have hc1 : H1 c = some (.lst (ns.map V.int)) := by rw [← hH1, upd_ne cp]; exact hc
    have x1 : Ext1 p H H1 := by rw [← hH1]; exact Ext1.put
    refine ⟨_, rfl, _, _, rfl, rfl, mul64 (by decide) (by decide), _, _, rfl, rfl, ?_⟩
    refine ⟨fun σ' H' => ∃ (z : Int) (q : Addr), σ' = [some (.ref p), some (.int m), none, some (.int a), some (.int z), none, none] ∧ H1 q = none ∧ H' = upd H1 q (.lst []), ?_, ?_⟩
    · refine ⟨_, rfl, p, _, 0, _, rfl, rfl, SqL.of hp1, rfl, Nat.zero_le _, fun q hq => ?_⟩
      have cq : c ≠ q := ne_of_none hc1 hq
      have pq : p ≠ q := ne_of_none hp1 hq
      have hc2 : (upd H1 q (.lst [])) c = some (.lst (ns.map V.int)) := by rw [upd_ne cq]; exact hc1
      have hp2 : (upd H1 q (.lst [])) p = some (.lst [.ref c, .int (a + 1), .int g]) := by rw [upd_ne pq]; exact hp1
      refine ⟨.list (ns.map PyData.int), .list [], .lst (SqL.of hc2) (dpInts _ _ ns), .lst (SqL.of upd_same) .nil, shapedInts ns, rfl, _, rfl, ?_⟩
      rw [eqv_nil]
      refine ite2 (fun hne => ?_) (fun _ => ⟨_, q, rfl, hq, rfl⟩)
      have pos : 0 < ns.length := by
        cases ns with
        | nil => exact absurd hne (by decide)
        | cons _ _ => exact Nat.succ_pos _
      obtain ⟨z, hz⟩ := atMod a pos
      refine ⟨_, rfl, p, _, 0, _, rfl, rfl, SqL.of hp2, rfl, _, rfl, .inl ⟨_, rfl, _, rfl, p, _, 0, _, rfl, rfl, SqL.of hp2, rfl, _, _, rfl, .inl ⟨_, SqL.of hc2, rfl⟩, ?_⟩⟩
      refine ⟨_, _, rfl, rfl, by rw [List.length_map]; omega, c, _, _, .int z, rfl, rfl, SqL.of hc2, ?_, z, q, rfl, hq, rfl⟩
      rw [List.length_map]; exact hz
    rintro σ2 H2 ⟨z, q, rfl, hq, rfl⟩
    have cq : c ≠ q := ne_of_none hc1 hq
    have pq : p ≠ q := ne_of_none hp1 hq
    have hc2 : (upd H1 q (.lst [])) c = some (.lst (ns.map V.int)) := by rw [upd_ne cq]; exact hc1
    have hp2 : (upd H1 q (.lst [])) p = some (.lst [.ref c, .int (a + 1), .int g]) := by rw [upd_ne pq]; exact hp1
    have x2 : Ext1 p H (upd H1 q (.lst [])) := x1.trans (Ext1.new hq)
    generalize upd H1 q (.lst []) = H2 at hc2 hp2 x2 ⊢
    have done : ∀ r, 0 ≤ r → r < m → Q (.int r) H2 := fun r r0 r1 => k r H2 r0 r1 ⟨ns, a + 1, g, hp2, hc2, cp, hl, by omega, by omega⟩ x2
    have fin : ∀ y : Int, Q (.int (y % m)) H2 := fun y => done _ (md y).1 (md y).2
    have a1 : a ≤ 1000000 := by omega
    refine ⟨fun σ' H' => σ' = [some (.ref p), some (.int m), none, some (.int a), some (.int z), none, none] ∧ H' = H2, ?_, ?_⟩
    · refine ⟨_, rfl, _, rfl, p, _, 0, _, rfl, rfl, SqL.of hp2, rfl, _, _, rfl, .inl ⟨_, SqL.of hc2, rfl⟩, _, _, rfl, rfl, _, rfl, ite2 (fun _ => ?_) (fun _ => iteF ⟨rfl, rfl⟩)⟩
      refine ⟨_, rfl, z, rfl, _, _, rfl, rfl, ⟨by decide, by decide, by decide⟩, _, _, rfl, rfl, _, rfl, ite2 (fun _ => ?_) (fun _ => ⟨rfl, rfl⟩)⟩
      refine ⟨_, rfl, z, rfl, _, _, rfl, rfl, ⟨by decide, by decide, by decide⟩, _, _, rfl, rfl, _, _, rfl, rfl, mul64 (by decide) (by decide), _, rfl, _, _, rfl, rfl, .inr ⟨_, rfl, _, _, rfl, rfl, ?_⟩⟩
      refine ⟨_, rfl, .inl ⟨_, rfl, _, rfl, _, _, rfl, rfl, ms, _, rfl, p, _, 2, 2, rfl, rfl, hp2, rfl, ?_⟩⟩
      refine ⟨_, rfl, .inl ⟨_, rfl, _, rfl, _, _, rfl, rfl, m0, ?_⟩⟩
      refine k _ _ (md _).1 (md _).2 ⟨ns, a + 1, _, upd_same, ?_, cp, hl, by omega, by omega⟩ (x2.trans Ext1.put)
      rw [upd_ne cp]; exact hc2
    rintro σ3 H3 ⟨rfl, rfl⟩
    refine ⟨_, rfl, .inl ⟨_, rfl, _, _, rfl, rfl, (show (0 : Int) < 2147483563 by decide), _, rfl, _, _, rfl, rfl, mul64 (by decide) (by decide), _, _, rfl, rfl, _, _, rfl, rfl, _, _, rfl, rfl, ⟨by decide, by decide, mixed1 (by decide) (by decide) (by decide) (by decide) (by decide) (by decide) a0 a1⟩, .inl ⟨_, rfl, _, _, rfl, rfl, (show (0 : Int) < 2147483647 by decide), ?_⟩⟩⟩
    have xx : ∀ y : Int, 0 ≤ y % 2147483647 ∧ y % 2147483647 < 2147483647 := fun y => ⟨Int.emod_nonneg _ (by decide), Int.emod_lt_of_pos _ (by decide)⟩
    refine ⟨_, rfl, _, rfl, _, _, rfl, rfl, mul64 (by decide) (by decide), _, _, rfl, rfl, _, _, rfl, rfl, mul64 (Int.lt_of_lt_of_le (by decide) (xx _).1) (Int.lt_trans (xx _).2 (by decide)), _, rfl, _, _, rfl, rfl, mul64 (by decide) (by decide), _, rfl, _, _, rfl, rfl, Or.inr ⟨by omega, by omega⟩, _, _, rfl, rfl, _, _, rfl, rfl, _, _, rfl, rfl,
      ⟨by decide, by decide, mixed2 (xx _).1 (xx _).2 (by decide) (by decide) (by decide) (by decide) (by decide) (by decide) (by decide) a0 a1⟩, .inl ⟨_, rfl, _, _, rfl, rfl, (show (0 : Int) < 2147483549 by decide), ?_⟩⟩
    exact ⟨_, rfl, _, _, rfl, rfl, ⟨by decide, by decide⟩, .inl ⟨_, rfl, _, rfl, _, _, rfl, rfl, m0, fin _⟩⟩
end
end Kx
set_option Elab.async false
set_option maxRecDepth 100000
set_option autoImplicit false
namespace Kx
open PySem L2 PySem.Spec PyProof.Rows Rg
abbrev sFromTo : Stmt := top 10
abbrev sAreLetters : Stmt := top 11
abbrev sAreSigns : Stmt := top 12
abbrev sWrong : Stmt := top 13
abbrev sCheckRow : Stmt := top 14
abbrev sLedOn : Stmt := top 19
abbrev sCheckSigns : Stmt := top 36
abbrev sAreSteps : Stmt := top 38
abbrev sAreStates : Stmt := top 39
abbrev sAreAnswers : Stmt := top 40

/-! ### the texts that are drawn -/
def five : List Str := ["xo", "ox", "a", "abc", "zyxw"]
def abc : Str := "abcdefghijklmnopqrstuvwxyz"
def posn (z : Str) (c : Nat) : Nat := (Txt.index0 z ⟨#[c]⟩).getD 0
theorem five_facts : five.all (fun z => decide (0 < z.length) && decide (z.length ≤ 4) && decide (Txt.stripChars z abc = Str.empty) && decide ((Rg.signs z).Nodup) && z.cps.toList.all fun c => decide (Txt.index0 z ⟨#[c]⟩ = some (posn z c)) && decide (posn z c < z.length)) = true := by decide +kernel
structure Zok (z : Str) : Prop where
  pos : 0 < z.length
  few : z.length ≤ 4
  strip : Txt.stripChars z abc = Str.empty
  nd : (Rg.signs z).Nodup
  ix : ∀ c ∈ z.cps.toList, Txt.index0 z ⟨#[c]⟩ = some (posn z c) ∧ posn z c < z.length
theorem zok {z : Str} (h : z ∈ five) : Zok z := by
  have q := List.all_eq_true.mp five_facts z h
  simp only [Bool.and_eq_true, decide_eq_true_eq, List.all_eq_true] at q
  obtain ⟨⟨⟨⟨a, b⟩, c⟩, d⟩, e⟩ := q
  exact ⟨a, b, c, d, e⟩
theorem len_small {z : Str} (h : z.length ≤ 1000) : z.length ≤ sizeLine := Nat.le_trans h (by decide)
def Word (z w : Str) : Prop := ∀ c ∈ w.cps.toList, c ∈ z.cps.toList

/-! ### the text of a word over the signs loses all its signs -/
theorem take_all (p : Nat → Bool) : ∀ l : List Nat, (∀ c ∈ l, p c = true) → l.takeWhile p = l
  | [], _ => rfl
  | c :: r, h => by
    rw [List.takeWhile_cons, h c List.mem_cons_self, if_pos rfl, take_all p r fun d hd => h d (List.mem_cons_of_mem _ hd)]
theorem strip_word {z w : Str} (h : Word z w) : Txt.lstripChars w z = Str.empty := by
  have e : w.cps.toList.takeWhile z.cps.contains = w.cps.toList := take_all _ _ fun c hc => by
    have q := h c hc
    simpa using q
  have el : w.cps.toList.length = w.length := by simp [Str.length]
  have lo : stripLo z.cps.contains true w = w.length := by unfold stripLo; simp [e, el]
  show Txt.stripBy z.cps.contains true false w = Str.empty
  unfold Txt.stripBy stripSame stripped
  rw [lo]
  have hi : stripHi z.cps.contains false w w.length = w.length := rfl
  rw [hi]
  by_cases q : w.length = 0
  · have e0 : w = Str.empty := by
      obtain ⟨a⟩ := w
      have : a = #[] := Array.eq_empty_of_size_eq_zero q
      subst this; rfl
    subst e0; rfl
  · have f : (w.length == 0) = false := by simpa using q
    rw [f, Bool.false_and, if_neg Bool.false_ne_true]
    show (⟨w.cps.extract w.length w.length⟩ : Str) = Str.empty
    have : w.cps.extract w.length w.length = #[] := by
      simp
      exact Nat.min_le_left _ _
    rw [this]; rfl

/-! ### is_integer, is_from_to -/
def spFromTo : Sp := fun vs H Q _ => ∃ v lo hi : Int, vs = [.int v, .int lo, .int hi] ∧ Q (.bl (decide (lo ≤ v) && decide (v ≤ hi))) H
theorem bIsi {X : Cx} {e c : Expr} {te tc : TE} {p pos : Pos} (hg : Gl X "isinstance") (m : X.mg "isinstance" = none) (he : PE X e te) (hc : PE X c tc) (na : starEach [e, c] X.env = (false, eval e X.env) :: starEach [c] X.env := by rfl)
    (nb : starEach [c] X.env = (false, eval c X.env) :: starEach [] X.env := by rfl) (hpl : (backTo pos (starEach [c] X.env)).any (·.1) = false := by rfl) : PE X (.Call (.Name "isinstance" p) [e, c] [] pos) (tCB (rIsi X.K) (tCons te (tCons tc tNil))) :=
  pe_callB call_isi hg m boot_isinstance (pa_cons he (pa_cons hc pa_nil nb) na) (he := na) (hpl := hpl)
section
variable {P : Program} {w : World} {K : PySem.W.Frag} {mg : Str → Option Value} {base : Heap}
theorem scFromTo : FnScope ["value", "low", "high"] ["value", "low", "high"] (defScope sFromTo) := ⟨rfl, rfl, rfl, by decide +kernel, rfl, by decide +kernel, by decide +kernel⟩
theorem ok_fromTo {f : Addr} {fd : FuncData} (F : Fun K "is_from_to" "is_from_to" sFromTo f fd) (T : Txt mg) (mI : mg "int" = none) (mB : mg "bool" = none) :
    FnOk P w K mg base CX0 2 f fd ["value", "low", "high"] spFromTo := by
  refine F.ok scFromTo (fun vs H Q E h => ?_) (fun cdv A outer s H vs Q E hr h => ?_)
  · obtain ⟨v, lo, hi, rfl, _⟩ := h
    rfl
  · obtain ⟨v, lo, hi, rfl, k⟩ := h
    refine ⟨_, pss_one (ps_ret (pe_and (bIsi (by rfl) T.isi (pv 0) (pe_bltn (v := .ty "int") (by rfl) mI (by decide +kernel) rfl)) (pe_and (pe_not (bIsi (by rfl) T.isi (pv 0) (pe_bltn (v := .ty "bool") (by rfl) mB (by decide +kernel) rfl))) (pe_one (pe_chain op_le op_le (pv 1) (pv 0) (pv 2)))))), ?_⟩
    refine ⟨_, rfl, .int v, .ty "int", _, _, true, rfl, .ty "int", .base (.int v), kit_ty (by decide +kernel), true, rfl, iteT ⟨_, rfl, .int v, .ty "bool", _, _, false, rfl, .ty "bool", .base (.int v), kit_ty (by decide +kernel), false, rfl, true, rfl, iteT ⟨_, rfl, _, rfl, _, _, rfl, rfl, _, rfl, ?_⟩⟩⟩
    by_cases h : lo ≤ v
    · rw [if_pos (decide_eq_true h)]
      refine ⟨_, rfl, _, _, rfl, rfl, ?_⟩
      rw [decide_eq_true h, Bool.true_and] at k
      exact k
    · rw [if_neg (by simpa using h)]
      rw [decide_eq_false h, Bool.false_and] at k
      exact k

/-! ### are_letters, are_signs, check_signs -/
def spAreLetters : Sp := fun vs H Q _ => ∃ z : Str, vs = [.str z, .int 1, .int 4] ∧ Zok z ∧ Q (.bl true) H
theorem scAreLetters : FnScope ["value", "least", "most"] ["value", "least", "most"] (defScope sAreLetters) := ⟨rfl, rfl, rfl, by decide +kernel, rfl, by decide +kernel, by decide +kernel⟩
theorem ok_areLetters {f : Addr} {fd : FuncData} (F : Fun K "are_letters" "are_letters" sAreLetters f fd) (T : Txt mg) (mS : mg "str" = none) {tk : Tok} (mL : mg "LETTERS" = some (.str abc tk)) : FnOk P w K mg base CX0 1 f fd ["value", "least", "most"] spAreLetters := by
  refine F.ok scAreLetters (fun vs H Q E h => ?_) (fun cdv A outer s H vs Q E hr h => ?_)
  · obtain ⟨z, rfl, _⟩ := h
    rfl
  · obtain ⟨z, rfl, zk, k⟩ := h
    have l1 := zk.pos
    have l2 := zk.few
    refine ⟨_, pss_one (ps_ret (pe_and (bIsi (by rfl) T.isi (pv 0) (pe_bltn (v := .ty "str") (by rfl) mS (by decide +kernel) rfl)) (pe_and (pe_chain op_le op_le (pv 1) (bLen (by rfl) T.len (pv 0)) (pv 2))
      (pe_one (pe_cmpR op_eq (pe_bm PySem.F.plainAttrs_str PySem.F.slot_str_strip PySem.F.type_str_strip mt_stripChars (pv 0) (pa_cons (pe_glob (v := .str abc) (by rfl) mL ⟨_, rfl⟩) pa_nil)) pe_str (nomark _)))))), ?_⟩
    refine ⟨_, rfl, .str z, .ty "str", _, _, true, rfl, .ty "str", .base (.str z), kit_ty (by decide +kernel), true, rfl, iteT ?_⟩
    refine ⟨_, rfl, _, rfl, _, z.length, rfl, ⟨len_small (by omega), rfl⟩, _, _, rfl, rfl, _, rfl, ?_⟩
    rw [if_pos (decide_eq_true (by omega))]
    refine ⟨_, rfl, _, _, rfl, rfl, _, rfl, ?_⟩
    rw [if_pos (decide_eq_true (by omega))]
    refine ⟨_, rfl, rfl, z, abc, rfl, rfl, len_small (by omega), ?_⟩
    rw [zk.strip]
    exact ⟨rfl, k⟩
def spAreSigns : Sp := fun vs H Q _ => ∃ z : Str, vs = [.str z] ∧ Zok z ∧ Q (.bl true) H
theorem scAreSigns : FnScope ["value"] ["value"] (defScope sAreSigns) := ⟨rfl, rfl, rfl, by decide +kernel, rfl, by decide +kernel, by decide +kernel⟩
theorem ok_areSigns {f f1 : Addr} {fd fd1 : FuncData} (F : Fun K "are_signs" "are_signs" sAreSigns f fd) (T : Txt mg) (G : FnOk P w K mg base CX0 1 f1 fd1 ["value", "least", "most"] spAreLetters) (m1 : mg "are_letters" = some (.ref f1)) (k1 : PySem.W.keepIn K (.ref f1) = true)
    (b1 : Binds K fd1 ["value", "least", "most"] []) : FnOk P w K mg base CX0 2 f fd ["value"] spAreSigns := by
  refine F.ok scAreSigns (fun vs H Q E h => ?_) (fun cdv A outer s H vs Q E hr h => ?_)
  · obtain ⟨z, rfl, _⟩ := h
    rfl
  · obtain ⟨z, rfl, zk, k⟩ := h
    have l2 := zk.few
    refine ⟨_, pss_one (ps_ret (pe_and (pe_call G hr (by rfl) m1 k1 b1 .nil pass0 (pa_cons (pv 0) (pa_cons pe_int (pa_cons pe_int pa_nil)))) (pe_one (pe_cmpR op_eq (pe_lenSetT rfl (by rfl) T.len (by rfl) T.set (pv 0)) (bLen (by rfl) T.len (pv 0)) (nomark _))))), ?_⟩
    refine ⟨_, rfl, z, rfl, zk, true, rfl, iteT ⟨_, rfl, z, rfl, zk.nd, by have : z.cps.size = z.length := rfl; omega, _, rfl, _, z.length, rfl, ⟨len_small (by omega), rfl⟩, rfl, ?_⟩⟩
    rw [show decide (V.int (z.cps.size : Int) = V.int (z.length : Int)) = true from decide_eq_true rfl]
    exact k
def spUnit (R : List V → Hp → Prop) : Sp := fun vs H Q _ => R vs H ∧ Q .non H
def spCheckSigns : Sp := fun vs H Q _ => ∃ z : Str, vs = [.str z] ∧ Zok z ∧ Q .non H
theorem scCheckSigns : FnScope ["value"] ["value"] (defScope sCheckSigns) := ⟨rfl, rfl, rfl, by decide +kernel, rfl, by decide +kernel, by decide +kernel⟩
theorem ok_checkSigns {f f1 : Addr} {fd fd1 : FuncData} (F : Fun K "check_signs" "check_signs" sCheckSigns f fd) (G : FnOk P w K mg base CX0 2 f1 fd1 ["value"] spAreSigns) (m1 : mg "are_signs" = some (.ref f1)) (k1 : PySem.W.keepIn K (.ref f1) = true)
    (b1 : Binds K fd1 ["value"] []) : FnOk P w K mg base CX0 3 f fd ["value"] spCheckSigns := by
  refine F.ok scCheckSigns (fun vs H Q E h => ?_) (fun cdv A outer s H vs Q E hr h => ?_)
  · obtain ⟨z, rfl, _⟩ := h
    rfl
  · obtain ⟨z, rfl, zk, k⟩ := h
    refine ⟨_, pss_one (ps_if (pt_not (pt_val (pe_call G hr (by rfl) m1 k1 b1 .nil pass0 (pa_cons (pv 0) pa_nil)))) (pss_one ps_never) pss_nil), ?_⟩
    exact ⟨_, rfl, z, rfl, zk, true, rfl, iteF k⟩

/-! ### wrong_at, check_row -/
def spWrong : Sp := fun vs H Q _ => ∃ z wd : Str, vs = [.str z, .str wd] ∧ Word z wd ∧ wd.length ≤ 1000 ∧ Q .non H
theorem scWrong : FnScope ["signs", "value", "rest"] ["signs", "value"] (defScope sWrong) := ⟨rfl, rfl, rfl, by decide +kernel, rfl, by decide +kernel, by decide +kernel⟩
theorem ok_wrong {f : Addr} {fd : FuncData} (F : Fun K "wrong_at" "wrong_at" sWrong f fd) (T : Txt mg) (mS : mg "str" = none) : FnOk P w K mg base CX0 1 f fd ["signs", "value"] spWrong := by
  refine F.ok scWrong (fun vs H Q E h => ?_) (fun cdv A outer s H vs Q E hr h => ?_)
  · obtain ⟨z, wd, rfl, _⟩ := h
    rfl
  · obtain ⟨z, wd, rfl, hw, hl, k⟩ := h
    have nd := scWrong.nd
    refine ⟨_, pss_cons (ps_if (pt_not (pt_val (bIsi (by rfl) T.isi (pv 1) (pe_bltn (v := .ty "str") (by rfl) mS (by decide +kernel) rfl)))) (pss_one (ps_ret pe_int)) pss_nil)
      (pss_cons (ps_set (i := 2) nd rfl (.inl rfl) (pe_bm PySem.F.plainAttrs_str PySem.F.slot_str_lstrip PySem.F.type_str_lstrip mt_lstripChars (pv 1) (pa_cons (pv 0) pa_nil)))
      (pss_cons (ps_if (pt_cmpR op_eq (pv 2) pe_str (nomark _)) (pss_one (ps_ret pe_non)) pss_nil) (pss_one ps_never))), ?_⟩
    refine ⟨_, rfl, .str wd, .ty "str", _, _, true, rfl, .ty "str", .base (.str wd), kit_ty (by decide +kernel), true, rfl, iteF ?_⟩
    refine ⟨_, rfl, rfl, _, rfl, wd, z, rfl, rfl, len_small hl, ?_⟩
    rw [strip_word hw]
    exact ⟨_, rfl, rfl, _, rfl, iteT k⟩
theorem scCheckRow : FnScope ["signs", "value", "at"] ["signs", "value"] (defScope sCheckRow) := ⟨rfl, rfl, rfl, by decide +kernel, rfl, by decide +kernel, by decide +kernel⟩
theorem ok_checkRow {f f1 : Addr} {fd fd1 : FuncData} (F : Fun K "check_row" "check_row" sCheckRow f fd) (G : FnOk P w K mg base CX0 1 f1 fd1 ["signs", "value"] spWrong) (m1 : mg "wrong_at" = some (.ref f1)) (k1 : PySem.W.keepIn K (.ref f1) = true)
    (b1 : Binds K fd1 ["signs", "value"] []) : FnOk P w K mg base CX0 2 f fd ["signs", "value"] spWrong := by
  refine F.ok scCheckRow (fun vs H Q E h => ?_) (fun cdv A outer s H vs Q E hr h => ?_)
  · obtain ⟨z, wd, rfl, _⟩ := h
    rfl
  · obtain ⟨z, wd, rfl, hw, hl, k⟩ := h
    have nd := scCheckRow.nd
    refine ⟨_, pss_cons (ps_set (i := 2) nd rfl (.inl rfl) (pe_call G hr (by rfl) m1 k1 b1 .nil pass0 (pa_cons (pv 0) (pa_cons (pv 1) pa_nil)))) (pss_one (ps_if (pt_cmp (pc_notN (pv 2))) (pss_one ps_never) pss_nil)), ?_⟩
    exact ⟨_, rfl, _, rfl, z, wd, rfl, hw, hl, _, rfl, _, rfl, iteF k⟩
end
end Kx
set_option Elab.async false
set_option maxRecDepth 100000
set_option autoImplicit false
namespace Kx
open PySem L2 PySem.Spec PyProof.Rows Rg
/-! ### led_on -/
def stepZ (z : Str) (tb : List (List Int)) (s : Int) (c : Nat) : Int := (tb.getD s.toNat []).getD (posn z c) 0
def runZ (z : Str) (tb : List (List Int)) (s : Int) (wd : List Nat) : Int := wd.foldl (stepZ z tb) s
structure Tab (z : Str) (tb : List (List Int)) : Prop where
  pos : 0 < tb.length
  few : tb.length ≤ 8
  row : ∀ r ∈ tb, r.length = z.length ∧ ∀ v ∈ r, 0 ≤ v ∧ v < tb.length
theorem Tab.at_ {z : Str} {tb : List (List Int)} (T : Tab z tb) {i : Nat} (h : i < tb.length) : (tb.getD i []).length = z.length ∧ ∀ v ∈ tb.getD i [], 0 ≤ v ∧ v < tb.length := by
  rw [List.getD_eq_getElem?_getD, List.getElem?_eq_getElem h]
  exact T.row _ (List.getElem_mem h)
theorem stepZ_ok {z : Str} {tb : List (List Int)} (Z : Zok z) (T : Tab z tb) {s : Int} (s0 : 0 ≤ s) (s1 : s < tb.length) {c : Nat} (hc : c ∈ z.cps.toList) : 0 ≤ stepZ z tb s c ∧ stepZ z tb s c < tb.length := by
  have hs : s.toNat < tb.length := by omega
  obtain ⟨hl, hv⟩ := T.at_ hs
  have hp : posn z c < (tb.getD s.toNat []).length := by rw [hl]; exact (Z.ix c hc).2
  unfold stepZ
  rw [List.getD_eq_getElem?_getD (i := posn z c), List.getElem?_eq_getElem hp]
  exact hv _ (List.getElem_mem hp)
theorem runZ_ok {z : Str} {tb : List (List Int)} (Z : Zok z) (T : Tab z tb) : ∀ (wd : List Nat) {s : Int}, 0 ≤ s → s < tb.length → (∀ c ∈ wd, c ∈ z.cps.toList) → 0 ≤ runZ z tb s wd ∧ runZ z tb s wd < tb.length
  | [], _, s0, s1, _ => ⟨s0, s1⟩
  | c :: r, s, s0, s1, h => by
    have q := stepZ_ok Z T s0 s1 (h c List.mem_cons_self)
    exact runZ_ok Z T r q.1 q.2 fun d hd => h d (List.mem_cons_of_mem _ hd)
theorem runZ_take {z : Str} {tb : List (List Int)} {s : Int} {wd : List Nat} {i : Nat} {c : Nat} (h : wd[i]? = some c) : runZ z tb s (wd.take (i + 1)) = stepZ z tb (runZ z tb s (wd.take i)) c := by
  unfold runZ
  rw [List.take_add_one, h, List.foldl_append]
  rfl
theorem atI_int {α : Type} {xs : List α} {s : Int} {v : α} (s0 : 0 ≤ s) (h : xs[s.toNat]? = some v) : atI xs s = some v := by
  have e : ((s.toNat : Nat) : Int) = s := by omega
  have q := atI_nat h
  rw [e] at q
  exact q
/-- a table that is laid: its rows are such objects as R tells -/
def Rows (R : Addr → List V → Prop) (xs : List V) (tb : List (List Int)) : Prop := xs.length = tb.length ∧ ∀ i, i < tb.length → ∃ a, xs[i]? = some (.ref a) ∧ R a ((tb.getD i []).map V.int)
def TupTab (H : Hp) (st : Addr) (tb : List (List Int)) : Prop := ∃ xs, H st = some (.tup xs) ∧ Rows (fun a ys => H a = some (.tup ys)) xs tb
theorem Rows.mono {R R' : Addr → List V → Prop} {xs : List V} {tb : List (List Int)} (h : Rows R xs tb) (f : ∀ a ys, R a ys → R' a ys) : Rows R' xs tb := ⟨h.1, fun i hi => let ⟨a, e, r⟩ := h.2 i hi; ⟨a, e, f _ _ r⟩⟩
/-- one step: the row at s, the item at the sign's place -/
theorem Rows.step {R : Addr → List V → Prop} {xs : List V} {z : Str} {tb : List (List Int)} (h : Rows R xs tb) (Z : Zok z) (T : Tab z tb) {s : Int} (s0 : 0 ≤ s) (s1 : s < tb.length) {c : Nat} (hc : c ∈ z.cps.toList) :
    ∃ a ys, atI xs s = some (.ref a) ∧ R a ys ∧ atI ys ((posn z c : Nat) : Int) = some (.int (stepZ z tb s c)) := by
  have hs : s.toNat < tb.length := by omega
  obtain ⟨a, e, r⟩ := h.2 _ hs
  refine ⟨a, _, atI_int s0 e, r, atI_nat ?_⟩
  have hp : posn z c < (tb.getD s.toNat []).length := by rw [(T.at_ hs).1]; exact (Z.ix c hc).2
  unfold stepZ
  rw [List.getElem?_map, List.getD_eq_getElem?_getD (i := posn z c), List.getElem?_eq_getElem hp] <;> rfl

def spLedOn : Sp := fun vs H Q _ => ∃ (z : Str) (st : Addr) (tb : List (List Int)) (s : Int) (wd : Str), vs = [.str z, .ref st, .int s, .str wd] ∧ Zok z ∧ Tab z tb ∧ TupTab H st tb ∧ 0 ≤ s ∧ s < tb.length ∧ Word z wd ∧ Q (.int (runZ z tb s wd.cps.toList)) H
section
variable {P : Program} {w : World} {K : PySem.W.Frag} {mg : Str → Option Value} {base : Heap}
abbrev W0 : WX := fun _ _ _ _ => False
theorem bIndex {X : Cx} (hc : X.calm = true) (tk : Takes X W0) {o e : Expr} {to te : TE} {apos cpos : Pos} (ho : PE X o to) (he : PE X e te) (hbase : attributeBase o "index" X.env (eval o X.env) = eval o X.env := by rfl)
    (hfew : ((backTo cpos (starEach [e] X.env)).all (fun x => !x.1) && (backToKw cpos (keywordEach [] X.env)).all (fun x => x.1.isSome) && decide ([e].length + ([] : List Keyword).length + (if ([] : List Keyword).isEmpty then 0 else 1) < 30)) = true := by rfl)
    (hline : (apos.endLine == cpos.line) = true := by rfl) (hs : starEach [e] X.env = (false, eval e X.env) :: starEach [] X.env := by rfl) (hplain : (backTo cpos (starEach [] X.env)).any (·.1) = false := by rfl) :
    PE X (.Call (.Attribute o "index" apos) [e] [] cpos) (tBMS X.K "str" (rIndexX W0) to (tCons te tNil)) :=
  pe_bmS PySem.F.plainAttrs_str PySem.F.slot_str_index PySem.F.type_str_index (mt_indexX hc tk) ho (pa_cons he pa_nil hs) hbase hfew hline hs hplain
theorem scLedOn : FnScope ["signs", "steps", "state", "text", "sign"] ["signs", "steps", "state", "text"] (defScope sLedOn) := ⟨rfl, rfl, rfl, by decide +kernel, rfl, by decide +kernel, by decide +kernel⟩
theorem ok_ledOn {f : Addr} {fd : FuncData} (F : Fun K "led_on" "led_on" sLedOn f fd) : FnOk P w K mg base CX0 1 f fd ["signs", "steps", "state", "text"] spLedOn := by
  refine F.ok scLedOn (fun vs H Q E h => ?_) (fun cdv A outer s H vs Q E hr h => ?_)
  · obtain ⟨z, st, tb, s, wd, rfl, _⟩ := h
    rfl
  · obtain ⟨z, st, tb, i0, wd, rfl, Z, T, ⟨xs, hst, rows⟩, i1, i2, hw, k⟩ := h
    have nd := scLedOn.nd
    refine ⟨_, pss_cons (ps_for PassesOwn.never rfl (pi_str (pv 3)) (pg_name (i := 4) nd rfl (Or.inl rfl))
        (pss_one (ps_set (i := 2) nd rfl (.inl rfl) (pe_ix ix_tup (pe_ix ix_tup (pv 1) (pv 2) (fun _ _ => rfl)) (bIndex rfl takes0 (pv 0) (pv 4)) (fun _ _ => rfl))))) (pss_one (ps_ret (pv 2))), ?_⟩
    refine ⟨_, rfl, wd, rfl, for_it walk_str (fun j σ' H' => ∃ y, σ' = [some (.str z), some (.ref st), some (.int (runZ z tb i0 (wd.cps.toList.take j))), some (.str wd), y] ∧ H' = H) ⟨none, rfl, rfl⟩ (fun _ _ _ _ _ => trivial) ?_ ?_⟩
    · rintro j x σ' H' H2 hj ⟨y, rfl, rfl⟩ ⟨rfl, c, hc, rfl⟩
      have hc' : wd.cps.toList[j]? = some c := by rw [Array.getElem?_toList]; exact hc
      have hin : c ∈ z.cps.toList := hw c (List.mem_of_getElem? hc')
      have sub : ∀ d ∈ wd.cps.toList.take j, d ∈ z.cps.toList := fun d hd => hw d (List.mem_of_mem_take hd)
      obtain ⟨r0, r1⟩ := runZ_ok Z T (wd.cps.toList.take j) i1 i2 sub
      obtain ⟨a, ys, e1, e2, e3⟩ := rows.step Z T r0 r1 hin
      refine ⟨_, rfl, _, rfl, st, _, _, _, rfl, rfl, SqT.of hst, e1, _, rfl, rfl, _, rfl, z, ⟨#[c]⟩, rfl, rfl, fun m hm => ?_, fun q => ?_⟩
      · rw [(Z.ix c hin).1] at hm
        cases hm
        refine ⟨a, _, _, _, rfl, rfl, SqT.of e2, e3, some (.str ⟨#[c]⟩), ?_, rfl⟩
        show [some (V.str z), some (.ref st), some (.int (stepZ z tb (runZ z tb i0 (wd.cps.toList.take j)) c)), some (.str wd), some (.str ⟨#[c]⟩)] = _
        rw [runZ_take hc']
      · rw [(Z.ix c hin).1] at q
        cases q
    · rintro σ' H' ⟨y, rfl, rfl⟩
      have e : wd.cps.toList.take wd.cps.size = wd.cps.toList := by rw [List.take_of_length_le]; simp
      rw [e]
      exact ⟨_, rfl, k⟩
end
end Kx
set_option Elab.async false
set_option maxRecDepth 100000
set_option autoImplicit false
namespace Kx
open PySem L2 PySem.Spec PyProof.Rows Rg
/-- a list or a tuple -/
def Sq (H : Hp) (a : Addr) (xs : List V) : Prop := H a = some (.lst xs) ∨ H a = some (.tup xs)
theorem Sq.same {H H' : Hp} {a : Addr} {xs : List V} (h : Sq H a xs) (e : Same H H') : Sq H' a xs := h.elim (fun q => .inl (e _ _ q)) fun q => .inr (e _ _ q)
theorem Sq.len {K : PySem.W.Frag} {H : Hp} {a : Addr} {xs : List V} (h : Sq H a xs) : LenV K (.ref a) H xs.length := h.elim (fun q => .inl ⟨_, SqL.of q, rfl⟩) fun q => .inr ⟨_, SqT.of q, rfl⟩
theorem Same.new {H : Hp} {q : Addr} {o : HO} (h : H q = none) : Same H (upd H q o) := fun b u e => by rw [upd_ne (ne_of_none e h)]; exact e
theorem Same.putNew {H H' : Hp} {q : Addr} {o : HO} (h : H q = none) (e : Same H H') : Same H (upd H' q o) := fun b u z => by rw [upd_ne (ne_of_none z h)]; exact e _ _ z
theorem PI_or {X : Cx} {tg iter : Expr} {w1 w2 : TI} (h1 : PI X tg iter w1) (h2 : PI X tg iter w2) : PI X tg iter (fun σ H R => w1 σ H R ∨ w2 σ H R) := ⟨fun pins s σ H R I h => h.elim (h1.run pins s σ H R I) (h2.run pins s σ H R I)⟩
theorem wipe1 (σ : L2.St) (v : Nat) (x : V) : wipe ((wipe σ [v]).set v (some x)) [v] = wipe σ [v] := by
  show ((σ.set v none).set v (some x)).set v none = σ.set v none
  rw [List.set_set, List.set_set]
/-- a comprehension whose elements are told by the turn, over a heap that only grows -/
theorem lcMap {J : It} {n : Nat} {G : Hp → Prop} {Y : Nat → Hp → V → Hp → Prop} (w : Walk J n G Y) {v : Nat} {te : TE} {σ : L2.St} {H1 : Hp} {D : Addr} {Qd : Hp → Prop} (f : Nat → V) (hn : n < sizeLine) (hD : H1 D = none) (hG : ∀ H', Same H1 H' → G H')
    (hY : ∀ i H' x H2, Y i H' x H2 → H2 = H')
    (el : ∀ i x H' (Q : VK), i < n → Same H1 H' → Y i H' x H' → (∀ H4, Same H' H4 → Q (f i) H4) → te ((wipe σ [v]).set v (some x)) H' Q)
    (hd : ∀ H', Same H1 H' → H' D = some (.lst ((List.range n).map f)) → Qd H') :
    ∃ W : Nat → Nat → Hp → Prop, (∃ m, W 0 m (upd H1 D (.lst []))) ∧ ∀ i m H, W i m H →
      (J.stop i H ∧ Qd H) ∨ (J.go i H ∧ ∃ Nx : Hp → Prop, (∀ H', Nx H' → ∃ m', m' < m ∧ W (i + 1) m' H') ∧ ∀ x H', J.yld i H x H' → gName v x (wipe σ [v]) H' fun σ2 H2 => wipe σ2 [v] = wipe σ [v] ∧ tYes σ2 H2 fun b H3 =>
        if b = true then te σ2 H3 fun y H4 => ∃ acc, H4 D = some (.lst acc) ∧ acc.length < sizeLine ∧ Nx (upd H4 D (.lst (acc ++ [y]))) else Nx H3) := by
  refine lc_it w (fun i H' => Same H1 H' ∧ H' D = some (.lst ((List.range i).map f))) ⟨Same.new hD, upd_same⟩ (fun i H' _ q => hG H' q.1) ?_ fun H' q => hd H' q.1 q.2
  rintro i x H' H2 hi ⟨s1, hl⟩ y
  obtain rfl := hY _ _ _ _ y
  refine ⟨wipe1 σ v x, ?_⟩
  unfold tYes
  dsimp only
  rw [if_pos rfl]
  refine el i x H2 _ hi s1 y fun H4 s4 => ⟨_, s4 _ _ hl, ?_, Same.putNew hD (s1.trans s4), ?_⟩
  · rw [List.length_map, List.length_range]; omega
  rw [upd_same, List.range_succ, List.map_append]
  rfl
theorem range_const {n : Nat} {x : V} : (List.range n).map (fun _ => x) = List.replicate n x := by
  rw [List.map_const', List.length_range]

theorem cls2 : Paired ClsV [V.ty "list", V.ty "tuple"] [Value.type "list", Value.type "tuple"] := .cons (.ty _) (.cons (.ty _) .nil)
theorem seqTy {K : PySem.W.Frag} {H : Hp} {a : Addr} {xs : List V} (h : Sq H a xs) : ∃ t, TyX K H (.ref a) t ∧ PySem.W.kitAny K t [.type "list", .type "tuple"] = some true := by
  rcases h with h | h
  · exact ⟨_, .base (.lst h), kitAny_cons (kit_ty (b := "list") (r := true) (by decide +kernel)) (fun z => nomatch z) fun _ => rfl⟩
  · exact ⟨_, .base (.tup h), kitAny_cons (kit_ty (b := "list") (r := false) (by decide +kernel)) (fun _ => kitAny_cons (kit_ty (b := "tuple") (r := true) (by decide +kernel)) (fun z => nomatch z) fun _ => rfl) (fun z => nomatch z)⟩
theorem bIsiSq {X : Cx} {e : Expr} {te : TE} {p p1 p2 tp pos : Pos} {kk : Nat} (hg : Gl X "isinstance") (m : X.mg "isinstance" = none) (g1 : Gl X "list") (m1 : X.mg "list" = none) (g2 : Gl X "tuple") (m2 : X.mg "tuple" = none) (he : PE X e te)
    (na : starEach [e, .Tuple [.Name "list" p1, .Name "tuple" p2] kk tp] X.env = (false, eval e X.env) :: starEach [.Tuple [.Name "list" p1, .Name "tuple" p2] kk tp] X.env := by rfl)
    (nb : starEach [.Tuple [.Name "list" p1, .Name "tuple" p2] kk tp] X.env = (false, eval (.Tuple [.Name "list" p1, .Name "tuple" p2] kk tp) X.env) :: starEach [] X.env := by rfl) (hpl : (backTo pos (starEach [.Tuple [.Name "list" p1, .Name "tuple" p2] kk tp] X.env)).any (·.1) = false := by rfl) :
    PE X (.Call (.Name "isinstance" p) [e, .Tuple [.Name "list" p1, .Name "tuple" p2] kk tp] [] pos) (tCB (rIsiT X.K) (tCons te (tCons (tTup (tCons (tC (.ty "list")) (tCons (tC (.ty "tuple")) tNil))) tNil))) :=
  pe_callB call_isiT hg m boot_isinstance (pa_cons he (pa_cons (pe_tup (pa_cons (pe_bltn (v := .ty "list") g1 m1 (by decide +kernel) rfl) (pa_cons (pe_bltn (v := .ty "tuple") g2 m2 (by decide +kernel) rfl) pa_nil))) pa_nil nb) na) (he := na) (hpl := hpl)

def spAreStates : Sp := fun vs H Q _ => ∃ (a : Addr) (r : List Int) (last : Int), vs = [.ref a, .int r.length, .int last] ∧ Sq H a (r.map V.int) ∧ r.length ≤ 1000 ∧ (∀ v ∈ r, 0 ≤ v ∧ v ≤ last) ∧ ∀ H', Same H H' → Q (.bl true) H'
section
variable {P : Program} {w : World} {K : PySem.W.Frag} {mg : Str → Option Value} {base : Heap}
theorem scAreStates : FnScope ["value", "many", "last", "state"] ["value", "many", "last"] (defScope sAreStates) := ⟨rfl, rfl, rfl, by decide +kernel, rfl, by decide +kernel, by decide +kernel⟩
theorem ok_areStates {f f1 : Addr} {fd fd1 : FuncData} (F : Fun K "are_states" "are_states" sAreStates f fd) (T : Txt mg) (G : FnOk P w K mg base CX0 2 f1 fd1 ["value", "low", "high"] spFromTo) (m1 : mg "is_from_to" = some (.ref f1)) (k1 : PySem.W.keepIn K (.ref f1) = true)
    (b1 : Binds K fd1 ["value", "low", "high"] []) : FnOk P w K mg base CX0 3 f fd ["value", "many", "last"] spAreStates := by
  refine F.ok scAreStates (fun vs H Q E h => ?_) (fun cdv A outer s H vs Q E hr h => ?_)
  · obtain ⟨a, r, last, rfl, _⟩ := h
    rfl
  · obtain ⟨a, r, last, rfl, sq, few, rng, k⟩ := h
    have nd := scAreStates.nd
    refine ⟨_, pss_cons (ps_if (PW.pt (pw_or (pt_not (pt_val (bIsiSq (by rfl) T.isi (by rfl) T.list (by rfl) T.tuple (pv 0)))) (pw_or1 (pt_cmpR op_ne (bLen (by rfl) T.len (pv 0)) (pv 1) (nomark _))))) (pss_one (ps_ret pe_bl)) pss_nil)
      (pss_one (ps_ret (pe_callB (cr_all rfl) (by rfl) T.all boot_all (pa_cons (pe_lc (own := [("state", 3)]) (g := gName 3) (tt := tYes) rfl nd (PI_or (pi_list (pv 0)) (pi_tup (pv 0))) (blkOk_by (N := ["value", "many", "last", "state"]) (sc := defScope sAreStates) (by decide +kernel))
        (fun _ _ _ _ _ => pg_name (i := 3) nd rfl (Or.inl rfl)) (fun _ _ _ _ _ => pts_nil) (fun _ _ _ _ _ => pe_call G hr (by rfl) m1 k1 b1 .nil pass0 (pa_cons (pv 3) (pa_cons pe_int (pa_cons (pv 2) pa_nil))))) pa_nil)))), ?_⟩
    refine ⟨_, rfl, by show 2 ≤ sizeLine; decide, fun q hq => ?_⟩
    have s1 : Same H (upd H q (.tup [.ty "list", .ty "tuple"])) := Same.new hq
    obtain ⟨t, ty, kt⟩ := seqTy (K := K) (sq.same s1)
    refine ⟨.ref a, q, _, t, _, true, rfl, upd_same, cls2, ty, kt, true, rfl, iteF ?_⟩
    refine ⟨_, rfl, _, _, rfl, (sq.same s1).len, _, rfl, ?_⟩
    refine ⟨rfl, _, rfl, ?_⟩
    have el : decide (V.int ((r.map V.int).length : Nat) = V.int (r.length : Nat)) = true := decide_eq_true (by rw [List.length_map])
    rw [el]
    refine iteF ?_
    have fin : ∀ (D : Addr) (H' : Hp), Same (upd H q (.tup [.ty "list", .ty "tuple"])) H' → H' D = some (.lst ((List.range (r.map V.int).length).map fun _ => V.bl true)) →
        ∃ (b : Addr) (bs : List Bool), [V.ref D] = [V.ref b] ∧ SqL K H' b (bs.map V.bl) ∧ Q (.bl (bs.all id)) H' := by
      intro D H' s2 hD
      refine ⟨D, List.replicate r.length true, rfl, SqL.of ?_, ?_⟩
      · rw [hD, range_const, List.length_map, List.map_replicate]
      · rw [show (List.replicate r.length true).all id = true by simp]
        exact k H' (s1.trans s2)
    have el : ∀ (i : Nat) (x : V) (H' : Hp) (Q' : VK), (r.map V.int)[i]? = some x → (∀ H4, Same H' H4 → Q' (.bl true) H4) →
        tCall spFromTo [] E0 (tCons (tVar 3) (tCons (tC (.int 0)) (tCons (tVar 2) tNil))) ((wipe [some (V.ref a), some (.int r.length), some (.int last), none] [3]).set 3 (some x)) H' Q' := by
      intro i x H' Q' hx q
      rw [List.getElem?_map] at hx
      cases e : r[i]? with
      | none => rw [e] at hx; cases hx
      | some v =>
        rw [e] at hx
        cases hx
        have hv := rng v (List.mem_of_getElem? e)
        refine ⟨_, rfl, _, rfl, v, 0, last, rfl, ?_⟩
        rw [decide_eq_true hv.1, decide_eq_true hv.2]
        exact q H' (Same.refl H')
    have few' : (r.map V.int).length < sizeLine := by rw [List.length_map, sizeLine_eq]; omega
    rcases sq.same s1 with hl | ht
    · exact .inl ⟨_, rfl, a, rfl, ⟨_, SqL.of hl⟩, fun D hD => lcMap walk_list (fun _ => .bl true) few' hD (fun H' e => SqL.of (e _ _ hl)) (fun _ _ _ _ y => y.1) (fun i x H' Q' _ _ y q => el i x H' Q' y.2 q) (fin D)⟩
    · exact .inr ⟨_, rfl, a, rfl, ⟨_, SqT.of ht⟩, fun D hD => lcMap walk_tup (fun _ => .bl true) few' hD (fun H' e => SqT.of (e _ _ ht)) (fun _ _ _ _ y => y.1) (fun i x H' Q' _ _ y q => el i x H' Q' y.2 q) (fin D)⟩
end
end Kx
set_option Elab.async false
set_option maxRecDepth 100000
set_option autoImplicit false
namespace Kx
open PySem L2 PySem.Spec PyProof.Rows Rg
/-- a comprehension over any walk, by an invariant of turn, heap and what is made so far -/
theorem lcGen {J : It} {n : Nat} {G : Hp → Prop} {Y : Nat → Hp → V → Hp → Prop} (w : Walk J n G Y) {v : Nat} {te : TE} {σ : L2.St} {H1 : Hp} {D : Addr} {Qd : Hp → Prop} (Iv : Nat → Hp → List V → Prop) (hn : n < sizeLine)
    (h0 : Iv 0 (upd H1 D (.lst [])) []) (hG : ∀ i H' acc, i ≤ n → Iv i H' acc → G H') (hY : ∀ i H' x H2, Y i H' x H2 → H2 = H')
    (el : ∀ i x H' acc (Q : VK), i < n → H' D = some (.lst acc) → acc.length = i → Iv i H' acc → Y i H' x H' → (∀ y H4, H4 D = some (.lst acc) → Iv (i + 1) (upd H4 D (.lst (acc ++ [y]))) (acc ++ [y]) → Q y H4) → te ((wipe σ [v]).set v (some x)) H' Q)
    (hd : ∀ H' acc, H' D = some (.lst acc) → acc.length = n → Iv n H' acc → Qd H') :
    ∃ W : Nat → Nat → Hp → Prop, (∃ m, W 0 m (upd H1 D (.lst []))) ∧ ∀ i m H, W i m H →
      (J.stop i H ∧ Qd H) ∨ (J.go i H ∧ ∃ Nx : Hp → Prop, (∀ H', Nx H' → ∃ m', m' < m ∧ W (i + 1) m' H') ∧ ∀ x H', J.yld i H x H' → gName v x (wipe σ [v]) H' fun σ2 H2 => wipe σ2 [v] = wipe σ [v] ∧ tYes σ2 H2 fun b H3 =>
        if b = true then te σ2 H3 fun y H4 => ∃ acc, H4 D = some (.lst acc) ∧ acc.length < sizeLine ∧ Nx (upd H4 D (.lst (acc ++ [y]))) else Nx H3) := by
  refine lc_it w (fun i H' => ∃ acc, H' D = some (.lst acc) ∧ acc.length = i ∧ Iv i H' acc) ⟨[], upd_same, rfl, h0⟩ (fun i H' hi ⟨acc, _, _, q⟩ => hG i H' acc hi q) ?_ fun H' ⟨acc, q1, q2, q3⟩ => hd H' acc q1 q2 q3
  rintro i x H' H2 hi ⟨acc, ha, hl, iv⟩ y
  obtain rfl := hY _ _ _ _ y
  refine ⟨wipe1 σ v x, ?_⟩
  unfold tYes
  dsimp only
  rw [if_pos rfl]
  refine el i x H2 acc _ hi ha hl iv y fun y H4 h4 i4 => ⟨acc, h4, by omega, _, upd_same, ?_, i4⟩
  rw [List.length_append, hl]
  rfl

theorem bBool {X : Cx} {e : Expr} {te : TE} {p p1 pos : Pos} (hg : Gl X "isinstance") (m : X.mg "isinstance" = none) (g1 : Gl X "bool") (m1 : X.mg "bool" = none) (he : PE X e te) (na : starEach [e, .Name "bool" p1] X.env = (false, eval e X.env) :: starEach [.Name "bool" p1] X.env := by rfl)
    (nb : starEach [.Name "bool" p1] X.env = (false, eval (.Name "bool" p1) X.env) :: starEach [] X.env := by rfl) (hpl : (backTo pos (starEach [.Name "bool" p1] X.env)).any (·.1) = false := by rfl) : PE X (.Call (.Name "isinstance" p) [e, .Name "bool" p1] [] pos) (tCB (rIsi X.K) (tCons te (tCons (tC (.ty "bool")) tNil))) :=
  bIsi hg m he (pe_bltn (v := .ty "bool") g1 m1 (by decide +kernel) rfl) na nb hpl
abbrev sInit : Stmt := inClass (top 35) 0
abbrev sSigns : Stmt := inClass (top 35) 1
abbrev sSteps : Stmt := inClass (top 35) 2
abbrev sTold : Stmt := inClass (top 35) 3
abbrev sLen : Stmt := inClass (top 35) 4
abbrev sItem : Stmt := inClass (top 35) 5
abbrev sHas : Stmt := inClass (top 35) 7
abbrev sState : Stmt := inClass (top 35) 8
abbrev sStep : Stmt := inClass (top 35) 9

def spAreAnswers : Sp := fun vs H Q _ => ∃ (a : Addr) (r : List Bool), vs = [.ref a, .int r.length] ∧ Sq H a (r.map V.bl) ∧ r.length ≤ 1000 ∧ ∀ H', Same H H' → Q (.bl true) H'
def spAreSteps : Sp := fun vs H Q _ => ∃ (a : Addr) (z : Str) (xs : List V) (tb : List (List Int)), vs = [.ref a, .int z.length] ∧ Sq H a xs ∧ Rows (Sq H) xs tb ∧ Zok z ∧ Tab z tb ∧ ∀ H', Same H H' → Q (.bl true) H'
section
variable {P : Program} {w : World} {K : PySem.W.Frag} {mg : Str → Option Value} {base : Heap}
theorem scAreAnswers : FnScope ["value", "many", "answer"] ["value", "many"] (defScope sAreAnswers) := ⟨rfl, rfl, rfl, by decide +kernel, rfl, by decide +kernel, by decide +kernel⟩
theorem ok_areAnswers {f : Addr} {fd : FuncData} (F : Fun K "are_answers" "are_answers" sAreAnswers f fd) (T : Txt mg) (mB : mg "bool" = none) : FnOk P w K mg base CX0 1 f fd ["value", "many"] spAreAnswers := by
  refine F.ok scAreAnswers (fun vs H Q E h => ?_) (fun cdv A outer s H vs Q E hr h => ?_)
  · obtain ⟨a, r, rfl, _⟩ := h
    rfl
  · obtain ⟨a, r, rfl, sq, few, k⟩ := h
    have nd := scAreAnswers.nd
    refine ⟨_, pss_cons (ps_if (PW.pt (pw_or (pt_not (pt_val (bIsiSq (by rfl) T.isi (by rfl) T.list (by rfl) T.tuple (pv 0)))) (pw_or1 (pt_cmpR op_ne (bLen (by rfl) T.len (pv 0)) (pv 1) (nomark _))))) (pss_one (ps_ret pe_bl)) pss_nil)
      (pss_one (ps_ret (pe_callB (cr_all rfl) (by rfl) T.all boot_all (pa_cons (pe_lc (own := [("answer", 2)]) (g := gName 2) (tt := tYes) (te := tCB (rIsi K) (tCons (tVar 2) (tCons (tC (.ty "bool")) tNil))) rfl nd (PI_or (pi_list (pv 0)) (pi_tup (pv 0))) (blkOk_by (N := ["value", "many", "answer"]) (sc := defScope sAreAnswers) (by decide +kernel))
        (fun _ _ _ _ _ => pg_name (i := 2) nd rfl (Or.inl rfl)) (fun _ _ _ _ _ => pts_nil) (fun _ _ _ _ _ => bBool (by rfl) T.isi (by rfl) mB (pv 2))) pa_nil)))), ?_⟩
    refine ⟨_, rfl, by show 2 ≤ sizeLine; decide, fun q hq => ?_⟩
    have s1 : Same H (upd H q (.tup [.ty "list", .ty "tuple"])) := Same.new hq
    obtain ⟨t, ty, kt⟩ := seqTy (K := K) (sq.same s1)
    refine ⟨.ref a, q, _, t, _, true, rfl, upd_same, cls2, ty, kt, true, rfl, iteF ?_⟩
    refine ⟨_, rfl, _, _, rfl, (sq.same s1).len, _, rfl, rfl, _, rfl, ?_⟩
    have el : decide (V.int ((r.map V.bl).length : Nat) = V.int (r.length : Nat)) = true := decide_eq_true (by rw [List.length_map])
    rw [el]
    refine iteF ?_
    have fin : ∀ (D : Addr) (H' : Hp), Same (upd H q (.tup [.ty "list", .ty "tuple"])) H' → H' D = some (.lst ((List.range (r.map V.bl).length).map fun _ => V.bl true)) →
        ∃ (b : Addr) (bs : List Bool), [V.ref D] = [V.ref b] ∧ SqL K H' b (bs.map V.bl) ∧ Q (.bl (bs.all id)) H' := by
      intro D H' s2 hD
      refine ⟨D, List.replicate r.length true, rfl, SqL.of ?_, ?_⟩
      · rw [hD, range_const, List.length_map, List.map_replicate]
      · rw [show (List.replicate r.length true).all id = true by simp]
        exact k H' (s1.trans s2)
    have el : ∀ (i : Nat) (x : V) (H' : Hp) (Q' : VK), (r.map V.bl)[i]? = some x → (∀ H4, Same H' H4 → Q' (.bl true) H4) →
        tCB (rIsi K) (tCons (tVar 2) (tCons (tC (.ty "bool")) tNil)) ((wipe [some (V.ref a), some (.int r.length), none] [2]).set 2 (some x)) H' Q' := by
      intro i x H' Q' hx q
      rw [List.getElem?_map] at hx
      cases e : r[i]? with
      | none => rw [e] at hx; cases hx
      | some v =>
        rw [e] at hx
        cases hx
        exact ⟨_, rfl, .bl v, .ty "bool", _, _, true, rfl, .ty "bool", .base (.bl v), kit_ty (by decide +kernel), q H' (Same.refl H')⟩
    have few' : (r.map V.bl).length < sizeLine := by rw [List.length_map, sizeLine_eq]; omega
    rcases sq.same s1 with hl | ht
    · exact .inl ⟨_, rfl, a, rfl, ⟨_, SqL.of hl⟩, fun D hD => lcMap walk_list (fun _ => .bl true) few' hD (fun H' e => SqL.of (e _ _ hl)) (fun _ _ _ _ y => y.1) (fun i x H' Q' _ _ y q => el i x H' Q' y.2 q) (fin D)⟩
    · exact .inr ⟨_, rfl, a, rfl, ⟨_, SqT.of ht⟩, fun D hD => lcMap walk_tup (fun _ => .bl true) few' hD (fun H' e => SqT.of (e _ _ ht)) (fun _ _ _ _ y => y.1) (fun i x H' Q' _ _ y q => el i x H' Q' y.2 q) (fin D)⟩
theorem scAreSteps : FnScope ["value", "many", "last", "onward"] ["value", "many"] (defScope sAreSteps) := ⟨rfl, rfl, rfl, by decide +kernel, rfl, by decide +kernel, by decide +kernel⟩
theorem ok_areSteps {f f1 : Addr} {fd fd1 : FuncData} (F : Fun K "are_steps" "are_steps" sAreSteps f fd) (T : Txt mg) (G : FnOk P w K mg base CX0 3 f1 fd1 ["value", "many", "last"] spAreStates) (m1 : mg "are_states" = some (.ref f1)) (k1 : PySem.W.keepIn K (.ref f1) = true)
    (b1 : Binds K fd1 ["value", "many", "last"] []) : FnOk P w K mg base CX0 4 f fd ["value", "many"] spAreSteps := by
  refine F.ok scAreSteps (fun vs H Q E h => ?_) (fun cdv A outer s H vs Q E hr h => ?_)
  · obtain ⟨a, z, xs, tb, rfl, _⟩ := h
    rfl
  · obtain ⟨a, z, xs, tb, rfl, sq, rows, Z, Tb, k⟩ := h
    have nd := scAreSteps.nd
    have hp := Tb.pos
    have hf := Tb.few
    have hx := rows.1
    refine ⟨_, pss_cons (ps_if (PW.pt (pw_or (pt_not (pt_val (bIsiSq (by rfl) T.isi (by rfl) T.list (by rfl) T.tuple (pv 0)))) (pw_or1 (pt_cmpR op_eq (bLen (by rfl) T.len (pv 0)) pe_int (nomark _))))) (pss_one (ps_ret pe_bl)) pss_nil)
      (pss_cons (ps_set (i := 2) nd rfl (.inr rfl) (pe_op op_sub (bLen (by rfl) T.len (pv 0)) pe_int))
      (pss_one (ps_ret (pe_callB (cr_all rfl) (by rfl) T.all boot_all (pa_cons (pe_lc (own := [("onward", 3)]) (g := gName 3) (tt := tYes) rfl nd (PI_or (pi_list (pv 0)) (pi_tup (pv 0))) (blkOk_by (N := ["value", "many", "last", "onward"]) (sc := defScope sAreSteps) (by decide +kernel))
        (fun _ _ _ _ _ => pg_name (i := 3) nd rfl (Or.inl rfl)) (fun _ _ _ _ _ => pts_nil) (fun _ _ _ _ _ => pe_call G hr (by rfl) m1 k1 b1 .nil pass0 (pa_cons (pv 3) (pa_cons (pv 1) (pa_cons (pv 2) pa_nil))))) pa_nil))))), ?_⟩
    refine ⟨_, rfl, by show 2 ≤ sizeLine; decide, fun q hq => ?_⟩
    have s1 : Same H (upd H q (.tup [.ty "list", .ty "tuple"])) := Same.new hq
    obtain ⟨t, ty, kt⟩ := seqTy (K := K) (sq.same s1)
    refine ⟨.ref a, q, _, t, _, true, rfl, upd_same, cls2, ty, kt, true, rfl, iteF ?_⟩
    refine ⟨_, rfl, _, _, rfl, (sq.same s1).len, rfl, _, rfl, ?_⟩
    have el : decide (V.int (xs.length : Nat) = V.int 0) = false := decide_eq_false fun z => by
      have z' : ((xs.length : Nat) : Int) = 0 := V.int.inj z
      omega
    rw [el]
    refine iteF ?_
    refine ⟨_, rfl, _, _, rfl, (sq.same s1).len, _, _, rfl, rfl, ?_⟩
    have fin : ∀ (D : Addr) (H' : Hp), Same (upd H q (.tup [.ty "list", .ty "tuple"])) H' → H' D = some (.lst ((List.range xs.length).map fun _ => V.bl true)) →
        ∃ (b : Addr) (bs : List Bool), [V.ref D] = [V.ref b] ∧ SqL K H' b (bs.map V.bl) ∧ Q (.bl (bs.all id)) H' := by
      intro D H' s2 hD
      refine ⟨D, List.replicate xs.length true, rfl, SqL.of ?_, ?_⟩
      · rw [hD, range_const, List.map_replicate]
      · rw [show (List.replicate xs.length true).all id = true by simp]
        exact k H' (s1.trans s2)
    have el : ∀ (i : Nat) (x : V) (H' : Hp) (Q' : VK), Same (upd H q (.tup [.ty "list", .ty "tuple"])) H' → xs[i]? = some x → (∀ H4, Same H' H4 → Q' (.bl true) H4) →
        tCall spAreStates [] E0 (tCons (tVar 3) (tCons (tVar 1) (tCons (tVar 2) tNil))) ((wipe [some (V.ref a), some (.int z.length), some (.int ((xs.length : Nat) - 1)), none] [3]).set 3 (some x)) H' Q' := by
      intro i x H' Q' s2 hx' q
      have hi : i < tb.length := by
        have := (List.getElem?_eq_some_iff.mp hx').1
        omega
      obtain ⟨r, e1, e2⟩ := rows.2 i hi
      rw [e1] at hx'
      cases hx'
      obtain ⟨l1, l2⟩ := Tb.at_ hi
      have zf := Z.few
      refine ⟨_, rfl, _, rfl, _, rfl, r, tb.getD i [], ((tb.length : Nat) : Int) - 1, ?_, e2.same (s1.trans s2), by omega, fun v hv => ?_, q⟩
      · show [V.ref r, V.int (z.length : Nat), V.int ((xs.length : Nat) - 1)] = [V.ref r, V.int ((tb.getD i []).length : Nat), V.int ((tb.length : Nat) - 1)]
        rw [l1, hx]
      · have := l2 v hv
        omega
    have few' : xs.length < sizeLine := by rw [sizeLine_eq]; omega
    rcases sq.same s1 with hl | ht
    · exact .inl ⟨_, rfl, a, rfl, ⟨_, SqL.of hl⟩, fun D hD => lcMap walk_list (fun _ => .bl true) few' hD (fun H' e => SqL.of (e _ _ hl)) (fun _ _ _ _ y => y.1) (fun i x H' Q' _ e y q => el i x H' Q' e y.2 q) (fin D)⟩
    · exact .inr ⟨_, rfl, a, rfl, ⟨_, SqT.of ht⟩, fun D hD => lcMap walk_tup (fun _ => .bl true) few' hD (fun H' e => SqT.of (e _ _ ht)) (fun _ _ _ _ y => y.1) (fun i x H' Q' _ e y q => el i x H' Q' e y.2 q) (fin D)⟩
end
end Kx
set_option Elab.async false
set_option maxRecDepth 100000
set_option autoImplicit false
namespace Kx
open PySem L2 PySem.Spec PyProof.Rows Rg
/-! ### the machine's fields -/
theorem f12 : ¬ (("_signs" : Str) = "_steps") := by decide +kernel
theorem f13 : ¬ (("_signs" : Str) = "_told") := by decide +kernel
theorem f23 : ¬ (("_steps" : Str) = "_told") := by decide +kernel
def mf1 (z : Str) : List (Str × V) := putF "_signs" (.str z) []
def mf2 (z : Str) (st : Addr) : List (Str × V) := putF "_steps" (.ref st) (mf1 z)
def mf (z : Str) (st tt : Addr) : List (Str × V) := putF "_told" (.ref tt) (mf2 z st)
theorem mf1_len (z : Str) : (mf1 z).length < 1000 := by show 1 < 1000; decide
theorem mf2_eq (z : Str) (st : Addr) : mf2 z st = ([("_signs", V.str z), ("_steps", V.ref st)] : List (Str × V)) := by
  show (if ("_signs" : Str) = "_steps" then [(("_signs" : Str), V.ref st)] else (("_signs" : Str), V.str z) :: putF "_steps" (V.ref st) []) = ([("_signs", V.str z), ("_steps", V.ref st)] : List (Str × V))
  rw [if_neg f12]
  all_goals rfl
theorem mf2_len (z : Str) (st : Addr) : (mf2 z st).length < 1000 := by rw [mf2_eq]; show 2 < 1000; decide
theorem mf_signs (z : Str) (st tt : Addr) : (mf z st tt).lookup ("_signs" : Str) = some (.str z) := by
  unfold mf mf2 mf1
  rw [lookup_putF, if_neg f13, lookup_putF, if_neg f12, lookup_putF, if_pos rfl]
theorem mf_steps (z : Str) (st tt : Addr) : (mf z st tt).lookup ("_steps" : Str) = some (.ref st) := by
  unfold mf mf2
  rw [lookup_putF, if_neg f23, lookup_putF, if_pos rfl]
theorem mf_told (z : Str) (st tt : Addr) : (mf z st tt).lookup ("_told" : Str) = some (.ref tt) := by
  unfold mf
  rw [lookup_putF, if_pos rfl]
theorem mf_no (z : Str) (st tt : Addr) {m : Str} (h1 : ¬ m = "_signs") (h2 : ¬ m = "_steps") (h3 : ¬ m = "_told") : (mf z st tt).lookup m = none := by
  unfold mf mf2 mf1
  rw [lookup_putF, if_neg h3, lookup_putF, if_neg h2, lookup_putF, if_neg h1]
  all_goals rfl
/-- at p a machine: signs, steps, told -/
def Mach (C : Addr) (H : Hp) (p : Addr) (z : Str) (tb : List (List Int)) (mk : List Bool) : Prop := ∃ dx st tt, H p = some (.ins C dx (mf z st tt)) ∧ TupTab H st tb ∧ H tt = some (.tup (mk.map V.bl))
theorem Same.sq {H H' : Hp} (e : Same H H') {a : Addr} {xs : List V} (h : Sq H a xs) : Sq H' a xs := h.same e
theorem sq_ne {H : Hp} {a p C dx : Addr} {xs : List V} {fs : List (Str × V)} (h : Sq H a xs) (e : H p = some (.ins C dx fs)) : a ≠ p := by
  rintro rfl
  rcases h with h | h <;> (rw [h] at e; cases e)
theorem Sq.ext {H H' : Hp} {a p : Addr} {xs : List V} (h : Sq H a xs) (n : a ≠ p) (e : Ext1 p H H') : Sq H' a xs := h.elim (fun q => .inl (e _ _ n q)) fun q => .inr (e _ _ n q)
theorem Same.ext1 {H H' : Hp} (p : Addr) (e : Same H H') : Ext1 p H H' := fun b o _ q => e b o q

structure MT (K : PySem.W.Frag) (mg : Str → Option Value) (C : Addr) : Prop where
  cl : Cls K C
  n1 : NoAttr K C "_signs"
  n2 : NoAttr K C "_steps"
  n3 : NoAttr K C "_told"
  mgC : mg "Machine" = some (.ref C)

def rTup (K : PySem.W.Frag) : List V → Hp → VK → Prop := fun xs H Q => ∃ p ys, xs = [.ref p] ∧ ((SqL K H p ys ∧ ∀ l, H l = none → Q (.ref l) (upd H l (.tup ys))) ∨ (SqT K H p ys ∧ Q (.ref p) H))
theorem bTup {X : Cx} {e : Expr} {te : TE} {p pos : Pos} (hg : Gl X "tuple") (m : X.mg "tuple" = none) (he : PE X e te) (na : starEach [e] X.env = (false, eval e X.env) :: starEach [] X.env := by rfl) : PE X (.Call (.Name "tuple" p) [e] [] pos) (tCB (rTup X.K) (tCons te tNil)) :=
  pe_callTy call_tuple_of hg m (by decide +kernel) (pa_cons he pa_nil na) (he := na)
/-- tuple of a list or of a tuple, over a heap that only grows -/
theorem rTup_of {K : PySem.W.Frag} {H : Hp} {a : Addr} {xs : List V} {Q : VK} (h : Sq H a xs) (k : ∀ l H', Same H H' → (∀ b, H b ≠ none → H' b = H b) → H' l = some (.tup xs) → Q (.ref l) H') : rTup K [.ref a] H Q := by
  rcases h with h | h
  · exact ⟨a, xs, rfl, .inl ⟨SqL.of h, fun l hl => k l _ (Same.new hl) (fun b nb => upd_ne fun q => nb (q ▸ hl)) upd_same⟩⟩
  · exact ⟨a, xs, rfl, .inr ⟨SqT.of h, k a H (Same.refl H) (fun _ _ => rfl) h⟩⟩

def spInit (C : Addr) : Sp := fun vs H Q _ => ∃ (p dx a b : Addr) (z : Str) (xs : List V) (tb : List (List Int)) (mk : List Bool), vs = [.ref p, .str z, .ref a, .ref b] ∧ H p = some (.ins C dx []) ∧ Zok z ∧ Sq H a xs ∧ Rows (Sq H) xs tb ∧ Tab z tb ∧ Sq H b (mk.map V.bl) ∧ mk.length = tb.length ∧
  ∀ H', Ext1 p H H' → Mach C H' p z tb mk → Q .non H'
section
variable {P : Program} {w : World} {K : PySem.W.Frag} {mg : Str → Option Value} {base : Heap}
theorem scInit : FnScope ["self", "signs", "steps", "told", "onward"] ["self", "signs", "steps", "told"] (defScope sInit) := ⟨rfl, rfl, rfl, by decide +kernel, rfl, by decide +kernel, by decide +kernel⟩
theorem ok_init {C f f1 f2 f3 : Addr} {fd fd1 fd2 fd3 : FuncData} (F : Fun K "__init__" "Machine.__init__" sInit f fd) (T : Txt mg) (M : MT K mg C)
    (G1 : FnOk P w K mg base CX0 3 f1 fd1 ["value"] spCheckSigns) (m1 : mg "check_signs" = some (.ref f1)) (k1 : PySem.W.keepIn K (.ref f1) = true) (b1 : Binds K fd1 ["value"] [])
    (G2 : FnOk P w K mg base CX0 4 f2 fd2 ["value", "many"] spAreSteps) (m2 : mg "are_steps" = some (.ref f2)) (k2 : PySem.W.keepIn K (.ref f2) = true) (b2 : Binds K fd2 ["value", "many"] [])
    (G3 : FnOk P w K mg base CX0 1 f3 fd3 ["value", "many"] spAreAnswers) (m3 : mg "are_answers" = some (.ref f3)) (k3 : PySem.W.keepIn K (.ref f3) = true) (b3 : Binds K fd3 ["value", "many"] []) :
    FnOk P w K mg base CX0 5 f fd ["self", "signs", "steps", "told"] (spInit C) := by
  refine F.ok scInit (fun vs H Q E h => ?_) (fun cdv A outer s H vs Q E hr h => ?_)
  · obtain ⟨p, dx, a, b, z, xs, tb, mk, rfl, _⟩ := h
    rfl
  · obtain ⟨p, dx, a, b, z, xs, tb, mk, rfl, hp, Z, sa, rows, Tb, sb, ml, k⟩ := h
    have nd := scInit.nd
    have hr3 := hr.mono (show 3 ≤ 4 by decide)
    have hr1 := hr.mono (show 1 ≤ 4 by decide)
    refine ⟨_, pss_cons (ps_expr (pe_call G1 hr3 (by rfl) m1 k1 b1 .nil pass0 (pa_cons (pv 1) pa_nil)))
      (pss_cons (ps_if (pt_not (pt_val (pe_call G2 hr (by rfl) m2 k2 b2 .nil pass0 (pa_cons (pv 2) (pa_cons (bLen (by rfl) T.len (pv 1)) pa_nil))))) (pss_one ps_never) pss_nil)
      (pss_cons (ps_if (pt_not (pt_val (pe_call G3 hr1 (by rfl) m3 k3 b3 .nil pass0 (pa_cons (pv 3) (pa_cons (bLen (by rfl) T.len (pv 2)) pa_nil))))) (pss_one ps_never) pss_nil)
      (pss_cons (ps_fld (pv 0) (pv 1) rfl)
      (pss_cons (ps_fld (pv 0) (bTup (by rfl) T.tuple (pe_lc (own := [("onward", 4)]) (g := gName 4) (tt := tYes) (te := tCB (rTup K) (tCons (tVar 4) tNil)) rfl nd (PI_or (pi_list (pv 2)) (pi_tup (pv 2))) (blkOk_by (N := ["self", "signs", "steps", "told", "onward"]) (sc := defScope sInit) (by decide +kernel))
        (fun _ _ _ _ _ => pg_name (i := 4) nd rfl (Or.inl rfl)) (fun _ _ _ _ _ => pts_nil) (fun _ _ _ _ _ => bTup (by rfl) T.tuple (pv 4)))) rfl)
      (pss_one (ps_fld (pv 0) (bTup (by rfl) T.tuple (pv 3)) rfl)))))), ?_⟩
    have zf := Z.few
    have hx := rows.1
    refine ⟨_, rfl, z, rfl, Z, ?_⟩
    refine ⟨_, rfl, _, rfl, _, z.length, rfl, ⟨len_small (by omega), rfl⟩, a, z, xs, tb, rfl, sa, rows, Z, Tb, fun H1 s1 => ⟨true, rfl, iteF ?_⟩⟩
    refine ⟨_, rfl, _, rfl, _, _, rfl, (sa.same s1).len, b, mk, ?_, sb.same s1, by have := Tb.few; omega, fun H2 s2 => ⟨true, rfl, iteF ?_⟩⟩
    · rw [hx, ml]
      rfl
    have s02 : Same H H2 := Same.trans s1 s2
    have hp2 := s02 _ _ hp
    have na := sq_ne sa hp
    have nb := sq_ne sb hp
    refine ⟨_, rfl, _, rfl, p, C, dx, [], rfl, hp2, M.cl, M.n1, by show 0 < 1000; decide, ?_⟩
    have h3p : upd H2 p (.ins C dx (putF "_signs" (.str z) [])) p = some (.ins C dx (mf1 z)) := upd_same
    have x3 : Ext1 p H (upd H2 p (.ins C dx (putF "_signs" (.str z) []))) := Ext1.trans (Same.ext1 p s02) Ext1.put
    generalize upd H2 p (.ins C dx (putF "_signs" (.str z) [])) = H3 at h3p x3 ⊢
    have sa3 : Sq H3 a xs := sa.ext na x3
    have sb3 : Sq H3 b (mk.map V.bl) := sb.ext nb x3
    have rows3 : Rows (Sq H3) xs tb := rows.mono fun r ys h => h.ext (sq_ne h hp) x3
    have few' : xs.length < sizeLine := by have := Tb.few; rw [sizeLine_eq]; omega
    have rest : ∀ (D : Addr) (H' : Hp) (acc : List V), H3 D = none → H' D = some (.lst acc) → acc.length = xs.length → (Same H3 H' ∧ ∀ j, j < xs.length → ∃ r, acc[j]? = some (.ref r) ∧ H' r = some (.tup ((tb.getD j []).map V.int))) →
        rTup K [.ref D] H' fun y H5 => tVar 0 (L2.start ["self", "signs", "steps", "told", "onward"] [V.ref p, .str z, .ref a, .ref b]) H5 fun x H6 => ∃ a1 C dx fs, x = .ref a1 ∧ H6 a1 = some (.ins C dx fs) ∧ Cls K C ∧ NoAttr K C "_steps" ∧ fs.length < 1000 ∧
          sFld K (tVar 0) (tCB (rTup K) (tCons (tVar 3) tNil)) "_told" { nx := fun _ H' => Q .non H', rt := Q } (L2.start ["self", "signs", "steps", "told", "onward"] [V.ref p, .str z, .ref a, .ref b]) (upd H6 a1 (.ins C dx (putF "_steps" y fs))) := by
      intro D H' acc dn hD hl ⟨s4, hr4⟩
      refine rTup_of (.inl hD) fun st H5 s5 _ hst => ?_
      have p5 : H5 p = some (.ins C dx (mf1 z)) := s5 _ _ (s4 _ _ h3p)
      refine ⟨_, rfl, p, C, dx, _, rfl, p5, M.cl, M.n2, mf1_len z, ?_⟩
      refine ⟨_, rfl, ?_⟩
      dsimp only [tNil]
      refine rTup_of (xs := mk.map V.bl) ?_ fun tt H7 s7 _ htt => ?_
      · exact ((sb3.same s4).same s5).ext nb Ext1.put
      have p6 : H7 p = some (.ins C dx (mf2 z st)) := s7 _ _ upd_same
      refine ⟨_, rfl, p, C, dx, _, rfl, p6, M.cl, M.n3, mf2_len z st, ?_⟩
      have tp : ∀ {l : Addr} {ys : List V}, H5 l = some (.tup ys) → upd H7 p (.ins C dx (mf z st tt)) l = some (.tup ys) := fun {l ys} e => by
        have n : l ≠ p := by rintro rfl; rw [p5] at e; cases e
        rw [upd_ne n]
        refine s7 _ _ ?_
        rw [upd_ne n]; exact e
      refine k _ ?_ ⟨dx, st, tt, upd_same, ⟨acc, tp hst, hl.trans hx, fun j hj => ?_⟩, ?_⟩
      · exact Ext1.trans x3 (Ext1.trans (Same.ext1 p s4) (Ext1.trans (Same.ext1 p s5) (Ext1.trans Ext1.put (Ext1.trans (Same.ext1 p s7) Ext1.put))))
      · obtain ⟨r, e1, e2⟩ := hr4 j (by omega)
        exact ⟨r, e1, tp (s5 _ _ e2)⟩
      · have n : tt ≠ p := by rintro rfl; rw [p6] at htt; cases htt
        rw [upd_ne n]; exact htt
    have el : ∀ (D : Addr) (i : Nat) (x : V) (H' : Hp) (acc : List V) (Q' : VK), H3 D = none → xs[i]? = some x → H' D = some (.lst acc) → acc.length = i → (Same H3 H' ∧ ∀ j, j < i → ∃ r, acc[j]? = some (.ref r) ∧ H' r = some (.tup ((tb.getD j []).map V.int))) →
        (∀ y H4, H4 D = some (.lst acc) → (Same H3 (upd H4 D (.lst (acc ++ [y]))) ∧ ∀ j, j < i + 1 → ∃ r, (acc ++ [y])[j]? = some (.ref r) ∧ upd H4 D (.lst (acc ++ [y])) r = some (.tup ((tb.getD j []).map V.int))) → Q' y H4) →
        tCB (rTup K) (tCons (tVar 4) tNil) ((wipe (L2.start ["self", "signs", "steps", "told", "onward"] [V.ref p, .str z, .ref a, .ref b]) [4]).set 4 (some x)) H' Q' := by
      intro D i x H' acc Q' dn hxi hD hl ⟨s4, hr4⟩ q
      have hi : i < tb.length := by
        have := (List.getElem?_eq_some_iff.mp hxi).1
        omega
      obtain ⟨r, e1, e2⟩ := rows3.2 i hi
      rw [e1] at hxi
      cases hxi
      refine ⟨_, rfl, rTup_of (e2.same s4) fun l H5 s5 _ h5 => q _ H5 (s5 _ _ hD) ⟨Same.putNew dn (Same.trans s4 s5), fun j hj => ?_⟩⟩
      have nD : ∀ {c : Addr} {ys : List V}, H5 c = some (.tup ys) → c ≠ D := fun {c ys} e => by rintro rfl; rw [s5 _ _ hD] at e; cases e
      rcases Nat.lt_succ_iff_lt_or_eq.mp hj with hj | rfl
      · obtain ⟨r, e3, e4⟩ := hr4 j hj
        refine ⟨r, ?_, ?_⟩
        · rw [List.getElem?_append_left (by omega)]; exact e3
        · rw [upd_ne (nD (s5 _ _ e4))]; exact s5 _ _ e4
      · refine ⟨l, ?_, ?_⟩
        · rw [← hl]; simp
        · rw [upd_ne (nD h5)]; exact h5
    rcases sa3 with hl | ht
    · refine .inl ⟨_, rfl, a, rfl, ⟨_, SqL.of hl⟩, fun D hD => lcGen walk_list (fun i H' acc => Same H3 H' ∧ ∀ j, j < i → ∃ r, acc[j]? = some (.ref r) ∧ H' r = some (.tup ((tb.getD j []).map V.int))) few' ⟨Same.new hD, fun j hj => absurd hj (Nat.not_lt_zero _)⟩ (fun i H' acc _ q => SqL.of (q.1 _ _ hl)) (fun _ _ _ _ y => y.1)
        (fun i x H' acc Q' _ h1 h2 h3 y h4 => el D i x H' acc Q' hD y.2 h1 h2 h3 h4) (fun H' acc h1 h2 h3 => rest D H' acc hD h1 h2 h3)⟩
    · refine .inr ⟨_, rfl, a, rfl, ⟨_, SqT.of ht⟩, fun D hD => lcGen walk_tup (fun i H' acc => Same H3 H' ∧ ∀ j, j < i → ∃ r, acc[j]? = some (.ref r) ∧ H' r = some (.tup ((tb.getD j []).map V.int))) few' ⟨Same.new hD, fun j hj => absurd hj (Nat.not_lt_zero _)⟩ (fun i H' acc _ q => SqT.of (q.1 _ _ ht)) (fun _ _ _ _ y => y.1)
        (fun i x H' acc Q' _ h1 h2 h3 y h4 => el D i x H' acc Q' hD y.2 h1 h2 h3 h4) (fun H' acc h1 h2 h3 => rest D H' acc hD h1 h2 h3)⟩
end
end Kx
set_option Elab.async false
set_option maxRecDepth 100000
set_option autoImplicit false
namespace Kx
open PySem L2 PySem.Spec PyProof.Rows Rg
def spLen (C : Addr) : Sp := fun vs H Q _ => ∃ p z tb mk, vs = [.ref p] ∧ Mach C H p z tb mk ∧ Q (.int (tb.length : Nat)) H
def spState (C : Addr) : Sp := fun vs H Q _ => ∃ p z tb mk wd, vs = [.ref p, .str wd] ∧ Mach C H p z tb mk ∧ Zok z ∧ Tab z tb ∧ Word z wd ∧ wd.length ≤ 1000 ∧ Q (.int (runZ z tb 0 wd.cps.toList)) H
def spStep (C : Addr) : Sp := fun vs H Q _ => ∃ p z tb mk s wd, vs = [.ref p, .int s, .str wd] ∧ Mach C H p z tb mk ∧ Zok z ∧ Tab z tb ∧ 0 ≤ s ∧ s < tb.length ∧ Word z wd ∧ wd.length ≤ 1000 ∧ Q (.int (runZ z tb s wd.cps.toList)) H
def markZ (z : Str) (tb : List (List Int)) (mk : List Bool) (wd : Str) : Bool := mk.getD (runZ z tb 0 wd.cps.toList).toNat false
def spItem (C : Addr) : Sp := fun vs H Q _ => ∃ p z tb mk wd, vs = [.ref p, .str wd] ∧ Mach C H p z tb mk ∧ Zok z ∧ Tab z tb ∧ mk.length = tb.length ∧ Word z wd ∧ wd.length ≤ 1000 ∧ Q (.bl (markZ z tb mk wd)) H
section
variable {P : Program} {w : World} {K : PySem.W.Frag} {mg : Str → Option Value} {base : Heap}
theorem scSigns : FnScope ["self"] ["self"] (defScope sSigns) := ⟨rfl, rfl, rfl, by decide +kernel, rfl, by decide +kernel, by decide +kernel⟩
theorem ok_signs {C f : Addr} {fd : FuncData} (F : Fun K "signs" "Machine.signs" sSigns f fd) (M : MT K mg C) : FnOk P w K mg base CX0 1 f fd ["self"] (getSp C "_signs") := by
  refine F.ok scSigns (fun vs H Q E h => ?_) (fun cdv A outer s H vs Q E hr h => ?_)
  · obtain ⟨a, dx, fs, v, rfl, _⟩ := h
    rfl
  · obtain ⟨a, dx, fs, v, rfl, e, l, q⟩ := h
    exact ⟨_, pss_one (ps_ret (pe_fld (pv 0) rfl)), _, rfl, a, C, dx, fs, v, rfl, e, M.cl, M.n1, l, q⟩
theorem scSteps : FnScope ["self"] ["self"] (defScope sSteps) := ⟨rfl, rfl, rfl, by decide +kernel, rfl, by decide +kernel, by decide +kernel⟩
theorem ok_steps {C f : Addr} {fd : FuncData} (F : Fun K "steps" "Machine.steps" sSteps f fd) (M : MT K mg C) : FnOk P w K mg base CX0 1 f fd ["self"] (getSp C "_steps") := by
  refine F.ok scSteps (fun vs H Q E h => ?_) (fun cdv A outer s H vs Q E hr h => ?_)
  · obtain ⟨a, dx, fs, v, rfl, _⟩ := h
    rfl
  · obtain ⟨a, dx, fs, v, rfl, e, l, q⟩ := h
    exact ⟨_, pss_one (ps_ret (pe_fld (pv 0) rfl)), _, rfl, a, C, dx, fs, v, rfl, e, M.cl, M.n2, l, q⟩
theorem scTold : FnScope ["self"] ["self"] (defScope sTold) := ⟨rfl, rfl, rfl, by decide +kernel, rfl, by decide +kernel, by decide +kernel⟩
theorem ok_told {C f : Addr} {fd : FuncData} (F : Fun K "told" "Machine.told" sTold f fd) (M : MT K mg C) : FnOk P w K mg base CX0 1 f fd ["self"] (getSp C "_told") := by
  refine F.ok scTold (fun vs H Q E h => ?_) (fun cdv A outer s H vs Q E hr h => ?_)
  · obtain ⟨a, dx, fs, v, rfl, _⟩ := h
    rfl
  · obtain ⟨a, dx, fs, v, rfl, e, l, q⟩ := h
    exact ⟨_, pss_one (ps_ret (pe_fld (pv 0) rfl)), _, rfl, a, C, dx, fs, v, rfl, e, M.cl, M.n3, l, q⟩
theorem scLen : FnScope ["self"] ["self"] (defScope sLen) := ⟨rfl, rfl, rfl, by decide +kernel, rfl, by decide +kernel, by decide +kernel⟩
theorem ok_len {C f : Addr} {fd : FuncData} (F : Fun K "__len__" "Machine.__len__" sLen f fd) (T : Txt mg) (M : MT K mg C) : FnOk P w K mg base CX0 1 f fd ["self"] (spLen C) := by
  refine F.ok scLen (fun vs H Q E h => ?_) (fun cdv A outer s H vs Q E hr h => ?_)
  · obtain ⟨p, z, tb, mk, rfl, _⟩ := h
    rfl
  · obtain ⟨p, z, tb, mk, rfl, ⟨dx, st, tt, hp, ⟨xs, hs, rows⟩, ht⟩, q⟩ := h
    refine ⟨_, pss_one (ps_ret (bLen (by rfl) T.len (pe_fld (pv 0) rfl))), ?_⟩
    refine ⟨_, rfl, p, C, dx, _, _, rfl, hp, M.cl, M.n2, mf_steps _ _ _, _, _, rfl, Sq.len (.inr hs), ?_⟩
    rw [rows.1]
    exact q
theorem scState : FnScope ["self", "row"] ["self", "row"] (defScope sState) := ⟨rfl, rfl, rfl, by decide +kernel, rfl, by decide +kernel, by decide +kernel⟩
theorem ok_state {C f f1 f2 : Addr} {fd fd1 fd2 : FuncData} (F : Fun K "state" "Machine.state" sState f fd) (M : MT K mg C)
    (G1 : FnOk P w K mg base CX0 2 f1 fd1 ["signs", "value"] spWrong) (m1 : mg "check_row" = some (.ref f1)) (k1 : PySem.W.keepIn K (.ref f1) = true) (b1 : Binds K fd1 ["signs", "value"] [])
    (G2 : FnOk P w K mg base CX0 1 f2 fd2 ["signs", "steps", "state", "text"] spLedOn) (m2 : mg "led_on" = some (.ref f2)) (k2 : PySem.W.keepIn K (.ref f2) = true) (b2 : Binds K fd2 ["signs", "steps", "state", "text"] []) : FnOk P w K mg base CX0 3 f fd ["self", "row"] (spState C) := by
  refine F.ok scState (fun vs H Q E h => ?_) (fun cdv A outer s H vs Q E hr h => ?_)
  · obtain ⟨p, z, tb, mk, wd, rfl, _⟩ := h
    rfl
  · obtain ⟨p, z, tb, mk, wd, rfl, ⟨dx, st, tt, hp, hs, ht⟩, Z, Tb, hw, hl, q⟩ := h
    have hr1 := hr.mono (show 1 ≤ 2 by decide)
    have tp := Tb.pos
    refine ⟨_, pss_cons (ps_expr (pe_call G1 hr (by rfl) m1 k1 b1 .nil pass0 (pa_cons (pe_fld (pv 0) rfl) (pa_cons (pv 1) pa_nil))))
      (pss_one (ps_ret (pe_call G2 hr1 (by rfl) m2 k2 b2 .nil pass0 (pa_cons (pe_fld (pv 0) rfl) (pa_cons (pe_fld (pv 0) rfl) (pa_cons pe_int (pa_cons (pv 1) pa_nil))))))), ?_⟩
    refine ⟨_, rfl, p, C, dx, _, _, rfl, hp, M.cl, M.n1, mf_signs _ _ _, _, rfl, z, wd, rfl, hw, hl, ?_⟩
    exact ⟨_, rfl, p, C, dx, _, _, rfl, hp, M.cl, M.n1, mf_signs _ _ _, _, rfl, p, C, dx, _, _, rfl, hp, M.cl, M.n2, mf_steps _ _ _, _, rfl, z, st, tb, 0, wd, rfl, Z, Tb, hs, by decide, by omega, hw, q⟩
theorem scStep : FnScope ["self", "state", "text"] ["self", "state", "text"] (defScope sStep) := ⟨rfl, rfl, rfl, by decide +kernel, rfl, by decide +kernel, by decide +kernel⟩
theorem ok_step {C f f1 f2 f3 : Addr} {fd fd1 fd2 fd3 : FuncData} (F : Fun K "step" "Machine.step" sStep f fd) (T : Txt mg) (M : MT K mg C)
    (G1 : FnOk P w K mg base CX0 2 f1 fd1 ["signs", "value"] spWrong) (m1 : mg "check_row" = some (.ref f1)) (k1 : PySem.W.keepIn K (.ref f1) = true) (b1 : Binds K fd1 ["signs", "value"] [])
    (G2 : FnOk P w K mg base CX0 1 f2 fd2 ["signs", "steps", "state", "text"] spLedOn) (m2 : mg "led_on" = some (.ref f2)) (k2 : PySem.W.keepIn K (.ref f2) = true) (b2 : Binds K fd2 ["signs", "steps", "state", "text"] [])
    (G3 : FnOk P w K mg base CX0 2 f3 fd3 ["value", "low", "high"] spFromTo) (m3 : mg "is_from_to" = some (.ref f3)) (k3 : PySem.W.keepIn K (.ref f3) = true) (b3 : Binds K fd3 ["value", "low", "high"] []) : FnOk P w K mg base CX0 3 f fd ["self", "state", "text"] (spStep C) := by
  refine F.ok scStep (fun vs H Q E h => ?_) (fun cdv A outer s H vs Q E hr h => ?_)
  · obtain ⟨p, z, tb, mk, i, wd, rfl, _⟩ := h
    rfl
  · obtain ⟨p, z, tb, mk, i, wd, rfl, ⟨dx, st, tt, hp, hs, ht⟩, Z, Tb, i0, i1, hw, hl, q⟩ := h
    have hr1 := hr.mono (show 1 ≤ 2 by decide)
    have ⟨xs, hx, rows⟩ := id hs
    refine ⟨_, pss_cons (ps_if (pt_not (pt_val (pe_call G3 hr (by rfl) m3 k3 b3 .nil pass0 (pa_cons (pv 1) (pa_cons pe_int (pa_cons (pe_op op_sub (bLen (by rfl) T.len (pe_fld (pv 0) rfl)) pe_int) pa_nil)))))) (pss_one ps_never) pss_nil)
      (pss_cons (ps_expr (pe_call G1 hr (by rfl) m1 k1 b1 .nil pass0 (pa_cons (pe_fld (pv 0) rfl) (pa_cons (pv 2) pa_nil))))
      (pss_one (ps_ret (pe_call G2 hr1 (by rfl) m2 k2 b2 .nil pass0 (pa_cons (pe_fld (pv 0) rfl) (pa_cons (pe_fld (pv 0) rfl) (pa_cons (pv 1) (pa_cons (pv 2) pa_nil)))))))), ?_⟩
    refine ⟨_, rfl, _, rfl, p, C, dx, _, _, rfl, hp, M.cl, M.n2, mf_steps _ _ _, _, _, rfl, Sq.len (.inr hx), _, _, rfl, rfl, i, 0, _, rfl, ?_⟩
    have e1 : decide ((0 : Int) ≤ i) = true := decide_eq_true i0
    have e2 : decide (i ≤ ((xs.length : Nat) : Int) - 1) = true := decide_eq_true (by rw [rows.1]; omega)
    rw [e1, e2]
    refine ⟨_, rfl, iteF ?_⟩
    refine ⟨_, rfl, p, C, dx, _, _, rfl, hp, M.cl, M.n1, mf_signs _ _ _, _, rfl, z, wd, rfl, hw, hl, ?_⟩
    exact ⟨_, rfl, p, C, dx, _, _, rfl, hp, M.cl, M.n1, mf_signs _ _ _, _, rfl, p, C, dx, _, _, rfl, hp, M.cl, M.n2, mf_steps _ _ _, _, rfl, _, rfl, z, st, tb, i, wd, rfl, Z, Tb, hs, i0, i1, hw, q⟩
theorem scItem : FnScope ["self", "at"] ["self", "at"] (defScope sItem) := ⟨rfl, rfl, rfl, by decide +kernel, rfl, by decide +kernel, by decide +kernel⟩
theorem ok_item {C f f1 : Addr} {fd fd1 : FuncData} (F : Fun K "__getitem__" "Machine.__getitem__" sItem f fd) (M : MT K mg C)
    (G1 : FnOk P w K mg base CX0 3 f1 fd1 ["self", "row"] (spState C)) (m1 : Meth K C "state" f1) (b1 : Binds K fd1 ["self", "row"] []) : FnOk P w K mg base CX0 4 f fd ["self", "at"] (spItem C) := by
  refine F.ok scItem (fun vs H Q E h => ?_) (fun cdv A outer s H vs Q E hr h => ?_)
  · obtain ⟨p, z, tb, mk, wd, rfl, _⟩ := h
    rfl
  · obtain ⟨p, z, tb, mk, wd, rfl, m, Z, Tb, ml, hw, hl, q⟩ := h
    obtain ⟨dx, st, tt, hp, hs, ht⟩ := id m
    refine ⟨_, pss_one (ps_ret (pe_ix ix_tup (pe_fld (pv 0) rfl) (pe_meth (pv 0) M.cl m1 G1 hr b1 .nil pass0 (pa_cons (pv 1) pa_nil)) (fun _ _ => rfl))), ?_⟩
    refine ⟨_, rfl, p, C, dx, _, _, rfl, hp, M.cl, M.n3, mf_told _ _ _, _, rfl, p, dx, _, rfl, hp, mf_no _ _ _ (by decide +kernel) (by decide +kernel) (by decide +kernel), _, rfl, p, z, tb, mk, wd, rfl, m, Z, Tb, hw, hl, ?_⟩
    obtain ⟨r0, r1⟩ := runZ_ok Z Tb wd.cps.toList (s := 0) (by decide) (by have := Tb.pos; omega) hw
    refine ⟨tt, _, _, _, rfl, rfl, SqT.of ht, atI_int r0 ?_, q⟩
    unfold markZ
    have hb : (runZ z tb 0 wd.cps.toList).toNat < mk.length := by omega
    rw [List.getElem?_map, List.getD_eq_getElem?_getD, List.getElem?_eq_getElem hb]
    rfl
theorem scHas : FnScope ["self", "x"] ["self", "x"] (defScope sHas) := ⟨rfl, rfl, rfl, by decide +kernel, rfl, by decide +kernel, by decide +kernel⟩
theorem ok_has {C f f1 f2 : Addr} {fd fd1 fd2 : FuncData} (F : Fun K "__contains__" "Machine.__contains__" sHas f fd) (M : MT K mg C)
    (G1 : FnOk P w K mg base CX0 1 f1 fd1 ["signs", "value"] spWrong) (m1 : mg "wrong_at" = some (.ref f1)) (k1 : PySem.W.keepIn K (.ref f1) = true) (b1 : Binds K fd1 ["signs", "value"] [])
    (G2 : FnOk P w K mg base CX0 4 f2 fd2 ["self", "at"] (spItem C)) (a2 : PySem.W.findIn K (.ref C) "__getitem__" = some (some (.ref f2))) (i2 : PySem.W.fnIn K f2 = true) (n2 : PySem.W.isFn K (.ref f2) = true) (b2 : Binds K fd2 ["self", "at"] []) : FnOk P w K mg base CX0 6 f fd ["self", "x"] (spItem C) := by
  refine F.ok scHas (fun vs H Q E h => ?_) (fun cdv A outer s H vs Q E hr h => ?_)
  · obtain ⟨p, z, tb, mk, wd, rfl, _⟩ := h
    rfl
  · obtain ⟨p, z, tb, mk, wd, rfl, m, Z, Tb, ml, hw, hl, q⟩ := h
    obtain ⟨dx, st, tt, hp, hs, ht⟩ := id m
    have hr1 := hr.mono (show 1 ≤ 5 by decide)
    refine ⟨_, pss_one (ps_ret (pe_and (pe_cmp (pc_isN (pe_call G1 hr1 (by rfl) m1 k1 b1 .nil pass0 (pa_cons (pe_fld (pv 0) rfl) (pa_cons (pv 1) pa_nil))))) (pe_one (pe_item G2 hr b2 pass0 a2 i2 n2 (pv 0) (pv 1))))), ?_⟩
    refine ⟨_, rfl, p, C, dx, _, _, rfl, hp, M.cl, M.n1, mf_signs _ _ _, _, rfl, z, wd, rfl, hw, hl, ?_⟩
    refine ⟨true, rfl, iteT ⟨_, rfl, _, rfl, p, dx, _, rfl, hp, p, z, tb, mk, wd, rfl, m, Z, Tb, ml, hw, hl, q⟩⟩
end
end Kx
set_option Elab.async false
set_option maxRecDepth 100000
set_option autoImplicit false
namespace Kx
open PySem L2 PySem.Spec PyProof.Rows Rg
abbrev sLetters : Stmt := top 46
abbrev sPlan : Stmt := top 47
abbrev sSpot : Stmt := top 48
abbrev sWord : Stmt := top 49
abbrev sMade : Stmt := top 50
abbrev sRight : Stmt := top 51
abbrev sLaw : Stmt := top 52

/-! ### the pen at p, its cells at c; all else grows -/
def Ink (c p : Addr) (n : Nat) (H H' : Hp) : Prop := Ext1 p H H' ∧ PenAt c n H' p
theorem PenAt.ne1 {c p q : Addr} {n : Nat} {H : Hp} (h : PenAt c n H p) (e : H q = none) : q ≠ p := by
  rintro rfl
  obtain ⟨ns, a, g, h1, _⟩ := h
  rw [h1] at e; cases e
theorem PenAt.ne2 {c p q : Addr} {n : Nat} {H : Hp} (h : PenAt c n H p) (e : H q = none) : q ≠ c := by
  rintro rfl
  obtain ⟨ns, a, g, _, h2, _⟩ := h
  rw [h2] at e; cases e
theorem PenAt.put {c p q : Addr} {n : Nat} {H : Hp} {o : HO} (h : PenAt c n H p) (n1 : q ≠ p) (n2 : q ≠ c) : PenAt c n (upd H q o) p := by
  obtain ⟨ns, a, g, h1, h2, h3⟩ := h
  exact ⟨ns, a, g, by rw [upd_ne n1.symm]; exact h1, by rw [upd_ne n2.symm]; exact h2, h3⟩
theorem Ink.start {c p : Addr} {n : Nat} {H : Hp} (h : PenAt c n H p) : Ink c p n H H := ⟨Ext1.refl p H, h⟩
theorem Ink.trans {c p : Addr} {n m : Nat} {H H1 H2 : Hp} (a : Ink c p n H H1) (b : Ink c p m H1 H2) : Ink c p m H H2 := ⟨Ext1.trans a.1 b.1, b.2⟩
theorem Ink.same {c p : Addr} {n : Nat} {H H1 H2 : Hp} (a : Ink c p n H H1) (b : Same H1 H2) : Ink c p n H H2 := ⟨Ext1.trans a.1 (Same.ext1 p b), a.2.ext b⟩
theorem Ink.new {c p q : Addr} {n : Nat} {H H1 : Hp} {o : HO} (a : Ink c p n H H1) (e : H1 q = none) : Ink c p n H (upd H1 q o) := a.same (Same.new e)
theorem Ink.mono {c p : Addr} {n m : Nat} {H H1 : Hp} (a : Ink c p n H H1) (l : n ≤ m) : Ink c p m H H1 := ⟨a.1, a.2.mono l⟩
/-- what is new to H may change: H grows all the same -/
theorem Ext1.putNew {p q : Addr} {H H1 : Hp} {o : HO} (a : Ext1 p H H1) (e : H q = none) : Ext1 p H (upd H1 q o) := fun b u n z => by rw [upd_ne (ne_of_none z e)]; exact a b u n z
theorem Ink.putNew {c p q : Addr} {n k : Nat} {H H1 : Hp} {o : HO} (a : Ink c p n H H1) (s : PenAt c k H p) (e : H q = none) : Ink c p n H (upd H1 q o) := ⟨a.1.putNew e, a.2.put (s.ne1 e) (s.ne2 e)⟩

/-! ### _law_pen -/
def spPen (K : PySem.W.Frag) : Sp := fun vs H Q _ => ∃ (a : Addr) (ns : List Int), vs = [.ref a] ∧ SqL K H a (ns.map V.int) ∧ ns.length ≤ 63 ∧ ∀ c p H', Same H H' → PenAt c 0 H' p → Q (.ref p) H'
theorem bList {X : Cx} {e : Expr} {te : TE} {p pos : Pos} (hg : Gl X "list") (m : X.mg "list" = none) (he : PE X e te) (na : starEach [e] X.env = (false, eval e X.env) :: starEach [] X.env := by rfl) :
    PE X (.Call (.Name "list" p) [e] [] pos) (tCB (fun xs H Q => ∃ p ys, xs = [.ref p] ∧ (SqL X.K H p ys ∨ SqT X.K H p ys) ∧ ∀ l, H l = none → Q (.ref l) (upd H l (.lst ys))) (tCons te tNil)) :=
  pe_callTy call_list_of hg m (by decide +kernel) (pa_cons he pa_nil na) (he := na)
section
variable {P : Program} {w : World} {K : PySem.W.Frag} {mg : Str → Option Value} {base : Heap}
theorem scPen : FnScope ["_law_script"] ["_law_script"] (defScope sPen) := ⟨rfl, rfl, rfl, by decide +kernel, rfl, by decide +kernel, by decide +kernel⟩
theorem ok_pen {f : Addr} {fd : FuncData} (F : Fun K "_law_pen" "_law_pen" sPen f fd) (T : Txt mg) : FnOk P w K mg base CX0 1 f fd ["_law_script"] (spPen K) := by
  refine F.ok scPen (fun vs H Q E h => ?_) (fun cdv A outer s H vs Q E hr h => ?_)
  · obtain ⟨a, ns, rfl, _⟩ := h
    rfl
  · obtain ⟨a, ns, rfl, hs, hl, k⟩ := h
    refine ⟨_, pss_one (ps_ret (pe_lst (pa_cons (bList (by rfl) T.list (pe_slice sl_list (pv 0) po_none (po_some pe_int))) (pa_cons pe_int (pa_cons pe_int pa_nil))))), ?_⟩
    refine ⟨_, rfl, _, rfl, a, _, rfl, hs, fun q hq => ?_⟩
    have e : cutV (ns.map V.int) none (some 63) = ns.map V.int := by
      unfold cutV
      rw [show HT.sIx (ns.map V.int).length 0 none = 0 from rfl, show HT.sIx (ns.map V.int).length (ns.map V.int).length (some 63) = min 63 (ns.map V.int).length from HT.sIx_nat _ _ 63, List.drop_zero, Nat.sub_zero]
      exact List.take_of_length_le (by rw [List.length_map]; omega)
    rw [e]
    refine ⟨q, _, rfl, .inl (SqL.of upd_same), fun c hc => ⟨by show 3 ≤ sizeLine; decide, fun p hp => ?_⟩⟩
    have cp : c ≠ p := by rintro rfl; rw [upd_same] at hp; cases hp
    refine k c p _ ?_ ⟨ns, 0, 0, upd_same, by rw [upd_ne cp, upd_same], cp, hl, by decide, by decide⟩
    exact Same.trans (Same.new hq) (Same.trans (Same.new hc) (Same.new hp))

/-! ### _law_pick, _law_letters -/
theorem ix_or {X : Cx} {r1 r2 : R2} (h1 : IxR X r1) (h2 : IxR X r2) : IxR X (fun x y H Q => r1 x y H Q ∨ r2 x y H Q) := fun a b pins s σ H x y v u Q I rx ry h hs => h.elim (fun h => h1 a b pins s σ H x y v u Q I rx ry h hs) (fun h => h2 a b pins s σ H x y v u Q I rx ry h hs)
def spPick : Sp := fun vs H Q _ => ∃ (c p : Addr) (n : Nat), n ≤ 1000000 ∧ PenAt c n H p ∧
  ((∃ a xs, vs = [.ref p, .ref a] ∧ a ≠ p ∧ H a = some (.lst xs) ∧ 0 < xs.length ∧ xs.length ≤ 1000 ∧ ∀ v H', v ∈ xs → PenAt c (n + 1) H' p → Ext1 p H H' → Q v H') ∨
  (∃ z : Str, vs = [.ref p, .str z] ∧ 0 < z.length ∧ z.length ≤ 1000 ∧ ∀ d H', d ∈ z.cps.toList → PenAt c (n + 1) H' p → Ext1 p H H' → Q (.str ⟨#[d]⟩) H'))
theorem atI_some {α : Type} {xs : List α} {i : Int} (i0 : 0 ≤ i) (i1 : i < xs.length) : ∃ v, v ∈ xs ∧ atI xs i = some v := by
  have h : i.toNat < xs.length := by omega
  exact ⟨xs[i.toNat], List.getElem_mem h, atI_int i0 (List.getElem?_eq_getElem h)⟩
theorem scPick : FnScope ["_law_pen_here", "_law_some"] ["_law_pen_here", "_law_some"] (defScope sPick) := ⟨rfl, rfl, rfl, by decide +kernel, rfl, by decide +kernel, by decide +kernel⟩
theorem ok_pick {f f1 : Addr} {fd fd1 : FuncData} (F : Fun K "_law_pick" "_law_pick" sPick f fd) (T : Txt mg) (G : FnOk P w K mg base CX0 1 f1 fd1 ["_law_pen_here", "_law_many"] spDraw) (m1 : mg "_law_draw" = some (.ref f1)) (k1 : PySem.W.keepIn K (.ref f1) = true)
    (b1 : Binds K fd1 ["_law_pen_here", "_law_many"] []) : FnOk P w K mg base CX0 2 f fd ["_law_pen_here", "_law_some"] spPick := by
  refine F.ok scPick (fun vs H Q E h => ?_) (fun cdv A outer s H vs Q E hr h => ?_)
  · obtain ⟨c, p, n, _, _, ⟨a, xs, rfl, _⟩ | ⟨z, rfl, _⟩⟩ := h <;> rfl
  · obtain ⟨c, p, n, nb, pen, h⟩ := h
    refine ⟨_, pss_one (ps_ret (pe_ix (ix_or ix_list ix_str) (pv 1) (pe_call G hr (by rfl) m1 k1 b1 .nil pass0 (pa_cons (pv 0) (pa_cons (bLen (by rfl) T.len (pv 1)) pa_nil))) (fun _ _ => rfl))), ?_⟩
    rcases h with ⟨a, xs, rfl, ap, ha, l0, l1, k⟩ | ⟨z, rfl, l0, l1, k⟩
    · refine ⟨_, rfl, _, rfl, _, rfl, _, _, rfl, Sq.len (.inl ha), c, p, _, n, rfl, by omega, by omega, nb, pen, fun r H' r0 r1 pen' x => ?_⟩
      obtain ⟨v, hv, e⟩ := atI_some r0 r1
      exact .inl ⟨a, xs, r, v, rfl, rfl, SqL.of (x _ _ ap ha), e, k v H' hv pen' x⟩
    · refine ⟨_, rfl, _, rfl, _, rfl, _, z.length, rfl, ⟨len_small l1, rfl⟩, c, p, _, n, rfl, by omega, by omega, nb, pen, fun r H' r0 r1 pen' x => ?_⟩
      obtain ⟨v, hv, e⟩ := atI_some (xs := z.cps.toList) r0 (by rw [Array.length_toList]; exact r1)
      exact .inr ⟨z, r, v, rfl, rfl, len_small l1, e, k v H' hv pen' x⟩
def spLetters : Sp := fun vs H Q _ => ∃ (c p : Addr) (n : Nat), vs = [.ref p] ∧ n ≤ 1000000 ∧ PenAt c n H p ∧ ∀ z H', z ∈ five → Ink c p (n + 1) H H' → Q (.str z) H'
theorem scLetters : FnScope ["_law_pen_here"] ["_law_pen_here"] (defScope sLetters) := ⟨rfl, rfl, rfl, by decide +kernel, rfl, by decide +kernel, by decide +kernel⟩
theorem ok_letters {f f1 : Addr} {fd fd1 : FuncData} (F : Fun K "_law_letters" "_law_letters" sLetters f fd) (G : FnOk P w K mg base CX0 2 f1 fd1 ["_law_pen_here", "_law_some"] spPick) (m1 : mg "_law_pick" = some (.ref f1)) (k1 : PySem.W.keepIn K (.ref f1) = true)
    (b1 : Binds K fd1 ["_law_pen_here", "_law_some"] []) : FnOk P w K mg base CX0 3 f fd ["_law_pen_here"] spLetters := by
  refine F.ok scLetters (fun vs H Q E h => ?_) (fun cdv A outer s H vs Q E hr h => ?_)
  · obtain ⟨c, p, n, rfl, _⟩ := h
    rfl
  · obtain ⟨c, p, n, rfl, nb, pen, k⟩ := h
    refine ⟨_, pss_one (ps_ret (pe_call G hr (by rfl) m1 k1 b1 .nil pass0 (pa_cons (pv 0) (pa_cons (pe_lst (pa_cons pe_str (pa_cons pe_str (pa_cons pe_str (pa_cons pe_str (pa_cons pe_str (pa_cons pe_str pa_nil))))))) pa_nil)))), ?_⟩
    refine ⟨_, rfl, by show 6 ≤ sizeLine; decide, fun q hq => ⟨c, p, n, nb, pen.new hq, .inl ⟨q, _, rfl, pen.ne1 hq, upd_same, by decide, by decide, fun v H' hv pen' x => ?_⟩⟩⟩
    have i1 : Ink c p (n + 1) H H' := ⟨Ext1.trans (Ext1.new hq) x, pen'⟩
    simp only [List.mem_cons, List.not_mem_nil, or_false] at hv
    rcases hv with rfl | rfl | rfl | rfl | rfl | rfl <;> exact k _ _ (by decide) i1

/-! ### _law_spot -/
/-- at a a table as lists, beside the pen -/
def LTab (p : Addr) (H : Hp) (a : Addr) (tb : List (List Int)) : Prop := a ≠ p ∧ ∃ xs, H a = some (.lst xs) ∧ Rows (fun r ys => r ≠ p ∧ H r = some (.lst ys)) xs tb
theorem LTab.ext {p a : Addr} {H H' : Hp} {tb : List (List Int)} (h : LTab p H a tb) (e : Ext1 p H H') : LTab p H' a tb := by
  obtain ⟨n, xs, h1, h2⟩ := h
  exact ⟨n, xs, e _ _ n h1, h2.mono fun r ys q => ⟨q.1, e _ _ q.1 q.2⟩⟩
def spSpot : Sp := fun vs H Q _ => ∃ (p : Addr) (z : Str) (a : Addr) (tb : List (List Int)) (s : Int) (wd : Str), vs = [.str z, .ref a, .int s, .str wd] ∧ Zok z ∧ Tab z tb ∧ LTab p H a tb ∧ 0 ≤ s ∧ s < tb.length ∧ Word z wd ∧ Q (.int (runZ z tb s wd.cps.toList)) H
theorem scSpot : FnScope ["_law_letters_here", "_law_table", "_law_begin", "_law_word_here", "_law_spot_here", "_law_letter"] ["_law_letters_here", "_law_table", "_law_begin", "_law_word_here"] (defScope sSpot) := ⟨rfl, rfl, rfl, by decide +kernel, rfl, by decide +kernel, by decide +kernel⟩
theorem ok_spot {f : Addr} {fd : FuncData} (F : Fun K "_law_spot" "_law_spot" sSpot f fd) : FnOk P w K mg base CX0 1 f fd ["_law_letters_here", "_law_table", "_law_begin", "_law_word_here"] spSpot := by
  refine F.ok scSpot (fun vs H Q E h => ?_) (fun cdv A outer s H vs Q E hr h => ?_)
  · obtain ⟨p, z, a, tb, i, wd, rfl, _⟩ := h
    rfl
  · obtain ⟨p, z, st, tb, i0, wd, rfl, Z, T, ⟨_, xs, hst, rows⟩, i1, i2, hw, k⟩ := h
    have nd := scSpot.nd
    refine ⟨_, pss_cons (ps_set (i := 4) nd rfl (.inl rfl) (pv 2)) (pss_cons (ps_for PassesOwn.never rfl (pi_str (pv 3)) (pg_name (i := 5) nd rfl (Or.inl rfl))
        (pss_one (ps_set (i := 4) nd rfl (.inl rfl) (pe_ix ix_list (pe_ix ix_list (pv 1) (pv 4) (fun _ _ => rfl)) (bIndex rfl takes0 (pv 0) (pv 5)) (fun _ _ => rfl))))) (pss_one (ps_ret (pv 4)))), ?_⟩
    refine ⟨_, rfl, _, rfl, wd, rfl, for_it walk_str (fun j σ' H' => ∃ y, σ' = [some (.str z), some (.ref st), some (.int i0), some (.str wd), some (.int (runZ z tb i0 (wd.cps.toList.take j))), y] ∧ H' = H) ⟨none, rfl, rfl⟩ (fun _ _ _ _ _ => trivial) ?_ ?_⟩
    · rintro j x σ' H' H2 hj ⟨y, rfl, rfl⟩ ⟨rfl, c, hc, rfl⟩
      have hc' : wd.cps.toList[j]? = some c := by rw [Array.getElem?_toList]; exact hc
      have hin : c ∈ z.cps.toList := hw c (List.mem_of_getElem? hc')
      have sub : ∀ d ∈ wd.cps.toList.take j, d ∈ z.cps.toList := fun d hd => hw d (List.mem_of_mem_take hd)
      obtain ⟨r0, r1⟩ := runZ_ok Z T (wd.cps.toList.take j) i1 i2 sub
      obtain ⟨a, ys, e1, e2, e3⟩ := rows.step Z T r0 r1 hin
      refine ⟨_, rfl, _, rfl, st, _, _, _, rfl, rfl, SqL.of hst, e1, _, rfl, rfl, _, rfl, z, ⟨#[c]⟩, rfl, rfl, fun m hm => ?_, fun q => ?_⟩
      · rw [(Z.ix c hin).1] at hm
        cases hm
        refine ⟨a, _, _, _, rfl, rfl, SqL.of e2.2, e3, some (.str ⟨#[c]⟩), ?_, rfl⟩
        show [some (V.str z), some (.ref st), some (.int i0), some (.str wd), some (.int (stepZ z tb (runZ z tb i0 (wd.cps.toList.take j)) c)), some (.str ⟨#[c]⟩)] = _
        rw [runZ_take hc']
      · rw [(Z.ix c hin).1] at q
        cases q
    · rintro σ' H' ⟨y, rfl, rfl⟩
      have e : wd.cps.toList.take wd.cps.size = wd.cps.toList := by rw [List.take_of_length_le]; simp
      rw [e]
      exact ⟨_, rfl, k⟩
end
end Kx
set_option Elab.async false
set_option maxRecDepth 100000
set_option autoImplicit false
namespace Kx
open PySem L2 PySem.Spec PyProof.Rows Rg
theorem joinL_one : ∀ cs : List Nat, TL.joinL [] (cs.map fun d => [d]) = cs
  | [] => rfl
  | [_] => rfl
  | a :: b :: r => by
    have e := joinL_one (b :: r)
    show [a] ++ ([] ++ TL.joinL [] ((b :: r).map fun d => [d])) = a :: b :: r
    rw [e]
    rfl
theorem join_one (cs : List Nat) : Txt.join ("" : Str) (cs.map fun d => (⟨#[d]⟩ : Str)) = ⟨cs.toArray⟩ := by
  have e := SX.join_S [] (cs.map fun d => [d])
  rw [joinL_one, List.map_map] at e
  exact e
theorem sum_one : ∀ cs : List Nat, ((cs.map fun d => (⟨#[d]⟩ : Str)).map (·.length)).sum = cs.length
  | [] => rfl
  | a :: r => by
    rw [List.map_cons, List.map_cons, List.sum_cons, sum_one r, List.length_cons]
    show 1 + r.length = _
    omega
def spWord : Sp := fun vs H Q _ => ∃ (c p : Addr) (n : Nat) (z : Str) (b : Int), vs = [.ref p, .str z, .int b] ∧ n ≤ 900000 ∧ PenAt c n H p ∧ Zok z ∧ 0 ≤ b ∧ b ≤ 40 ∧ ∀ (wd : Str) H', Word z wd → wd.length ≤ 40 → Ink c p (n + 41) H H' → Q (.str wd) H'
section
variable {P : Program} {w : World} {K : PySem.W.Frag} {mg : Str → Option Value} {base : Heap}
theorem scWord : FnScope ["_law_pen_here", "_law_letters_here", "_law_bound", "_law_k"] ["_law_pen_here", "_law_letters_here", "_law_bound"] (defScope sWord) := ⟨rfl, rfl, rfl, by decide +kernel, rfl, by decide +kernel, by decide +kernel⟩
theorem ok_word {f f1 f2 : Addr} {fd fd1 fd2 : FuncData} (F : Fun K "_law_word" "_law_word" sWord f fd) (T : Txt mg)
    (G1 : FnOk P w K mg base CX0 1 f1 fd1 ["_law_pen_here", "_law_many"] spDraw) (m1 : mg "_law_draw" = some (.ref f1)) (k1 : PySem.W.keepIn K (.ref f1) = true) (b1 : Binds K fd1 ["_law_pen_here", "_law_many"] [])
    (G2 : FnOk P w K mg base CX0 2 f2 fd2 ["_law_pen_here", "_law_some"] spPick) (m2 : mg "_law_pick" = some (.ref f2)) (k2 : PySem.W.keepIn K (.ref f2) = true) (b2 : Binds K fd2 ["_law_pen_here", "_law_some"] []) :
    FnOk P w K mg base CX0 3 f fd ["_law_pen_here", "_law_letters_here", "_law_bound"] spWord := by
  refine F.ok scWord (fun vs H Q E h => ?_) (fun cdv A outer s H vs Q E hr h => ?_)
  · obtain ⟨c, p, n, z, b, rfl, _⟩ := h
    rfl
  · obtain ⟨c, p, n, z, b, rfl, nb, pen, Z, b0, b1', k⟩ := h
    have nd := scWord.nd
    have hr1 := hr.mono (show 1 ≤ 2 by decide)
    have zf := Z.few
    refine ⟨_, pss_one (ps_ret (pe_join pe_str (pe_lc (own := [("_law_k", 3)]) (g := gName 3) (tt := tYes) rfl nd
      (pi_range1 (by rfl) T.range (pa_cons (pe_call G1 hr1 (by rfl) m1 k1 b1 .nil pass0 (pa_cons (pv 0) (pa_cons (pe_op op_add (pv 2) pe_int) pa_nil))) pa_nil)) (blkOk_by (N := ["_law_pen_here", "_law_letters_here", "_law_bound", "_law_k"]) (sc := defScope sWord) (by decide +kernel))
        (fun _ _ _ _ _ => pg_name (i := 3) nd rfl (Or.inl rfl)) (fun _ _ _ _ _ => pts_nil) (fun _ _ _ _ _ => pe_call G2 hr (by rfl) m2 k2 b2 .nil pass0 (pa_cons (pv 0) (pa_cons (pv 1) pa_nil)))))), ?_⟩
    refine ⟨⟨_, rfl⟩, _, rfl, _, rfl, _, _, rfl, rfl, c, p, _, n, rfl, by omega, by omega, by omega, pen, fun r H1 r0 r1 pen1 x1 => ⟨r, rfl, by omega, by omega, fun D hD => ?_⟩⟩
    have hn : r.toNat ≤ 40 := by omega
    refine lcGen walk_range (fun i H' acc => Ink c p (n + 1 + i) H1 H' ∧ ∃ cs : List Nat, acc = cs.map (fun d => V.str ⟨#[d]⟩) ∧ ∀ d ∈ cs, d ∈ z.cps.toList) (by rw [sizeLine_eq]; omega) ⟨(Ink.start pen1).putNew pen1 hD, [], rfl, fun d hd => absurd hd (List.not_mem_nil)⟩ (fun _ _ _ _ _ => trivial) (fun _ _ _ _ y => y.1) ?_ ?_
    · rintro i x H' acc Q' hi hDl hl ⟨ink, cs, rfl, sub⟩ y q
      refine ⟨_, rfl, _, rfl, c, p, n + 1 + i, by omega, ink.2, .inr ⟨z, rfl, Z.pos, by omega, fun d H4 hd pen4 x4 => q _ H4 (x4 _ _ (pen1.ne1 hD) hDl) ⟨(Ink.trans ink ⟨x4, pen4⟩).putNew pen1 hD, cs ++ [d], by simp, fun e he => ?_⟩⟩⟩
      rcases List.mem_append.mp he with he | he
      · exact sub e he
      · rw [List.mem_singleton.mp he]; exact hd
    · rintro H' acc hDl hl ⟨ink, cs, rfl, sub⟩
      have hlen : cs.length = r.toNat := by rw [List.length_map] at hl; exact hl
      refine ⟨_, D, cs.map fun d => ⟨#[d]⟩, rfl, rfl, .inl (SqL.of (by rw [List.map_map]; exact hDl)), ?_, ?_⟩
      · rw [sum_one, List.length_map]
        show cs.length + cs.length * 0 ≤ 16777216
        omega
      · rw [join_one]
        refine k _ _ (fun d hd => sub d (by simpa using hd)) (by show cs.toArray.size ≤ 40; rw [List.size_toArray]; omega) ⟨Ext1.trans x1 ink.1, ink.2.mono (by omega)⟩
end
end Kx
set_option Elab.async false
set_option maxRecDepth 100000
set_option autoImplicit false
namespace Kx
open PySem L2 PySem.Spec PyProof.Rows Rg
theorem Rows.snoc {R : Addr → List V → Prop} {xs : List V} {tb : List (List Int)} {a : Addr} {row : List Int} (h : Rows R xs tb) (r : R a (row.map V.int)) : Rows R (xs ++ [.ref a]) (tb ++ [row]) := by
  refine ⟨by rw [List.length_append, List.length_append, h.1] <;> rfl, fun i hi => ?_⟩
  rw [List.length_append, List.length_singleton] at hi
  rcases Nat.lt_succ_iff_lt_or_eq.mp hi with hi | rfl
  · obtain ⟨b, e, q⟩ := h.2 i hi
    refine ⟨b, by rw [List.getElem?_append_left (by rw [h.1]; exact hi)]; exact e, ?_⟩
    rw [List.getD_eq_getElem?_getD, List.getElem?_append_left hi, ← List.getD_eq_getElem?_getD]
    exact q
  · refine ⟨a, by rw [List.getElem?_append_right (by rw [h.1] <;> exact Nat.le_refl _), h.1, Nat.sub_self] <;> rfl, ?_⟩
    rw [List.getD_eq_getElem?_getD, List.getElem?_append_right (Nat.le_refl _), Nat.sub_self]
    exact r
theorem Rows.nil {R : Addr → List V → Prop} : Rows R [] [] := ⟨rfl, fun _ h => absurd h (Nat.not_lt_zero _)⟩
def spPlan : Sp := fun vs H Q _ => ∃ (c p : Addr) (n : Nat) (z : Str), vs = [.ref p, .str z, .int 8] ∧ n ≤ 900000 ∧ PenAt c n H p ∧ Zok z ∧
  ∀ (t a b : Addr) (tb : List (List Int)) (mk : List Bool) (H' : Hp), H' t = some (.tup [.ref a, .ref b]) → LTab p H' a tb → Tab z tb → b ≠ p → H' b = some (.lst (mk.map V.bl)) → mk.length = tb.length → Ink c p (n + 41) H H' → Q (.ref t) H'
section
variable {P : Program} {w : World} {K : PySem.W.Frag} {mg : Str → Option Value} {base : Heap}
def plScope : Scope := { kind := .function, names := [(".0", .local), ("_law_spot_here", .local), ("_law_letters_here", .cell), ("_law_many", .cell), ("_law_pen_here", .cell)], isGenerator := false, isCoroutine := false }
abbrev nPlan : List Str := ["_law_pen_here", "_law_letters_here", "_law_bound", "_law_many", "_law_table", "_law_letter", "_law_spot_here"]
theorem scPlan : FnScope nPlan ["_law_pen_here", "_law_letters_here", "_law_bound"] (defScope sPlan) := ⟨rfl, rfl, rfl, by decide +kernel, rfl, by decide +kernel, by decide +kernel⟩
theorem ok_plan {f f1 : Addr} {fd fd1 : FuncData} (F : Fun K "_law_plan" "_law_plan" sPlan f fd) (T : Txt mg)
    (G1 : FnOk P w K mg base CX0 1 f1 fd1 ["_law_pen_here", "_law_many"] spDraw) (m1 : mg "_law_draw" = some (.ref f1)) (k1 : PySem.W.keepIn K (.ref f1) = true) (b1 : Binds K fd1 ["_law_pen_here", "_law_many"] []) :
    FnOk P w K mg base CX0 2 f fd ["_law_pen_here", "_law_letters_here", "_law_bound"] spPlan := by
  refine F.ok scPlan (fun vs H Q E h => ?_) (fun cdv A outer s H vs Q E hr h => ?_)
  · obtain ⟨c, p, n, z, rfl, _⟩ := h
    rfl
  · obtain ⟨c, p, n, z, rfl, nb, pen, Z, k⟩ := h
    have nd := scPlan.nd
    have zf := Z.few
    refine ⟨_, pss_cons (ps_set (i := 3) nd rfl (.inr rfl) (pe_op op_add pe_int (pe_call G1 hr (by rfl) m1 k1 b1 .nil pass0 (pa_cons (pv 0) (pa_cons (pv 2) pa_nil)))))
      (pss_cons (ps_setLc (i := 4) (own := [("_law_spot_here", 6)]) (g := gName 6) (tt := tYes) (te := tLc (iStr (tVar 1)) (gName 5) tYes (tCall spDraw [] E0 (tCons (tVar 0) (tCons (tVar 3) tNil))) [5]) rfl nd rfl rfl rfl (pi_range1 (by rfl) T.range (pa_cons (pv 3) pa_nil))
          (blkOk_by (N := nPlan) (sc := defScope sPlan) (by decide +kernel)) (fun _ _ _ _ _ => pg_name (i := 6) nd rfl (Or.inl rfl)) (fun _ _ _ _ _ => pts_nil)
          (fun _ _ _ _ _ => pe_lc (own := [("_law_letter", 5)]) (g := gName 5) (tt := tYes) rfl nd (pi_str (pv 1)) (blkOk_by (N := nPlan) (sc := plScope) (by decide +kernel)) (fun _ _ _ _ _ => pg_name (i := 5) nd rfl (Or.inl rfl)) (fun _ _ _ _ _ => pts_nil)
            (fun _ _ _ _ _ => pe_call G1 hr (by rfl) m1 k1 b1 .nil pass0 (pa_cons (pv 0) (pa_cons (pv 3) pa_nil)))))
      (pss_one (ps_ret (pe_tup (pa_cons (pv 4) (pa_cons (pe_lc (own := [("_law_spot_here", 6)]) (g := gName 6) (tt := tYes) rfl nd (pi_range1 (by rfl) T.range (pa_cons (pv 3) pa_nil))
          (blkOk_by (N := nPlan) (sc := defScope sPlan) (by decide +kernel)) (fun _ _ _ _ _ => pg_name (i := 6) nd rfl (Or.inl rfl)) (fun _ _ _ _ _ => pts_nil)
          (fun _ _ _ _ _ => pe_cmpR op_eq (pe_call G1 hr (by rfl) m1 k1 b1 .nil pass0 (pa_cons (pv 0) (pa_cons pe_int pa_nil))) pe_int (nomark _))) pa_nil)))))), ?_⟩
    refine ⟨_, rfl, _, rfl, c, p, 8, n, rfl, by decide, by decide, by omega, pen, fun r H0 r0 r1 pen0 x0 => ⟨_, _, rfl, rfl, ?_⟩⟩
    have hm0 : 0 < 1 + r := by omega
    have hm8 : 1 + r ≤ 8 := by omega
    have hn : (1 + r).toNat ≤ 8 := by omega
    have hmN : (((1 + r).toNat : Nat) : Int) = (1 + r) := by omega
    refine ⟨_, rfl, (1 + r), rfl, by omega, by omega, fun D hD => ?_⟩
    refine lcGen walk_range (fun i H' acc => Ink c p (n + 1 + 4 * i) H0 H' ∧ ∃ tb : List (List Int), tb.length = i ∧ (∀ row ∈ tb, row.length = z.length ∧ ∀ v ∈ row, 0 ≤ v ∧ v < (1 + r)) ∧ Rows (fun a ys => a ≠ p ∧ a ≠ D ∧ H' a = some (.lst ys)) acc tb) (by rw [sizeLine_eq]; omega)
      ⟨(Ink.start pen0).putNew pen0 hD, [], rfl, fun d hd => absurd hd (List.not_mem_nil), Rows.nil⟩ (fun _ _ _ _ _ => trivial) (fun _ _ _ _ y => y.1) ?_ ?_
    · rintro i x H' acc Q' hi hDl hl ⟨ink, tb, tl, wide, rows⟩ y q
      refine ⟨_, rfl, z, rfl, fun D2 hD2 => ?_⟩
      have d2p := ink.2.ne1 hD2
      have d2D : D2 ≠ D := by rintro rfl; rw [hDl] at hD2; cases hD2
      have dp := pen0.ne1 hD
      refine lcGen walk_str (fun j H4 acc2 => Ink c p (n + 1 + 4 * i + j) H' H4 ∧ ∃ row : List Int, acc2 = row.map V.int ∧ ∀ v ∈ row, 0 ≤ v ∧ v < (1 + r)) (by show z.length < sizeLine; rw [sizeLine_eq]; omega) ⟨(Ink.start ink.2).putNew ink.2 hD2, [], rfl, fun d hd => absurd hd (List.not_mem_nil)⟩ (fun _ _ _ _ _ => trivial) (fun _ _ _ _ y => y.1) ?_ ?_
      · rintro j x2 H4 acc2 Q2 hj hD2l hl2 ⟨ink2, row, rfl, sub⟩ y2 q2
        have hj' : j < z.length := hj
        refine ⟨_, rfl, _, rfl, c, p, (1 + r), n + 1 + 4 * i + j, rfl, hm0, by omega, by omega, ink2.2, fun v H5 v0 v1 pen5 x5 => q2 _ H5 (x5 _ _ d2p hD2l) ⟨(Ink.trans ink2 ⟨x5, pen5⟩).putNew ink.2 hD2, row ++ [v], by simp, fun u hu => ?_⟩⟩
        rcases List.mem_append.mp hu with hu | hu
        · exact sub u hu
        · rw [List.mem_singleton.mp hu]; exact ⟨v0, v1⟩
      · rintro H4 acc2 hD2l hl2 ⟨ink2, row, rfl, sub⟩
        rw [List.length_map] at hl2
        have hl2' : row.length = z.length := hl2
        refine q (.ref D2) H4 (ink2.1 _ _ dp hDl) ⟨((Ink.trans ink ink2).mono (by show _ + z.length ≤ _; omega)).putNew pen0 hD, tb ++ [row], by rw [List.length_append, tl] <;> rfl, fun rw' hr => ?_, Rows.snoc (rows.mono fun a ys h => ⟨h.1, h.2.1, ?_⟩) ⟨d2p, d2D, ?_⟩⟩
        · rcases List.mem_append.mp hr with hr | hr
          · exact wide rw' hr
          · rw [List.mem_singleton.mp hr]; exact ⟨hl2', sub⟩
        · rw [upd_ne h.2.1]; exact ink2.1 _ _ h.1 h.2.2
        · rw [upd_ne d2D]; exact hD2l
    · rintro H1 acc hDl hl ⟨ink, tb, tl, wide, rows⟩
      have dp := pen0.ne1 hD
      have ink1 : Ink c p (n + 33) H H1 := ⟨Ext1.trans x0 ink.1, ink.2.mono (by omega)⟩
      have tab : Tab z tb := ⟨by omega, by omega, fun row hr => ⟨(wide row hr).1, fun v hv => by have := (wide row hr).2 v hv; omega⟩⟩
      refine ⟨_, rfl, _, rfl, (1 + r), rfl, by omega, by omega, fun B hB => ?_⟩
      have bp := ink1.2.ne1 hB
      have bD : B ≠ D := by rintro rfl; rw [hDl] at hB; cases hB
      refine lcGen walk_range (fun i H' acc2 => Ink c p (n + 33 + i) H1 H' ∧ ∃ mk : List Bool, acc2 = mk.map V.bl) (by rw [sizeLine_eq]; omega) ⟨(Ink.start ink1.2).putNew ink1.2 hB, [], rfl⟩ (fun _ _ _ _ _ => trivial) (fun _ _ _ _ y => y.1) ?_ ?_
      · rintro i x H' acc2 Q' hi hBl hl2 ⟨ink2, mk, rfl⟩ y q
        refine ⟨_, rfl, c, p, 2, n + 33 + i, rfl, by decide, by decide, by omega, ink2.2, fun v H5 v0 v1 pen5 x5 => ?_⟩
        exact ⟨rfl, q _ H5 (x5 _ _ bp hBl) ⟨(Ink.trans ink2 ⟨x5, pen5⟩).putNew ink1.2 hB, mk ++ [decide (V.int v = V.int 0)], by simp⟩⟩
      · rintro H2 acc2 hBl hl2 ⟨ink2, mk, rfl⟩
        rw [List.length_map] at hl2
        refine ⟨by show 2 ≤ sizeLine; decide, fun t ht => ?_⟩
        have tD : t ≠ D := by rintro rfl; rw [ink2.1 _ _ dp hDl] at ht; cases ht
        have tB : t ≠ B := by rintro rfl; rw [hBl] at ht; cases ht
        have i3 : Ext1 p H1 (upd H2 t (.tup [.ref D, .ref B])) := Ext1.trans ink2.1 (Ext1.new ht)
        refine k t D B tb mk _ upd_same ⟨dp, acc, i3 _ _ dp hDl, rows.mono fun a ys h => ⟨h.1, i3 _ _ h.1 h.2.2⟩⟩ tab bp (by rw [upd_ne tB.symm]; exact hBl) (by omega) ⟨Ext1.trans ink1.1 i3, ?_⟩
        exact (ink2.2.mono (by omega)).new ht
end
end Kx
set_option Elab.async false
set_option maxRecDepth 100000
set_option autoImplicit false
namespace Kx
open PySem L2 PySem.Spec PyProof.Rows Rg
/-! ### keywords -/
theorem kbMk {K : PySem.W.Frag} {x qual : Str} {st : Stmt} {f : Addr} {fd : FuncData} {ps ks : List Str} {n : Nat} {g : List Value → List Value → List Value} {gV : List V → List V → List V} (F : L2.Fun K x qual st f fd)
    (h : ∀ (kV doc pm : Value) (an : Option Addr) (cdv ct : Value) (us ws : List Value), us.length = n → ws.length = ks.length → bindArgs (PySem.W.fnOf x qual (defArgs st) (defBody st) (defScope st) .none kV doc pm an cdv ct) ⟨us, ks.zip ws⟩ = pure (ps.zip (g us ws)))
    (rel : ∀ {vs : List V} {us : List Value} {zs : List V} {ws : List Value}, Vals vs us → Vals zs ws → Vals (gV vs zs) (g us ws)) : KBn K fd ps n ks g gV := by
  obtain ⟨oc, od, kV, doc, pm, an, cdv, ct, osl, rfl, lk, hcd⟩ := F.ex
  exact ⟨fun s us ws _ l1 l2 => .of_eq (h kV doc pm an cdv ct us ws l1 l2), rel⟩
theorem vapp {vs : List V} {us : List Value} {zs : List V} {ws : List Value} (a : Vals vs us) (b : Vals zs ws) : Vals (vs ++ zs) (us ++ ws) := by
  induction a with
  | nil => exact b
  | cons r _ ih => exact .cons r ih
theorem vrev {vs : List V} {us : List Value} (a : Vals vs us) : Vals vs.reverse us.reverse := by
  induction a with
  | nil => exact .nil
  | cons r _ ih => rw [List.reverse_cons, List.reverse_cons]; exact vapp ih (.cons r .nil)

/-! ### what stays with a machine -/
theorem Mach.keep {C q : Addr} {H H' : Hp} {z : Str} {tb : List (List Int)} {mk : List Bool} (h : Mach C H q z tb mk) (e : ∀ b o, H b = some o → (∀ xs, o ≠ .lst xs) → H' b = some o) : Mach C H' q z tb mk := by
  obtain ⟨dx, st, tt, h1, ⟨xs, h2, h3⟩, h4⟩ := h
  exact ⟨dx, st, tt, e _ _ h1 (fun _ z => nomatch z), ⟨xs, e _ _ h2 (fun _ z => nomatch z), h3.mono fun a ys q => e _ _ q (fun _ z => nomatch z)⟩, e _ _ h4 (fun _ z => nomatch z)⟩
theorem Mach.put {C q a : Addr} {H : Hp} {o : HO} {xs : List V} {z : Str} {tb : List (List Int)} {mk : List Bool} (h : Mach C H q z tb mk) (l : H a = some (.lst xs)) : Mach C (upd H a o) q z tb mk :=
  h.keep fun b u e n => by
    rw [upd_ne]
    · exact e
    · rintro rfl
      rw [l] at e
      exact n xs (Option.some.inj e).symm
theorem Mach.same {C q : Addr} {H H' : Hp} {z : Str} {tb : List (List Int)} {mk : List Bool} (h : Mach C H q z tb mk) (e : Same H H') : Mach C H' q z tb mk := h.keep fun b u q _ => e b u q
theorem Mach.ink {C c p q : Addr} {n m : Nat} {H H' : Hp} {z : Str} {tb : List (List Int)} {mk : List Bool} (h : Mach C H q z tb mk) (pen : PenAt c m H p) (i : Ink c p n H H') : Mach C H' q z tb mk := h.keep fun b u e k => i.1 b u (by
    rintro rfl
    obtain ⟨ns, a, g, h1, _⟩ := pen
    rw [h1] at e
    exact k _ (Option.some.inj e).symm) e
theorem Ink.free {c p q : Addr} {n m : Nat} {H H' : Hp} (i : Ink c p n H H') (pen : PenAt c m H p) (e : H' q = none) : H q = none := by
  cases z : H q with
  | none => rfl
  | some o =>
    rw [i.1 q o (i.2.ne1 e) z] at e
    cases e

/-! ### rows laid anew -/
def LcW (J : It) (v : Nat) (te : TE) (σ : L2.St) (H1 : Hp) (D : Addr) (Qd : Hp → Prop) : Prop := ∃ W : Nat → Nat → Hp → Prop, (∃ m, W 0 m (upd H1 D (.lst []))) ∧ ∀ i m H, W i m H →
      (J.stop i H ∧ Qd H) ∨ (J.go i H ∧ ∃ Nx : Hp → Prop, (∀ H', Nx H' → ∃ m', m' < m ∧ W (i + 1) m' H') ∧ ∀ x H', J.yld i H x H' → gName v x (wipe σ [v]) H' fun σ2 H2 => wipe σ2 [v] = wipe σ [v] ∧ tYes σ2 H2 fun b H3 =>
        if b = true then te σ2 H3 fun y H4 => ∃ acc, H4 D = some (.lst acc) ∧ acc.length < sizeLine ∧ Nx (upd H4 D (.lst (acc ++ [y]))) else Nx H3)
def rLst (K : PySem.W.Frag) : List V → Hp → VK → Prop := fun xs H Q => ∃ p ys, xs = [.ref p] ∧ (SqL K H p ys ∨ SqT K H p ys) ∧ ∀ l, H l = none → Q (.ref l) (upd H l (.lst ys))
theorem bLst {X : Cx} {e : Expr} {te : TE} {p pos : Pos} (hg : Gl X "list") (m : X.mg "list" = none) (he : PE X e te) (na : starEach [e] X.env = (false, eval e X.env) :: starEach [] X.env := by rfl) :
    PE X (.Call (.Name "list" p) [e] [] pos) (tCB (rLst X.K) (tCons te tNil)) := bList hg m he na
/-- rows of a list, each told by what a copy's maker makes: f tells its kind -/
theorem lcRows {K : PySem.W.Frag} {a : Addr} {xs : List V} {tb : List (List Int)} {v : Nat} {te : TE} {σ : L2.St} {H1 : Hp} {D : Addr} {Qd : Hp → Prop} (f : List V → HO) (hD : H1 D = none) (ha : H1 a = some (.lst xs)) (rows : Rows (fun r ys => H1 r = some (.lst ys)) xs tb) (few : tb.length ≤ 8)
    (el : ∀ (r : Addr) (ys : List V) (H' : Hp) (Q : VK), H' r = some (.lst ys) → (∀ l, H' l = none → Q (.ref l) (upd H' l (f ys))) → te ((wipe σ [v]).set v (some (.ref r))) H' Q)
    (hd : ∀ H' acc, Same H1 H' → H' D = some (.lst acc) → Rows (fun l ys => l ≠ D ∧ H1 l = none ∧ H' l = some (f ys)) acc tb → Qd H') : LcW (Itl K a) v te σ H1 D Qd := by
  have hx := rows.1
  refine lcGen walk_list (fun i H' acc => Same H1 H' ∧ ∀ j, j < i → ∃ r, acc[j]? = some (.ref r) ∧ r ≠ D ∧ H1 r = none ∧ H' r = some (f ((tb.getD j []).map V.int))) (by rw [sizeLine_eq]; omega) ⟨Same.new hD, fun j hj => absurd hj (Nat.not_lt_zero _)⟩
    (fun i H' acc _ q => SqL.of (q.1 _ _ ha)) (fun _ _ _ _ y => y.1) ?_ (fun H' acc h1 h2 h3 => hd H' acc h3.1 h1 ⟨by omega, fun j hj => h3.2 j (by omega)⟩)
  rintro i x H' acc Q' hi hDl hl ⟨s4, hr4⟩ y q
  obtain ⟨r, e1, e2⟩ := rows.2 i (by omega)
  have e3 := y.2
  rw [e1] at e3
  cases e3
  refine el r _ H' Q' (s4 _ _ e2) (fun l hl5 => ?_)
  have nD : l ≠ D := (ne_of_none hDl hl5).symm
  have s5 : Same H' (upd H' l (f ((tb.getD i []).map V.int))) := Same.new hl5
  refine q _ _ (s5 _ _ hDl) ⟨Same.putNew hD (Same.trans s4 s5), fun j hj => ?_⟩
  rcases Nat.lt_succ_iff_lt_or_eq.mp hj with hj | rfl
  · obtain ⟨r', e4, e5, e6, e7⟩ := hr4 j hj
    refine ⟨r', ?_, e5, e6, ?_⟩
    · rw [List.getElem?_append_left (by omega)]; exact e4
    · rw [upd_ne e5]; exact s5 _ _ e7
  · refine ⟨l, ?_, nD, Same.free s4 hl5, ?_⟩
    · rw [← hl]; simp
    · rw [upd_ne nD]; exact upd_same
end Kx
set_option Elab.async false
set_option maxRecDepth 100000
set_option autoImplicit false
namespace Kx
open PySem L2 PySem.Spec PyProof.Rows Rg
theorem ixN0 {n : Nat} (h : 0 < n) : ixN n 0 = some 0 := by
  unfold ixN
  rw [if_pos (by decide), if_pos (by omega)]
  rfl
def kInit : List Str := ["told", "steps", "signs"]
def gInit : List Value → List Value → List Value := fun us ws => us ++ ws.reverse
def gInitV : List V → List V → List V := fun us ws => us ++ ws.reverse
theorem rTup_new {K : PySem.W.Frag} {H : Hp} {a : Addr} {ys : List V} {Q : VK} (e : H a = some (.lst ys)) (k : ∀ l, H l = none → Q (.ref l) (upd H l (.tup ys))) : rTup K [.ref a] H Q := ⟨a, ys, rfl, .inl ⟨SqL.of e, k⟩⟩
def spMade (C : Addr) : Sp := fun vs H Q _ => ∃ (c p : Addr) (n : Nat) (z : Str) (a b : Addr) (tb : List (List Int)) (mk : List Bool), vs = [.ref p, .str z, .ref a, .ref b] ∧ n ≤ 900000 ∧ PenAt c n H p ∧ Zok z ∧ Tab z tb ∧ LTab p H a tb ∧ b ≠ p ∧ H b = some (.lst (mk.map V.bl)) ∧ mk.length = tb.length ∧
  ∀ q H', Ink c p (n + 1) H H' → Mach C H' q z tb mk → Q (.ref q) H'
section
variable {P : Program} {w : World} {K : PySem.W.Frag} {mg : Str → Option Value} {base : Heap}
abbrev nMade : List Str := ["_law_pen_here", "_law_letters_here", "_law_table", "_law_marks", "_law_lines", "_law_heard", "_law_turn", "_law_made_here", "_law_line"]
theorem scMade : FnScope nMade ["_law_pen_here", "_law_letters_here", "_law_table", "_law_marks"] (defScope sMade) := ⟨rfl, rfl, rfl, by decide +kernel, rfl, by decide +kernel, by decide +kernel⟩
theorem ok_made {C f f1 fi : Addr} {fd fd1 fdi : FuncData} (F : L2.Fun K "_law_made" "_law_made" sMade f fd) (T : Txt mg) (M : MT K mg C)
    (G1 : FnOk P w K mg base CX0 1 f1 fd1 ["_law_pen_here", "_law_many"] spDraw) (m1 : mg "_law_draw" = some (.ref f1)) (k1 : PySem.W.keepIn K (.ref f1) = true) (b1 : Binds K fd1 ["_law_pen_here", "_law_many"] [])
    (GI : FnOk P w K mg base CX0 5 fi fdi ["self", "signs", "steps", "told"] (spInit C)) (mk_ : Mk K C fi) (bI : Binds K fdi ["self", "signs", "steps", "told"] []) (kI : KBn K fdi ["self", "signs", "steps", "told"] 1 kInit gInit gInitV) :
    FnOk P w K mg base CX0 7 f fd ["_law_pen_here", "_law_letters_here", "_law_table", "_law_marks"] (spMade C) := by
  refine F.ok scMade (fun vs H Q E h => ?_) (fun cdv A outer s H vs Q E hr h => ?_)
  · obtain ⟨c, p, n, z, a, b, tb, mk, rfl, _⟩ := h
    rfl
  · obtain ⟨c, p, n, z, a, b, tb, mk, rfl, nb, pen, Z, Tb, lt, bp, hb, ml, k⟩ := h
    have nd := scMade.nd
    have hr1 := hr.mono (show 1 ≤ 6 by decide)
    refine ⟨_, pss_cons (ps_setLc (i := 4) (own := [("_law_line", 8)]) (g := gName 8) (tt := tYes) (te := tCB (rLst K) (tCons (tVar 8) tNil)) rfl nd rfl rfl rfl (pi_list (pv 2)) (blkOk_by (N := nMade) (sc := defScope sMade) (by decide +kernel))
          (fun _ _ _ _ _ => pg_name (i := 8) nd rfl (Or.inl rfl)) (fun _ _ _ _ _ => pts_nil) (fun _ _ _ _ _ => bLst (by rfl) T.list (pv 8)))
      (pss_cons (ps_set (i := 5) nd rfl (.inl rfl) (bLst (by rfl) T.list (pv 3)))
      (pss_cons (ps_set (i := 6) nd rfl (.inl rfl) (pe_call G1 hr1 (by rfl) m1 k1 b1 .nil pass0 (pa_cons (pv 0) (pa_cons pe_int pa_nil))))
      (pss_cons (ps_if (pt_cmpR op_eq (pv 6) pe_int (nomark _))
        (pss_cons (ps_set (i := 7) nd rfl (.inl rfl) (pe_make mk_ GI hr (by rfl) M.mgC bI .nil pass0 (pa_cons (pv 1) (pa_cons (pv 4) (pa_cons (pv 5) pa_nil)))))
        (pss_cons (ps_asg pe_int (pg_sub (pe_ix ix_list (pv 4) pe_int (fun _ _ => rfl)) pe_int set_list))
        (pss_cons (ps_expr (pe_bm PySem.F.plainAttrs_list PySem.F.slot_list_append PySem.F.type_list_append mt_append (pv 4) (pa_cons (pe_lst pa_nil) pa_nil)))
        (pss_cons (ps_asg pe_non (pg_sub (pv 5) pe_int set_list)) (pss_one (ps_ret (pv 7))))))) pss_nil)
      (pss_cons (ps_if (pt_cmpR op_eq (pv 6) pe_int (nomark _))
        (pss_one (ps_ret (pe_make mk_ GI hr (by rfl) M.mgC bI .nil pass0 (pa_cons (pv 1) (pa_cons (bTup (by rfl) T.tuple (pe_lc (own := [("_law_line", 8)]) (g := gName 8) (tt := tYes) (te := tCB (rTup K) (tCons (tVar 8) tNil)) rfl nd (pi_list (pv 2)) (blkOk_by (N := nMade) (sc := defScope sMade) (by decide +kernel))
          (fun _ _ _ _ _ => pg_name (i := 8) nd rfl (Or.inl rfl)) (fun _ _ _ _ _ => pts_nil) (fun _ _ _ _ _ => bTup (by rfl) T.tuple (pv 8)))) (pa_cons (bTup (by rfl) T.tuple (pv 3)) pa_nil)))))) pss_nil)
      (pss_cons (ps_set (i := 7) nd rfl (.inl rfl) (pe_makeK0 mk_ GI hr (by rfl) M.mgC kI pass0 (pk_cons (pv 5) (pk_cons (pv 4) (pk_cons (pv 1) pk_nil)))))
      (pss_cons (ps_expr (pe_bm PySem.F.plainAttrs_list PySem.F.slot_list_append PySem.F.type_list_append mt_append (pv 5) (pa_cons pe_bl pa_nil)))
      (pss_one (ps_ret (pv 7))))))))), ?_⟩
    obtain ⟨ap, xs, ha, rows⟩ := lt
    have few := Tb.few
    have pos := Tb.pos
    have mfew : mk.length ≤ 8 := by omega
    refine ⟨_, rfl, a, rfl, ⟨_, SqL.of ha⟩, fun D hD => lcRows .lst hD ha (rows.mono fun r ys h => h.2) few (fun r ys H' Q' e q => ⟨_, rfl, r, ys, rfl, .inl (SqL.of e), q⟩) fun H1 acc s1 hDl rl => ?_⟩
    refine ⟨_, rfl, b, _, rfl, .inl (SqL.of (s1 _ _ hb)), fun B hB => ?_⟩
    have hB0 : H B = none := Same.free s1 hB
    have s2 : Same H (upd H1 B (.lst (mk.map V.bl))) := Same.trans s1 (Same.new hB)
    refine ⟨_, rfl, c, p, 3, n, rfl, by decide, by decide, by omega, pen.ext s2, fun t H3 t0 t3 pen3 x3 => ?_⟩
    have i3 : Ink c p (n + 1) H H3 := ⟨Ext1.trans (Same.ext1 p s2) x3, pen3⟩
    have DB : D ≠ B := ne_of_none hDl hB
    have hD3 : H3 D = some (.lst acc) := x3 _ _ (pen.ne1 hD) (by rw [upd_ne DB]; exact hDl)
    have hB3 : H3 B = some (.lst (mk.map V.bl)) := x3 _ _ (pen.ne1 hB0) upd_same
    have r3 : Rows (fun l ys => l ≠ D ∧ H l = none ∧ l ≠ B ∧ H3 l = some (.lst ys)) acc tb := rl.mono fun l ys h => ⟨h.1, h.2.1, ne_of_none h.2.2 hB, x3 _ _ (pen.ne1 h.2.1) (by rw [upd_ne (ne_of_none h.2.2 hB)]; exact h.2.2)⟩
    have ha3 : H3 a = some (.lst xs) := i3.1 _ _ ap ha
    have rows3 : Rows (fun r ys => H3 r = some (.lst ys)) xs tb := rows.mono fun r ys h => i3.1 _ _ h.1 h.2
    have hb3 : H3 b = some (.lst (mk.map V.bl)) := i3.1 _ _ bp hb
    have born : ∀ (H3 : Hp) (x dx aa bb : Addr) (xs' : List V), H3 x = none → H3 dx = none → Sq H3 aa xs' → Rows (Sq H3) xs' tb → Sq H3 bb (mk.map V.bl) → ∀ (Q' : VK) (E' : XK), (∀ H4, Same H3 H4 → Mach C H4 x z tb mk → Q' .non H4) →
        spInit C [.ref x, .str z, .ref aa, .ref bb] (upd (upd H3 dx (.own x)) x (.ins C dx [])) Q' E' := fun H3 x dx aa bb xs' nx ndx q1 q2 q3 Q' E' k' => by
      have s0 : Same H3 (upd (upd H3 dx (.own x)) x (.ins C dx [])) := fun b o e => by
        rw [upd_ne (ne_of_none e nx), upd_ne (ne_of_none e ndx)]
        exact e
      exact ⟨x, dx, aa, bb, z, xs', tb, mk, rfl, upd_same, Z, q1.same s0, q2.mono fun r ys h => h.same s0, Tb, q3.same s0, ml, fun H4 e m => k' H4 (Same.made nx ndx fun b o e' n => e b o n e') m⟩
    obtain ⟨r0, er, hr0⟩ := r3.2 0 pos
    have hl0 : 0 < ((tb.getD 0 []).map V.int).length := by
      rw [List.length_map, (Tb.at_ pos).1]
      exact Z.pos
    have hl1 : 0 < (mk.map V.bl).length := by rw [List.length_map]; omega
    have few1 : (mk.map V.bl).length < sizeLine := by rw [List.length_map, sizeLine_eq]; omega
    have few2 : acc.length < sizeLine := by rw [r3.1, sizeLine_eq]; omega
    refine ⟨_, rfl, rfl, _, rfl, ite2 (fun _ => ?_) (fun _ => ?_)⟩
    · refine ⟨_, rfl, _, rfl, _, rfl, fun x dx nx ndx _ => born H3 x dx D B acc nx ndx (.inl hD3) (r3.mono fun l ys h => .inl h.2.2.2) (.inl hB3) _ _ fun H4 s4 m4 => ⟨rfl, ?_⟩⟩
      have i4 := i3.same s4
      have hr4 := s4 _ _ hr0.2.2.2
      have hD4 := s4 _ _ hD3
      have hB4 := s4 _ _ hB3
      refine ⟨_, rfl, D, acc, 0, .ref r0, rfl, rfl, SqL.of hD4, atI_nat er, r0, _, 0, 0, rfl, rfl, hr4, ixN0 hl0, ?_⟩
      have i5 := i4.putNew (o := .lst (((tb.getD 0 []).map V.int).set 0 (.int 99))) pen hr0.2.1
      have m5 := m4.put (o := .lst (((tb.getD 0 []).map V.int).set 0 (.int 99))) hr4
      have hD5 : upd H4 r0 (.lst (((tb.getD 0 []).map V.int).set 0 (.int 99))) D = some (.lst acc) := by rw [upd_ne hr0.1.symm]; exact hD4
      have hB5 : upd H4 r0 (.lst (((tb.getD 0 []).map V.int).set 0 (.int 99))) B = some (.lst (mk.map V.bl)) := by rw [upd_ne hr0.2.2.1.symm]; exact hB4
      generalize upd H4 r0 (.lst (((tb.getD 0 []).map V.int).set 0 (.int 99))) = H5 at i5 m5 hD5 hB5 ⊢
      refine ⟨_, rfl, .inl ⟨rfl, _, SqL.of hD5⟩, Nat.zero_le _, fun e he => ⟨D, acc, _, rfl, rfl, ?_, few2, ?_⟩⟩
      · rw [upd_ne (ne_of_none hD5 he)]; exact hD5
      have i6 := i5.putNew (o := .lst []) pen (i5.free pen he)
      have m6 := m5.same (Same.new (o := .lst []) he)
      have hD6 : upd H5 e (.lst []) D = some (.lst acc) := by rw [upd_ne (ne_of_none hD5 he)]; exact hD5
      have hB6 : upd H5 e (.lst []) B = some (.lst (mk.map V.bl)) := by rw [upd_ne (ne_of_none hB5 he)]; exact hB5
      generalize upd H5 e (.lst []) = H6 at i6 m6 hD6 hB6 ⊢
      refine ⟨_, rfl, B, mk.map V.bl, 0, 0, rfl, rfl, ?_, ixN0 hl1, _, rfl, k x _ ((i6.putNew pen hD).putNew pen hB0) ?_⟩
      · rw [upd_ne DB.symm]; exact hB6
      · exact (m6.put hD6).put (xs := mk.map V.bl) (by rw [upd_ne DB.symm]; exact hB6)
    refine ⟨_, rfl, rfl, _, rfl, ite2 (fun _ => ?_) (fun _ => ?_)⟩
    · refine ⟨_, rfl, _, rfl, a, rfl, ⟨_, SqL.of ha3⟩, fun D2 hD2 => lcRows .tup hD2 ha3 rows3 few (fun r ys H' Q' e q => ⟨_, rfl, rTup_new e q⟩) fun H4 acc2 s4 hD4 r4 => ?_⟩
      dsimp only [tNil]
      refine rTup_of (.inl hD4) fun l1 H5 s5 _ h5 => ?_
      refine ⟨_, rfl, ?_⟩
      dsimp only [tNil]
      refine rTup_of (xs := mk.map V.bl) (.inl (s5 _ _ (s4 _ _ hb3))) fun l2 H6 s6 _ h6 => ?_
      have s36 : Same H3 H6 := Same.trans s4 (Same.trans s5 s6)
      exact fun x dx nx ndx _ => born H6 x dx l1 l2 acc2 nx ndx (.inr (s6 _ _ h5)) (r4.mono fun l ys h => .inr (s6 _ _ (s5 _ _ h.2.2))) (.inr h6) _ _ fun H7 s7 m7 => ⟨rfl, k x H7 ((i3.same s36).same s7) m7⟩
    · refine ⟨_, rfl, _, rfl, _, rfl, rfl, rfl, fun x dx nx ndx _ => born H3 x dx D B acc nx ndx (.inl hD3) (r3.mono fun l ys h => .inl h.2.2.2) (.inl hB3) _ _ fun H4 s4 m4 => ⟨rfl, ?_⟩⟩
      have i4 := i3.same s4
      have hB4 := s4 _ _ hB3
      refine ⟨_, rfl, .inl ⟨rfl, _, SqL.of hB4⟩, B, mk.map V.bl, _, rfl, rfl, hB4, few1, _, rfl, k x _ (i4.putNew pen hB0) (m4.put hB4)⟩
end
end Kx
set_option Elab.async false
set_option maxRecDepth 100000
set_option autoImplicit false
namespace Kx
open PySem L2 PySem.Spec PyProof.Rows Rg
/-! ### data that repr may tell -/
structure Tame (d : PyData) (h w : Nat) : Prop where
  sh : d.showable = true
  hd : d.hasDict = false
  dp : d.depth ≤ h
  ls : d.leavesShort 13 = true
  wt : d.weight ≤ w
structure Tames (ds : List PyData) (h w : Nat) : Prop where
  sh : PyData.showableAll ds = true
  hd : PyData.hasDictAll ds = false
  dp : PyData.depthAll ds ≤ h
  ls : PyData.leavesShortAll 13 ds = true
  wt : PyData.weightAll ds ≤ w
theorem Tames.nil {h w : Nat} : Tames [] h w := ⟨rfl, rfl, Nat.zero_le _, rfl, Nat.zero_le _⟩
theorem Tames.cons {d : PyData} {ds : List PyData} {h w1 w2 w : Nat} (a : Tame d h w1) (b : Tames ds h w2) (e : w1 + 1 + w2 ≤ w) : Tames (d :: ds) h w := by
  refine ⟨?_, ?_, ?_, ?_, ?_⟩
  · simp only [PyData.showableAll, a.sh, b.sh, Bool.and_self]
  · simp only [PyData.hasDictAll, a.hd, b.hd, Bool.or_self]
  · simp only [PyData.depthAll]; exact Nat.max_le.mpr ⟨a.dp, b.dp⟩
  · simp only [PyData.leavesShortAll, a.ls, b.ls, Bool.and_self]
  · simp only [PyData.weightAll]
    have := a.wt
    have := b.wt
    omega
theorem Tames.all {h w : Nat} : ∀ {ds : List PyData} {W : Nat}, (∀ d ∈ ds, Tame d h w) → ds.length * (w + 1) ≤ W → Tames ds h W
  | [], _, _, _ => .nil
  | d :: r, W, t, e => by
    rw [List.length_cons, Nat.succ_mul] at e
    exact Tames.cons (t d List.mem_cons_self) (Tames.all (fun x hx => t x (List.mem_cons_of_mem _ hx)) (Nat.le_refl _)) (by omega)
theorem Tame.list {ds : List PyData} {h w : Nat} (a : Tames ds h w) : Tame (.list ds) (h + 1) w := ⟨by simp only [PyData.showable, a.sh], by simp only [PyData.hasDict, a.hd], by simp only [PyData.depth]; have := a.dp; omega, by simp only [PyData.leavesShort, a.ls], by simp only [PyData.weight]; exact a.wt⟩
theorem Tame.tup {ds : List PyData} {h w : Nat} (a : Tames ds h w) : Tame (.tuple ds) (h + 1) w := ⟨by simp only [PyData.showable, a.sh], by simp only [PyData.hasDict, a.hd], by simp only [PyData.depth]; have := a.dp; omega, by simp only [PyData.leavesShort, a.ls], by simp only [PyData.weight]; exact a.wt⟩
theorem Tame.mono {d : PyData} {h w h' w' : Nat} (a : Tame d h w) (e1 : h ≤ h') (e2 : w ≤ w') : Tame d h' w' := ⟨a.sh, a.hd, Nat.le_trans a.dp e1, a.ls, Nat.le_trans a.wt e2⟩
theorem Tame.bool (b : Bool) {h w : Nat} : Tame (.bool b) h w := ⟨by simp only [PyData.showable], by simp only [PyData.hasDict], by simp only [PyData.depth]; exact Nat.zero_le _, by simp only [PyData.leavesShort], by simp only [PyData.weight]; exact Nat.zero_le _⟩
theorem Tame.int {i : Int} {h w : Nat} (i0 : 0 ≤ i) (i1 : i < 1000) (e : 10 ≤ w) : Tame (.int i) h w := by
  have l : i.natAbs.log2 < 10 := by
    by_cases z : i.natAbs = 0
    · rw [z]; decide
    · exact (Nat.log2_lt z).mpr (by omega)
  refine ⟨?_, by simp only [PyData.hasDict], by simp only [PyData.depth]; exact Nat.zero_le _, ?_, ?_⟩
  · simp only [PyData.showable, decide_eq_true_eq]; omega
  · simp only [PyData.leavesShort, decide_eq_true_eq]; exact PyData.shown_int_le (by omega)
  · simp only [PyData.weight]
    split <;> omega
theorem Tame.text {z : Str} {h w : Nat} (m : z ∈ five) (e : 4 ≤ w) : Tame (.str z) h w := by
  refine ⟨by simp only [PyData.showable], by simp only [PyData.hasDict], by simp only [PyData.depth]; exact Nat.zero_le _, ?_, ?_⟩
  · have q : five.all (fun z => (PyData.str z).leavesShort 13) = true := by decide +kernel
    exact List.all_eq_true.mp q z m
  · simp only [PyData.weight]
    exact Nat.le_trans (zok m).few e
theorem Tame.fits {d : PyData} {h w : Nat} (a : Tame d h w) (e : w ≤ 1048576) : d.shown.length ≤ sizeLine := PyData.shown_fits (B := 13) (by decide) (by decide) a.ls (Nat.le_trans a.wt e)
theorem rRepr_of {K : PySem.W.Frag} {H : Hp} {a : Addr} {d : PyData} {h w : Nat} {Q : VK} (r : Rp K H (.ref a) d) (t : Tame d h w) (e1 : h ≤ 20) (e2 : w ≤ 1048576) (k : Q (.str d.shown) H) : rRepr K [.ref a] H Q := ⟨a, d, rfl, r, t.sh, t.hd, Nat.le_trans t.dp e1, t.fits e2, k⟩

/-! ### reading what stands in the heap -/
def rowD (r : List Int) : PyData := .tuple (r.map PyData.int)
theorem pairAt {α β : Type} {F : α → β → Prop} : ∀ {xs : List α} {ys : List β}, xs.length = ys.length → (∀ (i : Nat) (x : α) (y : β), xs[i]? = some x → ys[i]? = some y → F x y) → Paired F xs ys
  | [], [], _, _ => .nil
  | x :: xs, y :: ys, e, f => .cons (f 0 x y rfl rfl) (pairAt (by simpa using e) fun i a b h1 h2 => f (i + 1) a b (by simpa using h1) (by simpa using h2))
theorem rpInts {K : PySem.W.Frag} {H : Hp} : ∀ ns : List Int, Paired (Rp K H) (ns.map V.int) (ns.map PyData.int)
  | [] => .nil
  | n :: r => .cons (.int n) (rpInts r)
theorem rpBools {K : PySem.W.Frag} {H : Hp} : ∀ ns : List Bool, Paired (Rp K H) (ns.map V.bl) (ns.map PyData.bool)
  | [] => .nil
  | n :: r => .cons (.bl n) (rpBools r)
theorem rpRows {K : PySem.W.Frag} {H : Hp} {xs : List V} {tb : List (List Int)} (h : Rows (fun r ys => H r = some (.tup ys)) xs tb) : Paired (Rp K H) xs (tb.map rowD) := by
  refine pairAt (by rw [List.length_map]; exact h.1) fun i x y h1 h2 => ?_
  rw [List.getElem?_map] at h2
  cases e : tb[i]? with
  | none => rw [e] at h2; cases h2
  | some r =>
    rw [e] at h2
    cases h2
    obtain ⟨a, e1, e2⟩ := h.2 i (List.getElem?_eq_some_iff.mp e).1
    rw [e1] at h1
    cases h1
    rw [List.getD_eq_getElem?_getD, e] at e2
    exact .tup (SqT.of e2) (rpInts r)
def dueD (z : Str) (tb : List (List Int)) (mk : List Bool) : PyData := .list [.str z, .tuple (tb.map rowD), .tuple (mk.map PyData.bool), .int (tb.length : Nat)]
theorem tame_due {z : Str} {tb : List (List Int)} {mk : List Bool} (m : z ∈ five) (Tb : Tab z tb) (ml : mk.length = tb.length) : Tame (dueD z tb mk) 3 1000 := by
  have few := Tb.few
  have zf := (zok m).few
  refine .list (.cons (w1 := 4) (w2 := 900) (.text m (Nat.le_refl _)) (.cons (w1 := 500) (w2 := 300) (.tup (h := 1) (.all (w := 50) (fun d hd => ?_) ?_)) (.cons (w1 := 100) (w2 := 50) (.tup (h := 1) (.all (w := 0) (fun d hd => ?_) ?_)) (.cons (w1 := 10) (w2 := 0) (.int (by omega) (by omega) (Nat.le_refl _)) .nil (by decide)) (by decide)) (by decide)) (by decide))
  · obtain ⟨r, hr, rfl⟩ := List.mem_map.mp hd
    obtain ⟨l, v⟩ := Tb.row r hr
    refine .tup (h := 0) (.all (w := 10) (fun d hd => ?_) (by rw [List.length_map]; omega))
    obtain ⟨i, hi, rfl⟩ := List.mem_map.mp hd
    have := v i hi
    exact .int (by omega) (by omega) (Nat.le_refl _)
  · rw [List.length_map]; omega
  · obtain ⟨i, hi, rfl⟩ := List.mem_map.mp hd
    exact .bool i
  · rw [List.length_map]; omega
theorem rp_due {K : PySem.W.Frag} {a s1 s2 : Addr} {H : Hp} {z : Str} {xs : List V} {tb : List (List Int)} {mk : List Bool} (h1 : H s1 = some (.tup xs)) (rows : Rows (fun r ys => H r = some (.tup ys)) xs tb) (h2 : H s2 = some (.tup (mk.map V.bl))) (h3 : H a = some (.lst [.str z, .ref s1, .ref s2, .int (tb.length : Nat)])) : Rp K H (.ref a) (dueD z tb mk) :=
  .lst (SqL.of h3) (.cons (.str z) (.cons (.tup (SqT.of h1) (rpRows rows)) (.cons (.tup (SqT.of h2) (rpBools mk)) (.cons (.int _) .nil))))
end Kx
set_option Elab.async false
set_option maxRecDepth 100000
set_option autoImplicit false
namespace Kx
open PySem L2 PySem.Spec PyProof.Rows Rg
theorem neSame (x : V) : (!decide (x = x)) = false := by rw [decide_eq_true rfl]; rfl
theorem eqSame (x : V) : decide (x = x) = true := decide_eq_true rfl
theorem tame3 {a b c : Int} (a0 : 0 ≤ a) (a1 : a < 1000) (b0 : 0 ≤ b) (b1 : b < 1000) (c0 : 0 ≤ c) (c1 : c < 1000) : Tame (.list [.int a, .int b, .int c]) 1 100 :=
  .list (.cons (w1 := 10) (w2 := 60) (.int a0 a1 (Nat.le_refl _)) (.cons (w1 := 10) (w2 := 30) (.int b0 b1 (Nat.le_refl _)) (.cons (w1 := 10) (w2 := 0) (.int c0 c1 (Nat.le_refl _)) .nil (by decide)) (by decide)) (by decide))
theorem tameB {a b c : Bool} : Tame (.list [.bool a, .bool b, .bool c]) 1 100 := .list (.cons (w1 := 10) (w2 := 60) (.bool a) (.cons (w1 := 10) (w2 := 30) (.bool b) (.cons (w1 := 10) (w2 := 0) (.bool c) .nil (by decide)) (by decide)) (by decide))
theorem tameM {a : Int} {b : Bool} {c : Int} (a0 : 0 ≤ a) (a1 : a < 1000) (c0 : 0 ≤ c) (c1 : c < 1000) : Tame (.list [.int a, .bool b, .int c]) 1 100 :=
  .list (.cons (w1 := 10) (w2 := 60) (.int a0 a1 (Nat.le_refl _)) (.cons (w1 := 10) (w2 := 30) (.bool b) (.cons (w1 := 10) (w2 := 0) (.int c0 c1 (Nat.le_refl _)) .nil (by decide)) (by decide)) (by decide))
theorem markAt {mk : List Bool} {i : Int} (i0 : 0 ≤ i) (i1 : i < mk.length) : atI (mk.map V.bl) i = some (.bl (mk.getD i.toNat false)) := by
  refine atI_int i0 ?_
  have h : i.toNat < mk.length := by omega
  rw [List.getElem?_map, List.getD_eq_getElem?_getD, List.getElem?_eq_getElem h]
  rfl
theorem no1 {z : Str} {st tt : Addr} : (mf z st tt).lookup ("state" : Str) = none := mf_no _ _ _ (by decide +kernel) (by decide +kernel) (by decide +kernel)
theorem no2 {z : Str} {st tt : Addr} : (mf z st tt).lookup ("step" : Str) = none := mf_no _ _ _ (by decide +kernel) (by decide +kernel) (by decide +kernel)
theorem bRepr {X : Cx} {e : Expr} {te : TE} {p pos : Pos} (hg : X.A.guards = some []) (hr : Room 0 X.A) (gl : Gl X "repr") (m : X.mg "repr" = none) (he : PE X e te) (na : starEach [e] X.env = (false, eval e X.env) :: starEach [] X.env := by rfl) :
    PE X (.Call (.Name "repr" p) [e] [] pos) (tCB (rRepr X.K) (tCons te tNil)) := pe_callB (cr_repr hg hr) gl m (by decide +kernel) (pa_cons he pa_nil na) (he := na)
def gApp : List Value → List Value → List Value := fun us ws => us ++ ws
def gAppV : List V → List V → List V := fun us ws => us ++ ws
/-- a machine's class, as the law calls it -/
structure Ms (P : Program) (w : World) (K : PySem.W.Frag) (mg : Str → Option Value) (base : Heap) (C : Addr) : Prop where
  M : MT K mg C
  signs : ∃ p g fd, PropOf K C "signs" p g ∧ FnOk P w K mg base CX0 1 g fd ["self"] (getSp C "_signs") ∧ Binds K fd ["self"] []
  steps : ∃ p g fd, PropOf K C "steps" p g ∧ FnOk P w K mg base CX0 1 g fd ["self"] (getSp C "_steps") ∧ Binds K fd ["self"] []
  told : ∃ p g fd, PropOf K C "told" p g ∧ FnOk P w K mg base CX0 1 g fd ["self"] (getSp C "_told") ∧ Binds K fd ["self"] []
  len : ∃ f fd, PySem.W.findIn K (.ref C) "__len__" = some (some (.ref f)) ∧ PySem.W.isFn K (.ref f) = true ∧ FnOk P w K mg base CX0 1 f fd ["self"] (spLen C) ∧ Binds K fd ["self"] []
  state : ∃ f fd, Meth K C "state" f ∧ FnOk P w K mg base CX0 3 f fd ["self", "row"] (spState C) ∧ Binds K fd ["self", "row"] [] ∧ KBn K fd ["self", "row"] 1 ["row"] gApp gAppV
  step : ∃ f fd, Meth K C "step" f ∧ FnOk P w K mg base CX0 3 f fd ["self", "state", "text"] (spStep C) ∧ Binds K fd ["self", "state", "text"] [] ∧ KBn K fd ["self", "state", "text"] 1 ["state", "text"] gApp gAppV
  item : ∃ f fd, PySem.W.findIn K (.ref C) "__getitem__" = some (some (.ref f)) ∧ PySem.W.fnIn K f = true ∧ PySem.W.isFn K (.ref f) = true ∧ FnOk P w K mg base CX0 4 f fd ["self", "at"] (spItem C) ∧ Binds K fd ["self", "at"] []
  has : ∃ f fd, PySem.W.findIn K (.ref C) "__contains__" = some (some (.ref f)) ∧ PySem.W.isFn K (.ref f) = true ∧ FnOk P w K mg base CX0 6 f fd ["self", "x"] (spItem C) ∧ Binds K fd ["self", "x"] []
/-- what the law holds: the pen, the table, the marks, the machine -/
structure Wd (C c p q a b : Addr) (n : Nat) (z : Str) (tb : List (List Int)) (mk : List Bool) (H : Hp) : Prop where
  pen : PenAt c n H p
  lt : LTab p H a tb
  bp : b ≠ p
  hb : H b = some (.lst (mk.map V.bl))
  m : Mach C H q z tb mk
theorem Wd.ink {C c p q a b : Addr} {n m : Nat} {z : Str} {tb : List (List Int)} {mk : List Bool} {H H' : Hp} (h : Wd C c p q a b n z tb mk H) (i : Ink c p m H H') : Wd C c p q a b m z tb mk H' := ⟨i.2, h.lt.ext i.1, h.bp, i.1 _ _ h.bp h.hb, h.m.ink h.pen i⟩
theorem Wd.same {C c p q a b : Addr} {n : Nat} {z : Str} {tb : List (List Int)} {mk : List Bool} {H H' : Hp} (h : Wd C c p q a b n z tb mk H) (e : Same H H') : Wd C c p q a b n z tb mk H' := h.ink ((Ink.start h.pen).same e)
def spRight (C : Addr) : Sp := fun vs H Q _ => ∃ (c p q a b : Addr) (n : Nat) (z : Str) (tb : List (List Int)) (mk : List Bool), vs = [.ref p, .str z, .ref a, .ref b, .ref q] ∧ n ≤ 800000 ∧ z ∈ five ∧ Tab z tb ∧ mk.length = tb.length ∧ Wd C c p q a b n z tb mk H ∧
  ∀ H', Ink c p (n + 300) H H' → Q (.bl true) H'
section
variable {P : Program} {w : World} {K : PySem.W.Frag} {mg : Str → Option Value} {base : Heap}
abbrev nRight : List Str := ["_law_pen_here", "_law_letters_here", "_law_table", "_law_marks", "_law_made_here", "_law_due", "_law_k", "_law_word_here", "_law_begin", "_law_end", "_law_other", "_law_line"]
theorem scRight : FnScope nRight ["_law_pen_here", "_law_letters_here", "_law_table", "_law_marks", "_law_made_here"] (defScope sRight) := ⟨rfl, rfl, rfl, by decide +kernel, rfl, by decide +kernel, by decide +kernel⟩
theorem ok_right {C f fD fW fS : Addr} {fd fdD fdW fdS : FuncData} (F : L2.Fun K "_law_right" "_law_right" sRight f fd) (T : Txt mg) (S : Ms P w K mg base C)
    (GD : FnOk P w K mg base CX0 1 fD fdD ["_law_pen_here", "_law_many"] spDraw) (mD : mg "_law_draw" = some (.ref fD)) (kD : PySem.W.keepIn K (.ref fD) = true) (bD : Binds K fdD ["_law_pen_here", "_law_many"] [])
    (GW : FnOk P w K mg base CX0 3 fW fdW ["_law_pen_here", "_law_letters_here", "_law_bound"] spWord) (mW : mg "_law_word" = some (.ref fW)) (kW : PySem.W.keepIn K (.ref fW) = true) (bW : Binds K fdW ["_law_pen_here", "_law_letters_here", "_law_bound"] [])
    (GS : FnOk P w K mg base CX0 1 fS fdS ["_law_letters_here", "_law_table", "_law_begin", "_law_word_here"] spSpot) (mS : mg "_law_spot" = some (.ref fS)) (kS : PySem.W.keepIn K (.ref fS) = true) (bS : Binds K fdS ["_law_letters_here", "_law_table", "_law_begin", "_law_word_here"] []) :
    FnG P w K mg base CX0 8 f fd ["_law_pen_here", "_law_letters_here", "_law_table", "_law_marks", "_law_made_here"] (spRight C) := by
  refine funG F scRight (fun vs H Q E h => ?_) (fun cdv A outer s H vs Q E hg hr h => ?_)
  · obtain ⟨c, p, q, a, b, n, z, tb, mk, rfl, _⟩ := h
    rfl
  · obtain ⟨c, p, q, a, b, n, z, tb, mk, rfl, nb, z5, Tb, ml, wd, k⟩ := h
    obtain ⟨M, ⟨p1, g1, d1, h11, h12, h13⟩, ⟨p2, g2, d2, h21, h22, h23⟩, ⟨p3, g3, d3, h31, h32, h33⟩, ⟨l1, l2, l3, l4, l5, l6⟩, ⟨s1, s2, s3, s4, s5, s6⟩, ⟨t1, t2, t3, t4, t5, t6⟩, ⟨i1, i2, i3, i4, i5, i6, i7⟩, ⟨c1, c2, c3, c4, c5, c6⟩⟩ := S
    have nd := scRight.nd
    have hg' : (A.deeper (envOfC "_law_right" (defScope sRight) s.heap.objs.size f cdv)).guards = some [] := hg
    have hr0 := hr.mono (show 0 ≤ 7 by decide)
    have hr1 := hr.mono (show 1 ≤ 7 by decide)
    have hr2 := hr.mono (show 1 + 1 ≤ 7 by decide)
    have hr3 := hr.mono (show 3 ≤ 7 by decide)
    have hr5 := hr.mono (show 4 + 1 ≤ 7 by decide)
    have hr6 := hr.mono (show 6 ≤ 7 by decide)
    refine ⟨_, pss_cons (ps_set (i := 5) nd rfl (.inl rfl) (pe_lst (pa_cons (pv 1) (pa_cons (bTup (by rfl) T.tuple (pe_lc (own := [("_law_line", 11)]) (g := gName 11) (tt := tYes) (te := tCB (rTup K) (tCons (tVar 11) tNil)) rfl nd (pi_list (pv 2)) (blkOk_by (N := nRight) (sc := defScope sRight) (by decide +kernel))
          (fun _ _ _ _ _ => pg_name (i := 11) nd rfl (Or.inl rfl)) (fun _ _ _ _ _ => pts_nil) (fun _ _ _ _ _ => bTup (by rfl) T.tuple (pv 11)))) (pa_cons (bTup (by rfl) T.tuple (pv 3)) (pa_cons (bLen (by rfl) T.len (pv 2)) pa_nil))))))
      (pss_cons (ps_if (pt_cmpR op_ne (bRepr hg' hr0 (by rfl) T.repr (pe_lst (pa_cons (pe_prop (pv 4) M.cl h11 h12 hr2 h13 .nil pass0 rfl) (pa_cons (pe_prop (pv 4) M.cl h21 h22 hr2 h23 .nil pass0 rfl) (pa_cons (pe_prop (pv 4) M.cl h31 h32 hr2 h33 .nil pass0 rfl)
          (pa_cons (pe_callB (cr_len l5 hr2 l6 pass0 l3 l4) (by rfl) T.len PySem.boot_len (pa_cons (pv 4) pa_nil)) pa_nil)))))) (bRepr hg' hr0 (by rfl) T.repr (pv 5)) (nomark _)) (pss_one ps_never) pss_nil)
      (pss_cons (ps_for PassesOwn.never rfl (pi_range1 (by rfl) T.range (pa_cons pe_int pa_nil)) (pg_name (i := 6) nd rfl (Or.inl rfl))
        (pss_cons (ps_set (i := 7) nd rfl (.inl rfl) (pe_call GW hr3 (by rfl) mW kW bW .nil pass0 (pa_cons (pv 0) (pa_cons (pv 1) (pa_cons (pe_ix ix_list (pe_lst (pa_cons pe_int (pa_cons pe_int pa_nil))) (pe_call GD hr1 (by rfl) mD kD bD .nil pass0 (pa_cons (pv 0) (pa_cons pe_int pa_nil))) (fun _ _ => rfl)) pa_nil)))))
        (pss_cons (ps_set (i := 8) nd rfl (.inl rfl) (pe_call GD hr1 (by rfl) mD kD bD .nil pass0 (pa_cons (pv 0) (pa_cons (bLen (by rfl) T.len (pv 2)) pa_nil))))
        (pss_cons (ps_par (i := 9) (j := 10) rfl nd rfl rfl (by decide) rfl rfl (pa_cons (pe_call GS hr1 (by rfl) mS kS bS .nil pass0 (pa_cons (pv 1) (pa_cons (pv 2) (pa_cons pe_int (pa_cons (pv 7) pa_nil))))) (pa_cons (pe_call GS hr1 (by rfl) mS kS bS .nil pass0 (pa_cons (pv 1) (pa_cons (pv 2) (pa_cons (pv 8) (pa_cons (pv 7) pa_nil))))) pa_nil)) rfl)
        (pss_cons (ps_if (pt_cmpR op_ne (bRepr hg' hr0 (by rfl) T.repr (pe_lst (pa_cons (pe_meth (pv 4) M.cl s3 s4 hr3 s5 .nil pass0 (pa_cons (pv 7) pa_nil)) (pa_cons (pe_meth (pv 4) M.cl t3 t4 hr3 t5 .nil pass0 (pa_cons (pv 8) (pa_cons (pv 7) pa_nil)))
            (pa_cons (pe_meth (pv 4) M.cl t3 t4 hr3 t5 .nil pass0 (pa_cons pe_int (pa_cons (pv 7) pa_nil))) pa_nil))))) (bRepr hg' hr0 (by rfl) T.repr (pe_lst (pa_cons (pv 9) (pa_cons (pv 10) (pa_cons (pv 9) pa_nil))))) (nomark _)) (pss_one ps_never) pss_nil)
        (pss_cons (ps_if (pt_cmpR op_ne (bRepr hg' hr0 (by rfl) T.repr (pe_lst (pa_cons (pe_item i6 hr5 i7 pass0 i3 i4 i5 (pv 4) (pv 7)) (pa_cons (pe_cmpR (op_has c5 hr6 c6 pass0 c3 c4) (pv 7) (pv 4) (by rfl)) (pa_cons (pe_cmpR (op_hasnt c5 hr6 c6 pass0 c3 c4) (pv 7) (pv 4) (by rfl)) pa_nil)))))
            (bRepr hg' hr0 (by rfl) T.repr (pe_lst (pa_cons (pe_ix ix_list (pv 3) (pv 9) (fun _ _ => rfl)) (pa_cons (pe_ix ix_list (pv 3) (pv 9) (fun _ _ => rfl)) (pa_cons (pe_not (pe_ix ix_list (pv 3) (pv 9) (fun _ _ => rfl))) pa_nil))))) (nomark _)) (pss_one ps_never) pss_nil)
        (pss_one (ps_if (PW.pt (pw_or (pt_cmpR op_ne (pe_methK (pv 4) M.cl s3 s4 hr3 s6 pass0 (pk_cons (pv 7) pk_nil)) (pv 9) (nomark _)) (pw_or1 (pt_cmpR op_ne (pe_methK (pv 4) M.cl t3 t4 hr3 t6 pass0 (pk_cons (pv 8) (pk_cons (pv 7) pk_nil))) (pv 10) (nomark _))))) (pss_one ps_never) pss_nil))))))))
      (pss_one (ps_ret (pe_cmpR op_eq (bRepr hg' hr0 (by rfl) T.repr (pe_lst (pa_cons (pe_meth (pv 4) M.cl s3 s4 hr3 s5 .nil pass0 (pa_cons pe_str pa_nil)) (pa_cons (pe_item i6 hr5 i7 pass0 i3 i4 i5 (pv 4) pe_str) (pa_cons (pe_meth (pv 4) M.cl t3 t4 hr3 t5 .nil pass0 (pa_cons pe_int (pa_cons pe_str pa_nil))) pa_nil)))))
        (bRepr hg' hr0 (by rfl) T.repr (pe_lst (pa_cons pe_int (pa_cons (pe_ix ix_list (pv 3) pe_int (fun _ _ => rfl)) (pa_cons pe_int pa_nil))))) (nomark _)))))), ?_⟩
    have few := Tb.few
    have Z := zok z5
    obtain ⟨ap, xs, ha, rows⟩ := wd.lt
    have mfew : mk.length ≤ 8 := by omega
    refine ⟨_, rfl, _, rfl, a, rfl, ⟨_, SqL.of ha⟩, fun D hD => lcRows .tup hD ha (rows.mono fun r ys h => h.2) few (fun r ys H' Q' e q => ⟨_, rfl, rTup_new e q⟩) fun H1 acc r1 hDl rl => ?_⟩
    dsimp only [tNil]
    refine rTup_of (.inl hDl) fun a1 H2 r2 _ ha1 => ?_
    refine ⟨_, rfl, ?_⟩
    dsimp only [tNil]
    refine rTup_of (xs := mk.map V.bl) (.inl (r2 _ _ (r1 _ _ wd.hb))) fun a2 H3 r3 _ ha2 => ?_
    have r03 : Same H H3 := Same.trans r1 (Same.trans r2 r3)
    refine ⟨_, rfl, _, _, rfl, Sq.len (.inl (r03 _ _ ha)), by show 4 ≤ sizeLine; decide, fun d hd => ?_⟩
    have r04 : Same H (upd H3 d (.lst [.str z, .ref a1, .ref a2, .int (xs.length : Nat)])) := Same.trans r03 (Same.new hd)
    have due : ∀ H', Same (upd H3 d (.lst [.str z, .ref a1, .ref a2, .int (xs.length : Nat)])) H' → Rp K H' (.ref d) (dueD z tb mk) := by
      intro H' s'
      have e3 : ∀ {l : Addr} {o : HO}, H3 l = some o → H' l = some o := fun {l o} e => s' _ _ (by rw [upd_ne (ne_of_none e hd)]; exact e)
      exact rp_due (e3 (r3 _ _ ha1)) (rl.mono fun l ys h => e3 (r3 _ _ (r2 _ _ h.2.2))) (e3 ha2) (s' _ _ (by rw [upd_same, rows.1]))
    show tSeq _ _ _ _ (upd H3 d (.lst [.str z, .ref a1, .ref a2, .int (xs.length : Nat)]))
    generalize upd H3 d (.lst [.str z, .ref a1, .ref a2, .int (xs.length : Nat)]) = H4 at r04 due ⊢
    have wd4 := wd.same r04
    have m4 := wd4.m
    obtain ⟨dx, st, tt, hq, ⟨ys, hst, hrows⟩, htt⟩ := id m4
    refine ⟨_, rfl, q, dx, _, rfl, hq, q, dx, _, _, rfl, hq, mf_signs _ _ _, ?_⟩
    refine ⟨_, rfl, q, dx, _, rfl, hq, q, dx, _, _, rfl, hq, mf_steps _ _ _, ?_⟩
    refine ⟨_, rfl, q, dx, _, rfl, hq, q, dx, _, _, rfl, hq, mf_told _ _ _, ?_⟩
    refine ⟨_, rfl, q, dx, _, rfl, hq, q, z, tb, mk, rfl, m4, _, rfl, by omega, by omega, by show 4 ≤ sizeLine; decide, fun e he => ?_⟩
    dsimp only [tNil]
    have r45 : Same H4 (upd H4 e (.lst [.str z, .ref st, .ref tt, .int (tb.length : Nat)])) := Same.new he
    refine rRepr_of (rp_due (r45 _ _ hst) (hrows.mono fun l ys h => r45 _ _ h) (r45 _ _ htt) upd_same) (tame_due z5 Tb ml) (by decide) (by decide) ?_
    refine ⟨_, rfl, ?_⟩
    dsimp only [tNil]
    refine rRepr_of (due _ r45) (tame_due z5 Tb ml) (by decide) (by decide) ?_
    refine ⟨rfl, _, rfl, ?_⟩
    rw [show (!decide (V.str (dueD z tb mk).shown = V.str (dueD z tb mk).shown)) = false by rw [decide_eq_true rfl]; rfl]
    refine iteF ?_
    have wd5 := wd4.same r45
    have i5 : Ink c p n H (upd H4 e (.lst [.str z, .ref st, .ref tt, .int (tb.length : Nat)])) := (Ink.start wd.pen).same (Same.trans r04 r45)
    show tSeq _ _ _ _ (upd H4 e (.lst [.str z, .ref st, .ref tt, .int (tb.length : Nat)]))
    generalize upd H4 e (.lst [.str z, .ref st, .ref tt, .int (tb.length : Nat)]) = H5 at wd5 i5 ⊢
    refine ⟨6, rfl, by decide, by decide, for_it walk_range (fun i σ' H' => ∃ y1 y2 y3 y4 y5, σ' = [some (.ref p), some (.str z), some (.ref a), some (.ref b), some (.ref q), some (.ref d), y1, y2, y3, y4, y5, none] ∧ Ink c p (n + 43 * i) H5 H') ⟨none, none, none, none, none, rfl, Ink.start wd5.pen⟩ (fun _ _ _ _ _ => trivial) ?_ ?_⟩
    · rintro i x σ' H' H6 hi ⟨y1, y2, y3, y4, y5, rfl, ink⟩ yy
      obtain ⟨e6, ex⟩ := yy
      subst e6
      subst ex
      have hi6 : i < 6 := hi
      have nm : n + 43 * i ≤ 850000 := by omega
      have fin : n + 43 * (i + 1) = n + 43 * i + 43 := by omega
      rw [fin]
      generalize n + 43 * i = m at ink nm ⊢
      refine ⟨_, rfl, _, rfl, by show 2 ≤ sizeLine; decide, fun l hl => ?_⟩
      have ink6 := ink.new (o := .lst [.int 3, .int 40]) hl
      refine ⟨_, rfl, c, p, 2, m, rfl, by decide, by decide, by omega, ink6.2, fun r H7 r0 r1 pen7 x7 => ?_⟩
      have ink7 : Ink c p (m + 1) H5 H7 := ⟨Ext1.trans ink6.1 x7, pen7⟩
      have lp : l ≠ p := ink.2.ne1 hl
      obtain ⟨bd, eb, bd0, bd1⟩ : ∃ bd : Int, atI [V.int 3, V.int 40] r = some (.int bd) ∧ 0 ≤ bd ∧ bd ≤ 40 := by
        rcases (show r = 0 ∨ r = 1 by omega) with rfl | rfl
        · exact ⟨3, rfl, by decide, by decide⟩
        · exact ⟨40, rfl, by decide, by decide⟩
      refine ⟨l, _, r, _, rfl, rfl, SqL.of (x7 _ _ lp upd_same), eb, c, p, m + 1, z, bd, rfl, by omega, pen7, Z, bd0, bd1, fun wo H8 hw hl8 i8 => ?_⟩
      have ink8 := Ink.trans ink7 i8
      obtain ⟨_, xs8, ha8, rows8⟩ := (wd5.ink ink8).lt
      have hl1 : wo.length ≤ 1000 := by omega
      refine ⟨_, rfl, _, rfl, _, _, rfl, Sq.len (.inl ha8), c, p, _, m + 42, rfl, by have := rows8.1; have := Tb.pos; omega, by have := rows8.1; omega, by omega, ink8.2, fun s0 H9 s00 s01 pen9 x9 => ?_⟩
      have s02 : s0 < tb.length := by have := rows8.1; omega
      have ink9 : Ink c p (m + 43) H5 H9 := ⟨Ext1.trans ink8.1 x9, pen9⟩
      have wd9 := wd5.ink ink9
      have tp := Tb.pos
      refine ⟨_, rfl, _, rfl, _, rfl, p, z, a, tb, 0, wo, rfl, Z, Tb, wd9.lt, by decide, by omega, hw, _, rfl, _, rfl, _, rfl, _, rfl, p, z, a, tb, s0, wo, rfl, Z, Tb, wd9.lt, s00, s02, hw, _, _, rfl, ?_⟩
      obtain ⟨e0, e1⟩ := runZ_ok Z Tb wo.cps.toList (s := 0) (by decide) (by omega) hw
      obtain ⟨g0, g1⟩ := runZ_ok Z Tb wo.cps.toList s00 s02 hw
      have t3' := tame3 e0 (by omega) g0 (by omega) e0 (by omega : runZ z tb 0 wo.cps.toList < 1000)
      obtain ⟨dx9, st9, tt9, hq9, hst9, htt9⟩ := id wd9.m
      refine ⟨_, rfl, q, dx9, _, rfl, hq9, no1, _, rfl, q, z, tb, mk, wo, rfl, wd9.m, Z, Tb, hw, hl1, ?_⟩
      refine ⟨_, rfl, q, dx9, _, rfl, hq9, no2, _, rfl, _, rfl, q, z, tb, mk, s0, wo, rfl, wd9.m, Z, Tb, s00, s02, hw, hl1, ?_⟩
      refine ⟨_, rfl, q, dx9, _, rfl, hq9, no2, _, rfl, q, z, tb, mk, 0, wo, rfl, wd9.m, Z, Tb, by decide, by omega, hw, hl1, by show 3 ≤ sizeLine; decide, fun q1 hq1 => ?_⟩
      dsimp only [tNil]
      refine rRepr_of (.lst (SqL.of upd_same) (.cons (.int _) (.cons (.int _) (.cons (.int _) .nil)))) t3' (by decide) (by decide) ?_
      refine ⟨_, rfl, _, rfl, _, rfl, by show 3 ≤ sizeLine; decide, fun q2 hq2 => ?_⟩
      dsimp only [tNil]
      refine rRepr_of (.lst (SqL.of upd_same) (.cons (.int _) (.cons (.int _) (.cons (.int _) .nil)))) t3' (by decide) (by decide) ?_
      refine ⟨rfl, _, rfl, ?_⟩
      rw [neSame]
      refine iteF ?_
      have r10 : Same H9 (upd (upd H9 q1 (.lst [.int (runZ z tb 0 wo.cps.toList), .int (runZ z tb s0 wo.cps.toList), .int (runZ z tb 0 wo.cps.toList)])) q2 (.lst [.int (runZ z tb 0 wo.cps.toList), .int (runZ z tb s0 wo.cps.toList), .int (runZ z tb 0 wo.cps.toList)])) := Same.trans (Same.new hq1) (Same.new hq2)
      show tSeq _ _ _ _ (upd (upd H9 q1 (.lst [.int (runZ z tb 0 wo.cps.toList), .int (runZ z tb s0 wo.cps.toList), .int (runZ z tb 0 wo.cps.toList)])) q2 (.lst [.int (runZ z tb 0 wo.cps.toList), .int (runZ z tb s0 wo.cps.toList), .int (runZ z tb 0 wo.cps.toList)]))
      generalize upd (upd H9 q1 (.lst [.int (runZ z tb 0 wo.cps.toList), .int (runZ z tb s0 wo.cps.toList), .int (runZ z tb 0 wo.cps.toList)])) q2 (.lst [.int (runZ z tb 0 wo.cps.toList), .int (runZ z tb s0 wo.cps.toList), .int (runZ z tb 0 wo.cps.toList)]) = G1 at r10 ⊢
      have ink10 := ink9.same r10
      have wd10 := wd5.ink ink10
      obtain ⟨dxa, sta, tta, hqa, hsta, htta⟩ := id wd10.m
      have mka := markAt (mk := mk) e0 (by omega)
      refine ⟨_, rfl, _, rfl, q, dxa, _, rfl, hqa, q, z, tb, mk, wo, rfl, wd10.m, Z, Tb, ml, hw, hl1, ?_⟩
      refine ⟨_, rfl, _, rfl, q, dxa, _, rfl, hqa, q, z, tb, mk, wo, rfl, wd10.m, Z, Tb, ml, hw, hl1, _, rfl, ?_⟩
      refine ⟨_, rfl, _, rfl, q, dxa, _, rfl, hqa, q, z, tb, mk, wo, rfl, wd10.m, Z, Tb, ml, hw, hl1, _, rfl, by show 3 ≤ sizeLine; decide, fun q3 hq3 => ?_⟩
      dsimp only [tNil]
      refine rRepr_of (d := .list [.bool (markZ z tb mk wo), .bool (markZ z tb mk wo), .bool (!markZ z tb mk wo)]) (.lst (SqL.of upd_same) (.cons (.bl _) (.cons (.bl _) (.cons (.bl _) .nil)))) tameB (by decide) (by decide) ?_
      have hba : upd G1 q3 (.lst [.bl (markZ z tb mk wo), .bl (markZ z tb mk wo), .bl (if true then !markZ z tb mk wo else markZ z tb mk wo)]) b = some (.lst (mk.map V.bl)) := by
        rw [upd_ne (ne_of_none wd10.hb hq3)]
        exact wd10.hb
      refine ⟨_, rfl, _, rfl, b, _, _, _, rfl, rfl, SqL.of hba, mka, _, rfl, _, rfl, b, _, _, _, rfl, rfl, SqL.of hba, mka, _, rfl, _, rfl, b, _, _, _, rfl, rfl, SqL.of hba, mka, _, rfl, by show 3 ≤ sizeLine; decide, fun q4 hq4 => ?_⟩
      dsimp only [tNil]
      refine rRepr_of (d := .list [.bool (markZ z tb mk wo), .bool (markZ z tb mk wo), .bool (!markZ z tb mk wo)]) (.lst (SqL.of upd_same) (.cons (.bl _) (.cons (.bl _) (.cons (.bl _) .nil)))) tameB (by decide) (by decide) ?_
      refine ⟨rfl, _, rfl, ?_⟩
      rw [neSame]
      refine iteF ?_
      have grow : ∀ {G0 : Hp} {u v : Addr} {xs' ys' : List V}, G0 u = none → upd G0 u (.lst xs') v = none → Same G0 (upd (upd G0 u (.lst xs')) v (.lst ys')) := fun h1 h2 => Same.trans (Same.new h1) (Same.new h2)
      have r11 : Same G1 (upd (upd G1 q3 (.lst [.bl (markZ z tb mk wo), .bl (markZ z tb mk wo), .bl (if true then !markZ z tb mk wo else markZ z tb mk wo)])) q4 (.lst [.bl (mk.getD (runZ z tb 0 wo.cps.toList).toNat false), .bl (mk.getD (runZ z tb 0 wo.cps.toList).toNat false), .bl (!mk.getD (runZ z tb 0 wo.cps.toList).toNat false)])) := grow hq3 hq4
      show tSeq _ _ _ _ (upd (upd G1 q3 (.lst [.bl (markZ z tb mk wo), .bl (markZ z tb mk wo), .bl (if true then !markZ z tb mk wo else markZ z tb mk wo)])) q4 (.lst [.bl (mk.getD (runZ z tb 0 wo.cps.toList).toNat false), .bl (mk.getD (runZ z tb 0 wo.cps.toList).toNat false), .bl (!mk.getD (runZ z tb 0 wo.cps.toList).toNat false)]))
      generalize upd (upd G1 q3 (.lst [.bl (markZ z tb mk wo), .bl (markZ z tb mk wo), .bl (if true then !markZ z tb mk wo else markZ z tb mk wo)])) q4 (.lst [.bl (mk.getD (runZ z tb 0 wo.cps.toList).toNat false), .bl (mk.getD (runZ z tb 0 wo.cps.toList).toNat false), .bl (!mk.getD (runZ z tb 0 wo.cps.toList).toNat false)]) = G2 at r11 ⊢
      have ink11 := ink10.same r11
      have wd11 := wd5.ink ink11
      obtain ⟨dxb, stb, ttb, hqb, hstb, httb⟩ := id wd11.m
      refine ⟨_, rfl, q, dxb, _, rfl, hqb, no1, _, rfl, rfl, q, z, tb, mk, wo, rfl, wd11.m, Z, Tb, hw, hl1, _, rfl, rfl, ?_⟩
      rw [neSame]
      refine ⟨_, rfl, iteF ?_⟩
      refine ⟨_, rfl, q, dxb, _, rfl, hqb, no2, _, rfl, _, rfl, rfl, q, z, tb, mk, s0, wo, rfl, wd11.m, Z, Tb, s00, s02, hw, hl1, _, rfl, rfl, ?_⟩
      rw [neSame]
      refine ⟨_, rfl, iteF ?_⟩
      exact ⟨_, _, _, _, _, rfl, ink11⟩
    · rintro σ' H' ⟨y1, y2, y3, y4, y5, rfl, ink⟩
      have wd6 := wd5.ink ink
      obtain ⟨dxa, sta, tta, hqa, hsta, htta⟩ := id wd6.m
      have hw : Word z "" := fun c hc => absurd hc List.not_mem_nil
      have tp := Tb.pos
      have l0 : ("" : Str).length ≤ 1000 := by decide
      refine ⟨_, rfl, q, dxa, _, rfl, hqa, no1, q, z, tb, mk, "", rfl, wd6.m, Z, Tb, hw, l0, ?_⟩
      refine ⟨_, rfl, q, dxa, _, rfl, hqa, q, z, tb, mk, "", rfl, wd6.m, Z, Tb, ml, hw, l0, ?_⟩
      refine ⟨_, rfl, q, dxa, _, rfl, hqa, no2, q, z, tb, mk, 0, "", rfl, wd6.m, Z, Tb, by decide, by omega, hw, l0, by show 3 ≤ sizeLine; decide, fun q1 hq1 => ?_⟩
      dsimp only [tNil]
      refine rRepr_of (d := .list [.int 0, .bool (mk.getD 0 false), .int 0]) (.lst (SqL.of upd_same) (.cons (.int _) (.cons (.bl _) (.cons (.int _) .nil)))) (tameM (by decide) (by decide) (by decide) (by decide)) (by decide) (by decide) ?_
      refine ⟨_, rfl, b, _, _, _, rfl, rfl, SqL.of ?_, markAt (mk := mk) (i := 0) (by decide) (by omega), by show 3 ≤ sizeLine; decide, fun q2 hq2 => ?_⟩
      · rw [upd_ne (ne_of_none wd6.hb hq1)]
        exact wd6.hb
      dsimp only [tNil]
      refine rRepr_of (d := .list [.int 0, .bool (mk.getD 0 false), .int 0]) (.lst (SqL.of upd_same) (.cons (.int _) (.cons (.bl _) (.cons (.int _) .nil)))) (tameM (by decide) (by decide) (by decide) (by decide)) (by decide) (by decide) ?_
      refine ⟨rfl, ?_⟩
      rw [eqSame]
      exact k _ ((((Ink.trans i5 ink).mono (by show n + 43 * 6 ≤ n + 300; omega)).new hq1).new hq2)
end
end Kx
set_option Elab.async false
set_option maxRecDepth 100000
set_option autoImplicit false
namespace Kx
open PySem L2 PySem.Spec PyProof.Rows Rg
def spLaw (K : PySem.W.Frag) : Sp := fun vs H Q _ => ∃ (a : Addr) (ns : List Int), vs = [.ref a] ∧ SqL K H a (ns.map V.int) ∧ ns.length ≤ 63 ∧ ∀ H', Q (.bl true) H'
section
variable {P : Program} {w : World} {K : PySem.W.Frag} {mg : Str → Option Value} {base : Heap}
abbrev nLaw : List Str := ["_law_script", "_law_pen_here", "_law_turn", "_law_letters_here", "_law_table", "_law_marks", "_law_made_here", "_law_again"]
theorem scLaw : FnScope nLaw ["_law_script"] (defScope sLaw) := ⟨rfl, rfl, rfl, by decide +kernel, rfl, by decide +kernel, by decide +kernel⟩
theorem ok_law {C f f1 f2 f3 f4 f5 : Addr} {fd d1 d2 d3 d4 d5 : FuncData} (F : L2.Fun K "law" "law" sLaw f fd) (T : Txt mg)
    (G1 : FnOk P w K mg base CX0 1 f1 d1 ["_law_script"] (spPen K)) (m1 : mg "_law_pen" = some (.ref f1)) (k1 : PySem.W.keepIn K (.ref f1) = true) (b1 : Binds K d1 ["_law_script"] [])
    (G2 : FnOk P w K mg base CX0 3 f2 d2 ["_law_pen_here"] spLetters) (m2 : mg "_law_letters" = some (.ref f2)) (k2 : PySem.W.keepIn K (.ref f2) = true) (b2 : Binds K d2 ["_law_pen_here"] [])
    (G3 : FnOk P w K mg base CX0 2 f3 d3 ["_law_pen_here", "_law_letters_here", "_law_bound"] spPlan) (m3 : mg "_law_plan" = some (.ref f3)) (k3 : PySem.W.keepIn K (.ref f3) = true) (b3 : Binds K d3 ["_law_pen_here", "_law_letters_here", "_law_bound"] [])
    (G4 : FnOk P w K mg base CX0 7 f4 d4 ["_law_pen_here", "_law_letters_here", "_law_table", "_law_marks"] (spMade C)) (m4 : mg "_law_made" = some (.ref f4)) (k4 : PySem.W.keepIn K (.ref f4) = true) (b4 : Binds K d4 ["_law_pen_here", "_law_letters_here", "_law_table", "_law_marks"] [])
    (G5 : FnG P w K mg base CX0 8 f5 d5 ["_law_pen_here", "_law_letters_here", "_law_table", "_law_marks", "_law_made_here"] (spRight C)) (m5 : mg "_law_right" = some (.ref f5)) (k5 : PySem.W.keepIn K (.ref f5) = true) (b5 : Binds K d5 ["_law_pen_here", "_law_letters_here", "_law_table", "_law_marks", "_law_made_here"] []) :
    FnG P w K mg base CX0 9 f fd ["_law_script"] (spLaw K) := by
  refine funG F scLaw (fun vs H Q E h => ?_) (fun cdv A outer s H vs Q E hg hr h => ?_)
  · obtain ⟨a, ns, rfl, _⟩ := h
    rfl
  · obtain ⟨a, ns, rfl, hs, hl, k⟩ := h
    have nd := scLaw.nd
    have hg' : (A.deeper (envOfC "law" (defScope sLaw) s.heap.objs.size f cdv)).guards = some [] := hg
    have hr1 := hr.mono (show 1 ≤ 8 by decide)
    have hr2 := hr.mono (show 2 ≤ 8 by decide)
    have hr3 := hr.mono (show 3 ≤ 8 by decide)
    have hr7 := hr.mono (show 7 ≤ 8 by decide)
    refine ⟨_, pss_cons (ps_set (i := 1) nd rfl (.inl rfl) (pe_call G1 hr1 (by rfl) m1 k1 b1 .nil pass0 (pa_cons (pv 0) pa_nil)))
      (pss_cons (ps_for PassesOwn.never rfl (pi_range1 (by rfl) T.range (pa_cons pe_int pa_nil)) (pg_name (i := 2) nd rfl (Or.inl rfl))
        (pss_cons (ps_set (i := 3) nd rfl (.inl rfl) (pe_call G2 hr3 (by rfl) m2 k2 b2 .nil pass0 (pa_cons (pv 1) pa_nil)))
        (pss_cons (ps_asg (pe_call G3 hr2 (by rfl) m3 k3 b3 .nil pass0 (pa_cons (pv 1) (pa_cons (pv 3) (pa_cons pe_int pa_nil)))) (pg_tup rfl (pgs_cons (pg_name (i := 4) nd rfl (Or.inl rfl)) (pgs_cons (pg_name (i := 5) nd rfl (Or.inl rfl)) pgs_nil))))
        (pss_cons (ps_set (i := 6) nd rfl (.inl rfl) (pe_call G4 hr7 (by rfl) m4 k4 b4 .nil pass0 (pa_cons (pv 1) (pa_cons (pv 3) (pa_cons (pv 4) (pa_cons (pv 5) pa_nil))))))
        (pss_one (ps_for PassesOwn.never rfl (pi_range1 (by rfl) T.range (pa_cons pe_int pa_nil)) (pg_name (i := 7) nd rfl (Or.inl rfl))
          (pss_one (ps_if (pt_not (pt_val (pe_callG hg' G5 hr (by rfl) m5 k5 b5 pass0 (pa_cons (pv 1) (pa_cons (pv 3) (pa_cons (pv 4) (pa_cons (pv 5) (pa_cons (pv 6) pa_nil)))))))) (pss_one ps_never) pss_nil))))))))
      (pss_one (ps_ret pe_bl))), ?_⟩
    refine ⟨_, rfl, a, ns, rfl, hs, hl, fun c p H1 s1 pen => ?_⟩
    refine ⟨5, rfl, by decide, by decide, for_it walk_range (fun i σ' H' => ∃ y2 y3 y4 y5 y6 y7, σ' = [some (.ref a), some (.ref p), y2, y3, y4, y5, y6, y7] ∧ PenAt c (700 * i) H' p) ⟨none, none, none, none, none, none, rfl, pen⟩ (fun _ _ _ _ _ => trivial) ?_ ?_⟩
    · rintro i x σ' H' H2 hi ⟨y2, y3, y4, y5, y6, y7, rfl, pen2⟩ yy
      obtain ⟨e6, ex⟩ := yy
      subst e6
      subst ex
      have hi5 : i < 5 := hi
      refine ⟨_, rfl, c, p, 700 * i, rfl, by omega, pen2, fun z H3 hz i3 => ?_⟩
      refine ⟨_, rfl, _, rfl, c, p, 700 * i + 1, z, rfl, by omega, i3.2, zok hz, fun t ta tm tb mk H4 ht lt Tb bp hb ml i4 => ?_⟩
      refine ⟨t, _, rfl, SqT.of ht, rfl, _, _, rfl, _, _, rfl, rfl, ?_⟩
      refine ⟨_, rfl, _, rfl, _, rfl, _, rfl, c, p, 700 * i + 1 + 41, z, ta, tm, tb, mk, rfl, by omega, i4.2, zok hz, Tb, lt, bp, hb, ml, fun q H5 i5 m => ?_⟩
      have wd : Wd C c p q ta tm (700 * i + 1 + 41 + 1) z tb mk H5 := ⟨i5.2, lt.ext i5.1, bp, i5.1 _ _ bp hb, m⟩
      refine ⟨2, rfl, by decide, by decide, for_it walk_range (fun j σ' H' => ∃ y7, σ' = [some (.ref a), some (.ref p), some (.int (0 + i)), some (.str z), some (.ref ta), some (.ref tm), some (.ref q), y7] ∧ Wd C c p q ta tm (700 * i + 43 + 300 * j) z tb mk H') ⟨y7, rfl, wd⟩ (fun _ _ _ _ _ => trivial) ?_ ?_⟩
      · rintro j x σ' H' H6 hj ⟨y, rfl, wd'⟩ yy
        obtain ⟨e6, ex⟩ := yy
        subst e6
        subst ex
        have hj2 : j < 2 := hj
        exact ⟨_, rfl, _, rfl, _, rfl, _, rfl, _, rfl, c, p, q, ta, tm, _, z, tb, mk, rfl, by omega, hz, Tb, ml, wd', fun H7 i7 => ⟨true, rfl, iteF ⟨_, rfl, wd'.ink i7⟩⟩⟩
      · rintro σ' H' ⟨y, rfl, wd'⟩
        exact ⟨_, _, _, _, _, _, rfl, wd'.pen.mono (by show 700 * i + 43 + 300 * 2 ≤ 700 * (i + 1); omega)⟩
    · rintro σ' H' ⟨y2, y3, y4, y5, y6, y7, rfl, pen2⟩
      exact k H'
end
end Kx
set_option Elab.async false
set_option maxRecDepth 100000
set_option autoImplicit false
namespace Kx
open PySem L2 PySem.Spec PyProof.Rows Rg
set_option maxHeartbeats 0 in
theorem all_mk {l : PySem.W.OpenLaw} {w : World} {K : PySem.W.Frag} {h : Heap} {mg : Str → Option Value} {fa C : Addr} {tk : Tok} (X : K.In h) (G : h.Ns mainGlobals mg) (hfa : mg "law" = some (.ref fa))
    {f_fromto : Addr} {od_fromto an_fromto : Option Addr} {sl_fromto : Array (Option Value)} {oc_fromto kV_fromto dc_fromto pm_fromto cd_fromto ct_fromto : Value}
    {f_letrs : Addr} {od_letrs an_letrs : Option Addr} {sl_letrs : Array (Option Value)} {oc_letrs kV_letrs dc_letrs pm_letrs cd_letrs ct_letrs : Value}
    {f_signs_ : Addr} {od_signs_ an_signs_ : Option Addr} {sl_signs_ : Array (Option Value)} {oc_signs_ kV_signs_ dc_signs_ pm_signs_ cd_signs_ ct_signs_ : Value}
    {f_wrong : Addr} {od_wrong an_wrong : Option Addr} {sl_wrong : Array (Option Value)} {oc_wrong kV_wrong dc_wrong pm_wrong cd_wrong ct_wrong : Value}
    {f_chrow : Addr} {od_chrow an_chrow : Option Addr} {sl_chrow : Array (Option Value)} {oc_chrow kV_chrow dc_chrow pm_chrow cd_chrow ct_chrow : Value}
    {f_ledon : Addr} {od_ledon an_ledon : Option Addr} {sl_ledon : Array (Option Value)} {oc_ledon kV_ledon dc_ledon pm_ledon cd_ledon ct_ledon : Value}
    {f_chsig : Addr} {od_chsig an_chsig : Option Addr} {sl_chsig : Array (Option Value)} {oc_chsig kV_chsig dc_chsig pm_chsig cd_chsig ct_chsig : Value}
    {f_asteps : Addr} {od_asteps an_asteps : Option Addr} {sl_asteps : Array (Option Value)} {oc_asteps kV_asteps dc_asteps pm_asteps cd_asteps ct_asteps : Value}
    {f_astates : Addr} {od_astates an_astates : Option Addr} {sl_astates : Array (Option Value)} {oc_astates kV_astates dc_astates pm_astates cd_astates ct_astates : Value}
    {f_aansw : Addr} {od_aansw an_aansw : Option Addr} {sl_aansw : Array (Option Value)} {oc_aansw kV_aansw dc_aansw pm_aansw cd_aansw ct_aansw : Value}
    {f_pen : Addr} {od_pen an_pen : Option Addr} {sl_pen : Array (Option Value)} {oc_pen kV_pen dc_pen pm_pen cd_pen ct_pen : Value}
    {f_draw : Addr} {od_draw an_draw : Option Addr} {sl_draw : Array (Option Value)} {oc_draw kV_draw dc_draw pm_draw cd_draw ct_draw : Value}
    {f_pick : Addr} {od_pick an_pick : Option Addr} {sl_pick : Array (Option Value)} {oc_pick kV_pick dc_pick pm_pick cd_pick ct_pick : Value}
    {f_lett : Addr} {od_lett an_lett : Option Addr} {sl_lett : Array (Option Value)} {oc_lett kV_lett dc_lett pm_lett cd_lett ct_lett : Value}
    {f_plan : Addr} {od_plan an_plan : Option Addr} {sl_plan : Array (Option Value)} {oc_plan kV_plan dc_plan pm_plan cd_plan ct_plan : Value}
    {f_spot : Addr} {od_spot an_spot : Option Addr} {sl_spot : Array (Option Value)} {oc_spot kV_spot dc_spot pm_spot cd_spot ct_spot : Value}
    {f_word : Addr} {od_word an_word : Option Addr} {sl_word : Array (Option Value)} {oc_word kV_word dc_word pm_word cd_word ct_word : Value}
    {f_made : Addr} {od_made an_made : Option Addr} {sl_made : Array (Option Value)} {oc_made kV_made dc_made pm_made cd_made ct_made : Value}
    {f_right : Addr} {od_right an_right : Option Addr} {sl_right : Array (Option Value)} {oc_right kV_right dc_right pm_right cd_right ct_right : Value}
    {f_law : Addr} {od_law an_law : Option Addr} {sl_law : Array (Option Value)} {oc_law kV_law dc_law pm_law cd_law ct_law : Value}
    {f_init : Addr} {od_init an_init : Option Addr} {sl_init : Array (Option Value)} {oc_init kV_init dc_init pm_init cd_init ct_init : Value}
    {f_len : Addr} {od_len an_len : Option Addr} {sl_len : Array (Option Value)} {oc_len kV_len dc_len pm_len cd_len ct_len : Value}
    {f_item : Addr} {od_item an_item : Option Addr} {sl_item : Array (Option Value)} {oc_item kV_item dc_item pm_item cd_item ct_item : Value}
    {f_has : Addr} {od_has an_has : Option Addr} {sl_has : Array (Option Value)} {oc_has kV_has dc_has pm_has cd_has ct_has : Value}
    {f_state : Addr} {od_state an_state : Option Addr} {sl_state : Array (Option Value)} {oc_state kV_state dc_state pm_state cd_state ct_state : Value}
    {f_step : Addr} {od_step an_step : Option Addr} {sl_step : Array (Option Value)} {oc_step kV_step dc_step pm_step cd_step ct_step : Value}
    {f_psigns : Addr} {od_psigns an_psigns : Option Addr} {sl_psigns : Array (Option Value)} {oc_psigns kV_psigns dc_psigns pm_psigns cd_psigns ct_psigns : Value}
    {p_psigns : Addr} {r_psigns : List Value}
    {f_psteps : Addr} {od_psteps an_psteps : Option Addr} {sl_psteps : Array (Option Value)} {oc_psteps kV_psteps dc_psteps pm_psteps cd_psteps ct_psteps : Value}
    {p_psteps : Addr} {r_psteps : List Value}
    {f_ptold : Addr} {od_ptold an_ptold : Option Addr} {sl_ptold : Array (Option Value)} {oc_ptold kV_ptold dc_ptold pm_ptold cd_ptold ct_ptold : Value}
    {p_ptold : Addr} {r_ptold : List Value}
    (aC : PySem.W.nsIn K mainGlobals "Machine" = some (some (.ref C)))
    (a_fromto : PySem.W.nsIn K mainGlobals "is_from_to" = some (some (.ref f_fromto)))
    (l_fromto : K.lookup f_fromto = some ⟨oc_fromto, od_fromto, .func (PySem.W.fnOf "is_from_to" "is_from_to" (defArgs sFromTo) (defBody sFromTo) (defScope sFromTo) .none kV_fromto dc_fromto pm_fromto an_fromto cd_fromto ct_fromto), sl_fromto⟩)
    (c_fromto : PySem.W.codeIn K cd_fromto "is_from_to" = true)
    (k_fromto : PySem.W.keepIn K (.ref f_fromto) = true)
    (a_letrs : PySem.W.nsIn K mainGlobals "are_letters" = some (some (.ref f_letrs)))
    (l_letrs : K.lookup f_letrs = some ⟨oc_letrs, od_letrs, .func (PySem.W.fnOf "are_letters" "are_letters" (defArgs sAreLetters) (defBody sAreLetters) (defScope sAreLetters) .none kV_letrs dc_letrs pm_letrs an_letrs cd_letrs ct_letrs), sl_letrs⟩)
    (c_letrs : PySem.W.codeIn K cd_letrs "are_letters" = true)
    (k_letrs : PySem.W.keepIn K (.ref f_letrs) = true)
    (a_signs_ : PySem.W.nsIn K mainGlobals "are_signs" = some (some (.ref f_signs_)))
    (l_signs_ : K.lookup f_signs_ = some ⟨oc_signs_, od_signs_, .func (PySem.W.fnOf "are_signs" "are_signs" (defArgs sAreSigns) (defBody sAreSigns) (defScope sAreSigns) .none kV_signs_ dc_signs_ pm_signs_ an_signs_ cd_signs_ ct_signs_), sl_signs_⟩)
    (c_signs_ : PySem.W.codeIn K cd_signs_ "are_signs" = true)
    (k_signs_ : PySem.W.keepIn K (.ref f_signs_) = true)
    (a_wrong : PySem.W.nsIn K mainGlobals "wrong_at" = some (some (.ref f_wrong)))
    (l_wrong : K.lookup f_wrong = some ⟨oc_wrong, od_wrong, .func (PySem.W.fnOf "wrong_at" "wrong_at" (defArgs sWrong) (defBody sWrong) (defScope sWrong) .none kV_wrong dc_wrong pm_wrong an_wrong cd_wrong ct_wrong), sl_wrong⟩)
    (c_wrong : PySem.W.codeIn K cd_wrong "wrong_at" = true)
    (k_wrong : PySem.W.keepIn K (.ref f_wrong) = true)
    (a_chrow : PySem.W.nsIn K mainGlobals "check_row" = some (some (.ref f_chrow)))
    (l_chrow : K.lookup f_chrow = some ⟨oc_chrow, od_chrow, .func (PySem.W.fnOf "check_row" "check_row" (defArgs sCheckRow) (defBody sCheckRow) (defScope sCheckRow) .none kV_chrow dc_chrow pm_chrow an_chrow cd_chrow ct_chrow), sl_chrow⟩)
    (c_chrow : PySem.W.codeIn K cd_chrow "check_row" = true)
    (k_chrow : PySem.W.keepIn K (.ref f_chrow) = true)
    (a_ledon : PySem.W.nsIn K mainGlobals "led_on" = some (some (.ref f_ledon)))
    (l_ledon : K.lookup f_ledon = some ⟨oc_ledon, od_ledon, .func (PySem.W.fnOf "led_on" "led_on" (defArgs sLedOn) (defBody sLedOn) (defScope sLedOn) .none kV_ledon dc_ledon pm_ledon an_ledon cd_ledon ct_ledon), sl_ledon⟩)
    (c_ledon : PySem.W.codeIn K cd_ledon "led_on" = true)
    (k_ledon : PySem.W.keepIn K (.ref f_ledon) = true)
    (a_chsig : PySem.W.nsIn K mainGlobals "check_signs" = some (some (.ref f_chsig)))
    (l_chsig : K.lookup f_chsig = some ⟨oc_chsig, od_chsig, .func (PySem.W.fnOf "check_signs" "check_signs" (defArgs sCheckSigns) (defBody sCheckSigns) (defScope sCheckSigns) .none kV_chsig dc_chsig pm_chsig an_chsig cd_chsig ct_chsig), sl_chsig⟩)
    (c_chsig : PySem.W.codeIn K cd_chsig "check_signs" = true)
    (k_chsig : PySem.W.keepIn K (.ref f_chsig) = true)
    (a_asteps : PySem.W.nsIn K mainGlobals "are_steps" = some (some (.ref f_asteps)))
    (l_asteps : K.lookup f_asteps = some ⟨oc_asteps, od_asteps, .func (PySem.W.fnOf "are_steps" "are_steps" (defArgs sAreSteps) (defBody sAreSteps) (defScope sAreSteps) .none kV_asteps dc_asteps pm_asteps an_asteps cd_asteps ct_asteps), sl_asteps⟩)
    (c_asteps : PySem.W.codeIn K cd_asteps "are_steps" = true)
    (k_asteps : PySem.W.keepIn K (.ref f_asteps) = true)
    (a_astates : PySem.W.nsIn K mainGlobals "are_states" = some (some (.ref f_astates)))
    (l_astates : K.lookup f_astates = some ⟨oc_astates, od_astates, .func (PySem.W.fnOf "are_states" "are_states" (defArgs sAreStates) (defBody sAreStates) (defScope sAreStates) .none kV_astates dc_astates pm_astates an_astates cd_astates ct_astates), sl_astates⟩)
    (c_astates : PySem.W.codeIn K cd_astates "are_states" = true)
    (k_astates : PySem.W.keepIn K (.ref f_astates) = true)
    (a_aansw : PySem.W.nsIn K mainGlobals "are_answers" = some (some (.ref f_aansw)))
    (l_aansw : K.lookup f_aansw = some ⟨oc_aansw, od_aansw, .func (PySem.W.fnOf "are_answers" "are_answers" (defArgs sAreAnswers) (defBody sAreAnswers) (defScope sAreAnswers) .none kV_aansw dc_aansw pm_aansw an_aansw cd_aansw ct_aansw), sl_aansw⟩)
    (c_aansw : PySem.W.codeIn K cd_aansw "are_answers" = true)
    (k_aansw : PySem.W.keepIn K (.ref f_aansw) = true)
    (a_pen : PySem.W.nsIn K mainGlobals "_law_pen" = some (some (.ref f_pen)))
    (l_pen : K.lookup f_pen = some ⟨oc_pen, od_pen, .func (PySem.W.fnOf "_law_pen" "_law_pen" (defArgs sPen) (defBody sPen) (defScope sPen) .none kV_pen dc_pen pm_pen an_pen cd_pen ct_pen), sl_pen⟩)
    (c_pen : PySem.W.codeIn K cd_pen "_law_pen" = true)
    (k_pen : PySem.W.keepIn K (.ref f_pen) = true)
    (a_draw : PySem.W.nsIn K mainGlobals "_law_draw" = some (some (.ref f_draw)))
    (l_draw : K.lookup f_draw = some ⟨oc_draw, od_draw, .func (PySem.W.fnOf "_law_draw" "_law_draw" (defArgs sDraw) (defBody sDraw) (defScope sDraw) .none kV_draw dc_draw pm_draw an_draw cd_draw ct_draw), sl_draw⟩)
    (c_draw : PySem.W.codeIn K cd_draw "_law_draw" = true)
    (k_draw : PySem.W.keepIn K (.ref f_draw) = true)
    (a_pick : PySem.W.nsIn K mainGlobals "_law_pick" = some (some (.ref f_pick)))
    (l_pick : K.lookup f_pick = some ⟨oc_pick, od_pick, .func (PySem.W.fnOf "_law_pick" "_law_pick" (defArgs sPick) (defBody sPick) (defScope sPick) .none kV_pick dc_pick pm_pick an_pick cd_pick ct_pick), sl_pick⟩)
    (c_pick : PySem.W.codeIn K cd_pick "_law_pick" = true)
    (k_pick : PySem.W.keepIn K (.ref f_pick) = true)
    (a_lett : PySem.W.nsIn K mainGlobals "_law_letters" = some (some (.ref f_lett)))
    (l_lett : K.lookup f_lett = some ⟨oc_lett, od_lett, .func (PySem.W.fnOf "_law_letters" "_law_letters" (defArgs sLetters) (defBody sLetters) (defScope sLetters) .none kV_lett dc_lett pm_lett an_lett cd_lett ct_lett), sl_lett⟩)
    (c_lett : PySem.W.codeIn K cd_lett "_law_letters" = true)
    (k_lett : PySem.W.keepIn K (.ref f_lett) = true)
    (a_plan : PySem.W.nsIn K mainGlobals "_law_plan" = some (some (.ref f_plan)))
    (l_plan : K.lookup f_plan = some ⟨oc_plan, od_plan, .func (PySem.W.fnOf "_law_plan" "_law_plan" (defArgs sPlan) (defBody sPlan) (defScope sPlan) .none kV_plan dc_plan pm_plan an_plan cd_plan ct_plan), sl_plan⟩)
    (c_plan : PySem.W.codeIn K cd_plan "_law_plan" = true)
    (k_plan : PySem.W.keepIn K (.ref f_plan) = true)
    (a_spot : PySem.W.nsIn K mainGlobals "_law_spot" = some (some (.ref f_spot)))
    (l_spot : K.lookup f_spot = some ⟨oc_spot, od_spot, .func (PySem.W.fnOf "_law_spot" "_law_spot" (defArgs sSpot) (defBody sSpot) (defScope sSpot) .none kV_spot dc_spot pm_spot an_spot cd_spot ct_spot), sl_spot⟩)
    (c_spot : PySem.W.codeIn K cd_spot "_law_spot" = true)
    (k_spot : PySem.W.keepIn K (.ref f_spot) = true)
    (a_word : PySem.W.nsIn K mainGlobals "_law_word" = some (some (.ref f_word)))
    (l_word : K.lookup f_word = some ⟨oc_word, od_word, .func (PySem.W.fnOf "_law_word" "_law_word" (defArgs sWord) (defBody sWord) (defScope sWord) .none kV_word dc_word pm_word an_word cd_word ct_word), sl_word⟩)
    (c_word : PySem.W.codeIn K cd_word "_law_word" = true)
    (k_word : PySem.W.keepIn K (.ref f_word) = true)
    (a_made : PySem.W.nsIn K mainGlobals "_law_made" = some (some (.ref f_made)))
    (l_made : K.lookup f_made = some ⟨oc_made, od_made, .func (PySem.W.fnOf "_law_made" "_law_made" (defArgs sMade) (defBody sMade) (defScope sMade) .none kV_made dc_made pm_made an_made cd_made ct_made), sl_made⟩)
    (c_made : PySem.W.codeIn K cd_made "_law_made" = true)
    (k_made : PySem.W.keepIn K (.ref f_made) = true)
    (a_right : PySem.W.nsIn K mainGlobals "_law_right" = some (some (.ref f_right)))
    (l_right : K.lookup f_right = some ⟨oc_right, od_right, .func (PySem.W.fnOf "_law_right" "_law_right" (defArgs sRight) (defBody sRight) (defScope sRight) .none kV_right dc_right pm_right an_right cd_right ct_right), sl_right⟩)
    (c_right : PySem.W.codeIn K cd_right "_law_right" = true)
    (k_right : PySem.W.keepIn K (.ref f_right) = true)
    (a_law : PySem.W.nsIn K mainGlobals "law" = some (some (.ref f_law)))
    (l_law : K.lookup f_law = some ⟨oc_law, od_law, .func (PySem.W.fnOf "law" "law" (defArgs sLaw) (defBody sLaw) (defScope sLaw) .none kV_law dc_law pm_law an_law cd_law ct_law), sl_law⟩)
    (c_law : PySem.W.codeIn K cd_law "law" = true)
    (k_law : PySem.W.keepIn K (.ref f_law) = true)
    (a_init : PySem.W.findIn K (.ref C) "__init__" = some (some (.ref f_init)))
    (i_init : PySem.W.isFn K (.ref f_init) = true)
    (l_init : K.lookup f_init = some ⟨oc_init, od_init, .func (PySem.W.fnOf "__init__" "Machine.__init__" (defArgs sInit) (defBody sInit) (defScope sInit) .none kV_init dc_init pm_init an_init cd_init ct_init), sl_init⟩)
    (c_init : PySem.W.codeIn K cd_init "Machine.__init__" = true)
    (k_init : PySem.W.keepIn K (.ref f_init) = true)
    (a_len : PySem.W.findIn K (.ref C) "__len__" = some (some (.ref f_len)))
    (i_len : PySem.W.isFn K (.ref f_len) = true)
    (l_len : K.lookup f_len = some ⟨oc_len, od_len, .func (PySem.W.fnOf "__len__" "Machine.__len__" (defArgs sLen) (defBody sLen) (defScope sLen) .none kV_len dc_len pm_len an_len cd_len ct_len), sl_len⟩)
    (c_len : PySem.W.codeIn K cd_len "Machine.__len__" = true)
    (k_len : PySem.W.keepIn K (.ref f_len) = true)
    (a_item : PySem.W.findIn K (.ref C) "__getitem__" = some (some (.ref f_item)))
    (i_item : PySem.W.isFn K (.ref f_item) = true)
    (j_item : PySem.W.fnIn K f_item = true)
    (l_item : K.lookup f_item = some ⟨oc_item, od_item, .func (PySem.W.fnOf "__getitem__" "Machine.__getitem__" (defArgs sItem) (defBody sItem) (defScope sItem) .none kV_item dc_item pm_item an_item cd_item ct_item), sl_item⟩)
    (c_item : PySem.W.codeIn K cd_item "Machine.__getitem__" = true)
    (k_item : PySem.W.keepIn K (.ref f_item) = true)
    (a_has : PySem.W.findIn K (.ref C) "__contains__" = some (some (.ref f_has)))
    (i_has : PySem.W.isFn K (.ref f_has) = true)
    (l_has : K.lookup f_has = some ⟨oc_has, od_has, .func (PySem.W.fnOf "__contains__" "Machine.__contains__" (defArgs sHas) (defBody sHas) (defScope sHas) .none kV_has dc_has pm_has an_has cd_has ct_has), sl_has⟩)
    (c_has : PySem.W.codeIn K cd_has "Machine.__contains__" = true)
    (k_has : PySem.W.keepIn K (.ref f_has) = true)
    (a_state : PySem.W.findIn K (.ref C) "state" = some (some (.ref f_state)))
    (i_state : PySem.W.isFn K (.ref f_state) = true)
    (l_state : K.lookup f_state = some ⟨oc_state, od_state, .func (PySem.W.fnOf "state" "Machine.state" (defArgs sState) (defBody sState) (defScope sState) .none kV_state dc_state pm_state an_state cd_state ct_state), sl_state⟩)
    (c_state : PySem.W.codeIn K cd_state "Machine.state" = true)
    (k_state : PySem.W.keepIn K (.ref f_state) = true)
    (a_step : PySem.W.findIn K (.ref C) "step" = some (some (.ref f_step)))
    (i_step : PySem.W.isFn K (.ref f_step) = true)
    (l_step : K.lookup f_step = some ⟨oc_step, od_step, .func (PySem.W.fnOf "step" "Machine.step" (defArgs sStep) (defBody sStep) (defScope sStep) .none kV_step dc_step pm_step an_step cd_step ct_step), sl_step⟩)
    (c_step : PySem.W.codeIn K cd_step "Machine.step" = true)
    (k_step : PySem.W.keepIn K (.ref f_step) = true)
    (a_psigns : PySem.W.findIn K (.ref C) "signs" = some (some (.ref p_psigns)))
    (g_psigns : PySem.W.specialIn K (.ref p_psigns) "__get__" = some (some (.builtin "property.__get__")))
    (t_psigns : PySem.W.takesIn K (.ref p_psigns) = some true)
    (q_psigns : PySem.W.recIn K p_psigns "property" = some (.ref f_psigns :: r_psigns))
    (l_psigns : K.lookup f_psigns = some ⟨oc_psigns, od_psigns, .func (PySem.W.fnOf "signs" "Machine.signs" (defArgs sSigns) (defBody sSigns) (defScope sSigns) .none kV_psigns dc_psigns pm_psigns an_psigns cd_psigns ct_psigns), sl_psigns⟩)
    (c_psigns : PySem.W.codeIn K cd_psigns "Machine.signs" = true)
    (k_psigns : PySem.W.keepIn K (.ref f_psigns) = true)
    (a_psteps : PySem.W.findIn K (.ref C) "steps" = some (some (.ref p_psteps)))
    (g_psteps : PySem.W.specialIn K (.ref p_psteps) "__get__" = some (some (.builtin "property.__get__")))
    (t_psteps : PySem.W.takesIn K (.ref p_psteps) = some true)
    (q_psteps : PySem.W.recIn K p_psteps "property" = some (.ref f_psteps :: r_psteps))
    (l_psteps : K.lookup f_psteps = some ⟨oc_psteps, od_psteps, .func (PySem.W.fnOf "steps" "Machine.steps" (defArgs sSteps) (defBody sSteps) (defScope sSteps) .none kV_psteps dc_psteps pm_psteps an_psteps cd_psteps ct_psteps), sl_psteps⟩)
    (c_psteps : PySem.W.codeIn K cd_psteps "Machine.steps" = true)
    (k_psteps : PySem.W.keepIn K (.ref f_psteps) = true)
    (a_ptold : PySem.W.findIn K (.ref C) "told" = some (some (.ref p_ptold)))
    (g_ptold : PySem.W.specialIn K (.ref p_ptold) "__get__" = some (some (.builtin "property.__get__")))
    (t_ptold : PySem.W.takesIn K (.ref p_ptold) = some true)
    (q_ptold : PySem.W.recIn K p_ptold "property" = some (.ref f_ptold :: r_ptold))
    (l_ptold : K.lookup f_ptold = some ⟨oc_ptold, od_ptold, .func (PySem.W.fnOf "told" "Machine.told" (defArgs sTold) (defBody sTold) (defScope sTold) .none kV_ptold dc_ptold pm_ptold an_ptold cd_ptold ct_ptold), sl_ptold⟩)
    (c_ptold : PySem.W.codeIn K cd_ptold "Machine.told" = true)
    (k_ptold : PySem.W.keepIn K (.ref f_ptold) = true)
    (pg : PySem.W.plainGet K C Str.empty = true)
    (hd : PySem.W.hasDictIn K C = true)
    (po : PySem.W.plainOver K C = true)
    (sa : PySem.W.findIn K (.ref C) "__setattr__" = some (some (.builtin "object.__setattr__")))
    (mk : PySem.W.makesIn K C = true)
    (kc : PySem.W.keepIn K (.ref C) = true)
    (n1 : PySem.W.findIn K (.ref C) "_signs" = some none)
    (n2 : PySem.W.findIn K (.ref C) "_steps" = some none)
    (n3 : PySem.W.findIn K (.ref C) "_told" = some none)
    (aL : PySem.W.nsIn K mainGlobals "LETTERS" = some (some (.str "abcdefghijklmnopqrstuvwxyz" tk)))
    (z_len : PySem.W.nsIn K mainGlobals "len" = some none)
    (z_int : PySem.W.nsIn K mainGlobals "int" = some none)
    (z_abs : PySem.W.nsIn K mainGlobals "abs" = some none)
    (z_list : PySem.W.nsIn K mainGlobals "list" = some none)
    (z_tuple : PySem.W.nsIn K mainGlobals "tuple" = some none)
    (z_range : PySem.W.nsIn K mainGlobals "range" = some none)
    (z_repr : PySem.W.nsIn K mainGlobals "repr" = some none)
    (z_isinstance : PySem.W.nsIn K mainGlobals "isinstance" = some none)
    (z_all : PySem.W.nsIn K mainGlobals "all" = some none)
    (z_set : PySem.W.nsIn K mainGlobals "set" = some none)
    (z_bool : PySem.W.nsIn K mainGlobals "bool" = some none)
    (z_str : PySem.W.nsIn K mainGlobals "str" = some none)
    : ∃ fd : FuncData, (∀ (s : Shared) (v : Value), BindsTo s fd ⟨[v], []⟩ [("_law_script", v)]) ∧ ∀ base : Heap, K.In base → base.Ns mainGlobals mg → FnG l.prog w K mg base CX0 9 fa fd ["_law_script"] (spLaw K) := by
  have e := hfa.symm.trans (PySem.W.mg_of X G a_law)
  cases e
  have T : Txt mg := ⟨PySem.W.mg_none_of X G z_len, PySem.W.mg_none_of X G z_int, PySem.W.mg_none_of X G z_abs, PySem.W.mg_none_of X G z_list, PySem.W.mg_none_of X G z_tuple, PySem.W.mg_none_of X G z_range, PySem.W.mg_none_of X G z_repr, PySem.W.mg_none_of X G z_isinstance, PySem.W.mg_none_of X G z_all, PySem.W.mg_none_of X G z_set⟩
  have zB := PySem.W.mg_none_of X G z_bool
  have zI := PySem.W.mg_none_of X G z_int
  have zS := PySem.W.mg_none_of X G z_str
  have mL : mg "LETTERS" = some (.str abc tk) := PySem.W.mg_of X G aL
  have M : MT K mg C := ⟨⟨pg, hd, po, sa⟩, n1, n2, n3, PySem.W.mg_of X G aC⟩
  have F_fromto := fun_mk (st := sFromTo) l_fromto c_fromto k_fromto
  have b_fromto := F_fromto.binds (ps := ["value", "low", "high"]) fun _ _ _ _ _ _ us hl => match us, hl with | [_, _, _], _ => rfl
  have m_fromto := PySem.W.mg_of X G a_fromto
  have F_letrs := fun_mk (st := sAreLetters) l_letrs c_letrs k_letrs
  have b_letrs := F_letrs.binds (ps := ["value", "least", "most"]) fun _ _ _ _ _ _ us hl => match us, hl with | [_, _, _], _ => rfl
  have m_letrs := PySem.W.mg_of X G a_letrs
  have F_signs_ := fun_mk (st := sAreSigns) l_signs_ c_signs_ k_signs_
  have b_signs_ := F_signs_.binds (ps := ["value"]) fun _ _ _ _ _ _ us hl => match us, hl with | [_], _ => rfl
  have m_signs_ := PySem.W.mg_of X G a_signs_
  have F_wrong := fun_mk (st := sWrong) l_wrong c_wrong k_wrong
  have b_wrong := F_wrong.binds (ps := ["signs", "value"]) fun _ _ _ _ _ _ us hl => match us, hl with | [_, _], _ => rfl
  have m_wrong := PySem.W.mg_of X G a_wrong
  have F_chrow := fun_mk (st := sCheckRow) l_chrow c_chrow k_chrow
  have b_chrow := F_chrow.binds (ps := ["signs", "value"]) fun _ _ _ _ _ _ us hl => match us, hl with | [_, _], _ => rfl
  have m_chrow := PySem.W.mg_of X G a_chrow
  have F_ledon := fun_mk (st := sLedOn) l_ledon c_ledon k_ledon
  have b_ledon := F_ledon.binds (ps := ["signs", "steps", "state", "text"]) fun _ _ _ _ _ _ us hl => match us, hl with | [_, _, _, _], _ => rfl
  have m_ledon := PySem.W.mg_of X G a_ledon
  have F_chsig := fun_mk (st := sCheckSigns) l_chsig c_chsig k_chsig
  have b_chsig := F_chsig.binds (ps := ["value"]) fun _ _ _ _ _ _ us hl => match us, hl with | [_], _ => rfl
  have m_chsig := PySem.W.mg_of X G a_chsig
  have F_asteps := fun_mk (st := sAreSteps) l_asteps c_asteps k_asteps
  have b_asteps := F_asteps.binds (ps := ["value", "many"]) fun _ _ _ _ _ _ us hl => match us, hl with | [_, _], _ => rfl
  have m_asteps := PySem.W.mg_of X G a_asteps
  have F_astates := fun_mk (st := sAreStates) l_astates c_astates k_astates
  have b_astates := F_astates.binds (ps := ["value", "many", "last"]) fun _ _ _ _ _ _ us hl => match us, hl with | [_, _, _], _ => rfl
  have m_astates := PySem.W.mg_of X G a_astates
  have F_aansw := fun_mk (st := sAreAnswers) l_aansw c_aansw k_aansw
  have b_aansw := F_aansw.binds (ps := ["value", "many"]) fun _ _ _ _ _ _ us hl => match us, hl with | [_, _], _ => rfl
  have m_aansw := PySem.W.mg_of X G a_aansw
  have F_pen := fun_mk (st := sPen) l_pen c_pen k_pen
  have b_pen := F_pen.binds (ps := ["_law_script"]) fun _ _ _ _ _ _ us hl => match us, hl with | [_], _ => rfl
  have m_pen := PySem.W.mg_of X G a_pen
  have F_draw := fun_mk (st := sDraw) l_draw c_draw k_draw
  have b_draw := F_draw.binds (ps := ["_law_pen_here", "_law_many"]) fun _ _ _ _ _ _ us hl => match us, hl with | [_, _], _ => rfl
  have m_draw := PySem.W.mg_of X G a_draw
  have F_pick := fun_mk (st := sPick) l_pick c_pick k_pick
  have b_pick := F_pick.binds (ps := ["_law_pen_here", "_law_some"]) fun _ _ _ _ _ _ us hl => match us, hl with | [_, _], _ => rfl
  have m_pick := PySem.W.mg_of X G a_pick
  have F_lett := fun_mk (st := sLetters) l_lett c_lett k_lett
  have b_lett := F_lett.binds (ps := ["_law_pen_here"]) fun _ _ _ _ _ _ us hl => match us, hl with | [_], _ => rfl
  have m_lett := PySem.W.mg_of X G a_lett
  have F_plan := fun_mk (st := sPlan) l_plan c_plan k_plan
  have b_plan := F_plan.binds (ps := ["_law_pen_here", "_law_letters_here", "_law_bound"]) fun _ _ _ _ _ _ us hl => match us, hl with | [_, _, _], _ => rfl
  have m_plan := PySem.W.mg_of X G a_plan
  have F_spot := fun_mk (st := sSpot) l_spot c_spot k_spot
  have b_spot := F_spot.binds (ps := ["_law_letters_here", "_law_table", "_law_begin", "_law_word_here"]) fun _ _ _ _ _ _ us hl => match us, hl with | [_, _, _, _], _ => rfl
  have m_spot := PySem.W.mg_of X G a_spot
  have F_word := fun_mk (st := sWord) l_word c_word k_word
  have b_word := F_word.binds (ps := ["_law_pen_here", "_law_letters_here", "_law_bound"]) fun _ _ _ _ _ _ us hl => match us, hl with | [_, _, _], _ => rfl
  have m_word := PySem.W.mg_of X G a_word
  have F_made := fun_mk (st := sMade) l_made c_made k_made
  have b_made := F_made.binds (ps := ["_law_pen_here", "_law_letters_here", "_law_table", "_law_marks"]) fun _ _ _ _ _ _ us hl => match us, hl with | [_, _, _, _], _ => rfl
  have m_made := PySem.W.mg_of X G a_made
  have F_right := fun_mk (st := sRight) l_right c_right k_right
  have b_right := F_right.binds (ps := ["_law_pen_here", "_law_letters_here", "_law_table", "_law_marks", "_law_made_here"]) fun _ _ _ _ _ _ us hl => match us, hl with | [_, _, _, _, _], _ => rfl
  have m_right := PySem.W.mg_of X G a_right
  have F_law := fun_mk (st := sLaw) l_law c_law k_law
  have b_law := F_law.binds (ps := ["_law_script"]) fun _ _ _ _ _ _ us hl => match us, hl with | [_], _ => rfl
  have m_law := PySem.W.mg_of X G a_law
  have F_init := fun_mk (st := sInit) l_init c_init k_init
  have b_init := F_init.binds (ps := ["self", "signs", "steps", "told"]) fun _ _ _ _ _ _ us hl => match us, hl with | [_, _, _, _], _ => rfl
  have F_len := fun_mk (st := sLen) l_len c_len k_len
  have b_len := F_len.binds (ps := ["self"]) fun _ _ _ _ _ _ us hl => match us, hl with | [_], _ => rfl
  have F_item := fun_mk (st := sItem) l_item c_item k_item
  have b_item := F_item.binds (ps := ["self", "at"]) fun _ _ _ _ _ _ us hl => match us, hl with | [_, _], _ => rfl
  have F_has := fun_mk (st := sHas) l_has c_has k_has
  have b_has := F_has.binds (ps := ["self", "x"]) fun _ _ _ _ _ _ us hl => match us, hl with | [_, _], _ => rfl
  have F_state := fun_mk (st := sState) l_state c_state k_state
  have b_state := F_state.binds (ps := ["self", "row"]) fun _ _ _ _ _ _ us hl => match us, hl with | [_, _], _ => rfl
  have F_step := fun_mk (st := sStep) l_step c_step k_step
  have b_step := F_step.binds (ps := ["self", "state", "text"]) fun _ _ _ _ _ _ us hl => match us, hl with | [_, _, _], _ => rfl
  have F_psigns := fun_mk (st := sSigns) l_psigns c_psigns k_psigns
  have b_psigns := F_psigns.binds (ps := ["self"]) fun _ _ _ _ _ _ us hl => match us, hl with | [_], _ => rfl
  have F_psteps := fun_mk (st := sSteps) l_psteps c_psteps k_psteps
  have b_psteps := F_psteps.binds (ps := ["self"]) fun _ _ _ _ _ _ us hl => match us, hl with | [_], _ => rfl
  have F_ptold := fun_mk (st := sTold) l_ptold c_ptold k_ptold
  have b_ptold := F_ptold.binds (ps := ["self"]) fun _ _ _ _ _ _ us hl => match us, hl with | [_], _ => rfl
  have kb_init : KBn K _ ["self", "signs", "steps", "told"] 1 kInit gInit gInitV := kbMk F_init (fun _ _ _ _ _ _ us ws l1 l2 => match us, ws, l1, l2 with | [_], [_, _, _], _, _ => rfl) fun a b => vapp a (vrev b)
  have kb_state : KBn K _ ["self", "row"] 1 ["row"] gApp gAppV := kbMk F_state (fun _ _ _ _ _ _ us ws l1 l2 => match us, ws, l1, l2 with | [_], [_], _, _ => rfl) fun a b => vapp a b
  have kb_step : KBn K _ ["self", "state", "text"] 1 ["state", "text"] gApp gAppV := kbMk F_step (fun _ _ _ _ _ _ us ws l1 l2 => match us, ws, l1, l2 with | [_], [_, _], _, _ => rfl) fun a b => vapp a b
  refine ⟨PySem.W.fnOf "law" "law" (defArgs sLaw) (defBody sLaw) (defScope sLaw) .none kV_law dc_law pm_law an_law cd_law ct_law, fun s v => .of_eq rfl, fun base _ _ => ?_⟩
  have G_fromto := ok_fromTo (P := l.prog) (w := w) (base := base) F_fromto T zI zB
  have G_letrs := ok_areLetters (P := l.prog) (w := w) (base := base) F_letrs T zS mL
  have G_signs := ok_areSigns F_signs_ T G_letrs m_letrs k_letrs b_letrs
  have G_chsig := ok_checkSigns F_chsig G_signs m_signs_ k_signs_ b_signs_
  have G_wrong := ok_wrong (P := l.prog) (w := w) (base := base) F_wrong T zS
  have G_chrow := ok_checkRow F_chrow G_wrong m_wrong k_wrong b_wrong
  have G_ledon := ok_ledOn (P := l.prog) (w := w) (mg := mg) (base := base) F_ledon
  have G_astates := ok_areStates F_astates T G_fromto m_fromto k_fromto b_fromto
  have G_asteps := ok_areSteps F_asteps T G_astates m_astates k_astates b_astates
  have G_aansw := ok_areAnswers (P := l.prog) (w := w) (base := base) F_aansw T zB
  have G_init := ok_init F_init T M G_chsig m_chsig k_chsig b_chsig G_asteps m_asteps k_asteps b_asteps G_aansw m_aansw k_aansw b_aansw
  have G_state := ok_state F_state M G_chrow m_chrow k_chrow b_chrow G_ledon m_ledon k_ledon b_ledon
  have G_step := ok_step F_step T M G_chrow m_chrow k_chrow b_chrow G_ledon m_ledon k_ledon b_ledon G_fromto m_fromto k_fromto b_fromto
  have G_item := ok_item F_item M G_state ⟨a_state, i_state, k_state⟩ b_state
  have G_has := ok_has F_has M G_wrong m_wrong k_wrong b_wrong G_item a_item j_item i_item b_item
  have G_draw := ok_draw (P := l.prog) (w := w) (base := base) F_draw T
  have G_pick := ok_pick F_pick T G_draw m_draw k_draw b_draw
  have G_lett := ok_letters F_lett G_pick m_pick k_pick b_pick
  have G_plan := ok_plan F_plan T G_draw m_draw k_draw b_draw
  have G_word := ok_word F_word T G_draw m_draw k_draw b_draw G_pick m_pick k_pick b_pick
  have G_spot := ok_spot (P := l.prog) (w := w) (mg := mg) (base := base) F_spot
  have G_made := ok_made F_made T M G_draw m_draw k_draw b_draw G_init ⟨mk, a_init, i_init, kc⟩ b_init kb_init
  have S : Ms l.prog w K mg base C := ⟨M, ⟨_, _, _, ⟨a_psigns, g_psigns, t_psigns, _, q_psigns⟩, ok_signs F_psigns M, b_psigns⟩, ⟨_, _, _, ⟨a_psteps, g_psteps, t_psteps, _, q_psteps⟩, ok_steps F_psteps M, b_psteps⟩, ⟨_, _, _, ⟨a_ptold, g_ptold, t_ptold, _, q_ptold⟩, ok_told F_ptold M, b_ptold⟩,
    ⟨_, _, a_len, i_len, ok_len F_len T M, b_len⟩, ⟨_, _, ⟨a_state, i_state, k_state⟩, G_state, b_state, kb_state⟩, ⟨_, _, ⟨a_step, i_step, k_step⟩, G_step, b_step, kb_step⟩, ⟨_, _, a_item, j_item, i_item, G_item, b_item⟩, ⟨_, _, a_has, i_has, G_has, b_has⟩⟩
  have G_right := ok_right F_right T S G_draw m_draw k_draw b_draw G_word m_word k_word b_word G_spot m_spot k_spot b_spot
  exact ok_law F_law T (ok_pen F_pen T) m_pen k_pen b_pen G_lett m_lett k_lett b_lett G_plan m_plan k_plan b_plan G_made m_made k_made b_made G_right m_right k_right b_right
end Kx
set_option Elab.async false
open PySem PySem.W PyProof.Rows in
set_option maxRecDepth 100000 in
set_option maxHeartbeats 0 in
theorem PySem.Challenge.cw_rowgames_k17_machines_made_holds : PySem.Challenge.rw_rowgames_k17_machines_made.Holds := by
  w_on; o_law; k_head; (case hw => w_witness2)
  k_fill
  refine Rg.walkG (l := PySem.Challenge.rw_rowgames_k17_machines_made) (n := 63) (k := 9) (x := "_law_script") (sp := fun w => Kx.spLaw _) rfl (by decide) rfl ⟨rfl, by decide, by decide⟩ (fun w h Y => PySem.W.kIn_of Y) ?F (fun _ _ a ns hl _ _ hS => ⟨a, ns, rfl, hS, hl, fun _ => rfl⟩)
  case F =>
    intro w mg fa h KX G hmg
    refine' Kx.all_mk KX G hmg ?aC ?a_fromto ?l_fromto ?c_fromto ?k_fromto ?a_letrs ?l_letrs ?c_letrs ?k_letrs ?a_signs_ ?l_signs_ ?c_signs_ ?k_signs_ ?a_wrong ?l_wrong ?c_wrong ?k_wrong ?a_chrow ?l_chrow ?c_chrow ?k_chrow ?a_ledon ?l_ledon ?c_ledon ?k_ledon ?a_chsig ?l_chsig ?c_chsig ?k_chsig ?a_asteps ?l_asteps ?c_asteps ?k_asteps ?a_astates ?l_astates ?c_astates ?k_astates ?a_aansw ?l_aansw ?c_aansw ?k_aansw ?a_pen ?l_pen ?c_pen ?k_pen ?a_draw ?l_draw ?c_draw ?k_draw ?a_pick ?l_pick ?c_pick ?k_pick ?a_lett ?l_lett ?c_lett ?k_lett ?a_plan ?l_plan ?c_plan ?k_plan ?a_spot ?l_spot ?c_spot ?k_spot ?a_word ?l_word ?c_word ?k_word ?a_made ?l_made ?c_made ?k_made ?a_right ?l_right ?c_right ?k_right ?a_law ?l_law ?c_law ?k_law ?a_init ?i_init ?l_init ?c_init ?k_init ?a_len ?i_len ?l_len ?c_len ?k_len ?a_item ?i_item ?j_item ?l_item ?c_item ?k_item ?a_has ?i_has ?l_has ?c_has ?k_has ?a_state ?i_state ?l_state ?c_state ?k_state ?a_step ?i_step ?l_step ?c_step ?k_step ?a_psigns ?g_psigns ?t_psigns ?q_psigns ?l_psigns ?c_psigns ?k_psigns ?a_psteps ?g_psteps ?t_psteps ?q_psteps ?l_psteps ?c_psteps ?k_psteps ?a_ptold ?g_ptold ?t_ptold ?q_ptold ?l_ptold ?c_ptold ?k_ptold ?pg ?hd ?po ?sa ?mk ?kc ?n1 ?n2 ?n3 ?aL ?z_len ?z_int ?z_abs ?z_list ?z_tuple ?z_range ?z_repr ?z_isinstance ?z_all ?z_set ?z_bool ?z_str
    (case aC => k_is)
    (case a_fromto => k_is)
    (case l_fromto => k_is)
    (case c_fromto => k_is)
    (case k_fromto => k_is)
    (case a_letrs => k_is)
    (case l_letrs => k_is)
    (case c_letrs => k_is)
    (case k_letrs => k_is)
    (case a_signs_ => k_is)
    (case l_signs_ => k_is)
    (case c_signs_ => k_is)
    (case k_signs_ => k_is)
    (case a_wrong => k_is)
    (case l_wrong => k_is)
    (case c_wrong => k_is)
    (case k_wrong => k_is)
    (case a_chrow => k_is)
    (case l_chrow => k_is)
    (case c_chrow => k_is)
    (case k_chrow => k_is)
    (case a_ledon => k_is)
    (case l_ledon => k_is)
    (case c_ledon => k_is)
    (case k_ledon => k_is)
    (case a_chsig => k_is)
    (case l_chsig => k_is)
    (case c_chsig => k_is)
    (case k_chsig => k_is)
    (case a_asteps => k_is)
    (case l_asteps => k_is)
    (case c_asteps => k_is)
    (case k_asteps => k_is)
    (case a_astates => k_is)
    (case l_astates => k_is)
    (case c_astates => k_is)
    (case k_astates => k_is)
    (case a_aansw => k_is)
    (case l_aansw => k_is)
    (case c_aansw => k_is)
    (case k_aansw => k_is)
    (case a_pen => k_is)
    (case l_pen => k_is)
    (case c_pen => k_is)
    (case k_pen => k_is)
    (case a_draw => k_is)
    (case l_draw => k_is)
    (case c_draw => k_is)
    (case k_draw => k_is)
    (case a_pick => k_is)
    (case l_pick => k_is)
    (case c_pick => k_is)
    (case k_pick => k_is)
    (case a_lett => k_is)
    (case l_lett => k_is)
    (case c_lett => k_is)
    (case k_lett => k_is)
    (case a_plan => k_is)
    (case l_plan => k_is)
    (case c_plan => k_is)
    (case k_plan => k_is)
    (case a_spot => k_is)
    (case l_spot => k_is)
    (case c_spot => k_is)
    (case k_spot => k_is)
    (case a_word => k_is)
    (case l_word => k_is)
    (case c_word => k_is)
    (case k_word => k_is)
    (case a_made => k_is)
    (case l_made => k_is)
    (case c_made => k_is)
    (case k_made => k_is)
    (case a_right => k_is)
    (case l_right => k_is)
    (case c_right => k_is)
    (case k_right => k_is)
    (case a_law => k_is)
    (case l_law => k_is)
    (case c_law => k_is)
    (case k_law => k_is)
    (case a_init => k_is)
    (case i_init => k_is)
    (case l_init => k_is)
    (case c_init => k_is)
    (case k_init => k_is)
    (case a_len => k_is)
    (case i_len => k_is)
    (case l_len => k_is)
    (case c_len => k_is)
    (case k_len => k_is)
    (case a_item => k_is)
    (case i_item => k_is)
    (case j_item => k_is)
    (case l_item => k_is)
    (case c_item => k_is)
    (case k_item => k_is)
    (case a_has => k_is)
    (case i_has => k_is)
    (case l_has => k_is)
    (case c_has => k_is)
    (case k_has => k_is)
    (case a_state => k_is)
    (case i_state => k_is)
    (case l_state => k_is)
    (case c_state => k_is)
    (case k_state => k_is)
    (case a_step => k_is)
    (case i_step => k_is)
    (case l_step => k_is)
    (case c_step => k_is)
    (case k_step => k_is)
    (case a_psigns => k_is)
    (case g_psigns => k_is)
    (case t_psigns => k_is)
    (case q_psigns => k_is)
    (case l_psigns => k_is)
    (case c_psigns => k_is)
    (case k_psigns => k_is)
    (case a_psteps => k_is)
    (case g_psteps => k_is)
    (case t_psteps => k_is)
    (case q_psteps => k_is)
    (case l_psteps => k_is)
    (case c_psteps => k_is)
    (case k_psteps => k_is)
    (case a_ptold => k_is)
    (case g_ptold => k_is)
    (case t_ptold => k_is)
    (case q_ptold => k_is)
    (case l_ptold => k_is)
    (case c_ptold => k_is)
    (case k_ptold => k_is)
    (case pg => k_is)
    (case hd => k_is)
    (case po => k_is)
    (case sa => k_is)
    (case mk => k_is)
    (case kc => k_is)
    (case n1 => k_is)
    (case n2 => k_is)
    (case n3 => k_is)
    (case aL => k_is)
    (case z_len => k_is)
    (case z_int => k_is)
    (case z_abs => k_is)
    (case z_list => k_is)
    (case z_tuple => k_is)
    (case z_range => k_is)
    (case z_repr => k_is)
    (case z_isinstance => k_is)
    (case z_all => k_is)
    (case z_set => k_is)
    (case z_bool => k_is)
    (case z_str => k_is)
#print axioms PySem.Challenge.cw_rowgames_k17_machines_made_holds
