import PyProof.Rows.All
import Wide.All
import OpenK.AllK
import Wide.FinOn
import HandS.ForMost
import HandS.Defaults
import HandS.MakeKwOnly
import HandS.Property
import HandS.Strs
import PyProof.StrWalks
import HandS.EndBits
import PyProof.ReprRoads
import HandS.ExcInit
import KE.KExcSuper
import HandS.WordsExc
import HandS.ExcValue
import HandS.ExcField
import HandS.IsInst
import KE.KExcIs
import HandS.ClsMeth
import HandS.SlotsOwn
import HandS.StrMore
import HandS.FStr
import HandS.Style
import PyProof.StrOps2
import PyProof.CallStr
import PyProof.ListStr
import HandS.Walk
import HandS.RaiseOp
import HandS.Codes
import PySem.Challenge.RW_rowgames_k02_weights_made
import PyProof.ReprLen
import HandS.CallSlots
import HandS.Star
import KE.GoesEnum
import HandS.Lambda
import HandS.DeepEq
import HandS.OwnEq
import PyProof.InstNe
import HandS.RaiseMore
import HandS.ListItems
import KE.KDictList
import HandS.WordsDict
import HandS.EndOwn
set_option Elab.async false
set_option maxRecDepth 100000
/-! Rules of my own over the hand layer: what a class of one's own says of len, [ ], in; a method called by keywords alone. -/
namespace Rg
open PySem L2 PySem.Spec PyProof.Rows
theorem rvRef (a : Addr) : RelV (.ref a) (Value.ref a) := rfl
section
variable {X : Cx} {CX : CXT} {k : Nat} {C f : Addr} {fd : FuncData} {ps : List Str} {sp : Sp} {E : XK} {pins : List (Addr × Obj)} {σ : L2.St} {H : Hp} {s : Shared}

/-- a def of the text, run one step further in -/
theorem runIn {Q : VK} {us : List Value} {vs : List V} (F : FnOk X.prog X.w X.K X.mg X.base CX k f fd ps sp) (room : Room (k + 1) X.A) (bd : Binds X.K fd ps []) (ex : Passes CX X E)
    (I : Inv X pins σ H s) (r : Vals vs us) (want : sp vs H Q E) : wpAny (model X.prog X.w) X.A.in1 (call (.ref f) us) (EP X pins σ Q) X.xe s := by
  have len : us.length = ps.length := r.length.symm.trans (F.len _ _ _ _ want)
  have bt : BindsTo s fd ⟨us, []⟩ (ps.zip us) := by
    have z := bd s us I.kIn (by rw [List.append_nil]; exact len)
    rw [List.append_nil] at z
    exact z
  refine wpAny_call (codeAny_mono (F.run X.A.in1 X.stack s H ⟨us, []⟩ us vs Q E room.in1 I.env0.in1 bt r want) fun res s' got => ?_)
  rcases res with e | fl
  · exact ex pins σ H s e s' I got
  · cases fl <;> first | exact I.after got | exact False.elim got

/-- the instance at a, as the walk's lemmas want it -/
theorem instAt {a dx : Addr} {fs : List (Str × V)} (I : Inv X pins σ H s) (e : H a = some (.ins C dx fs)) : ∃ od, PySem.W.InstAt s.heap a (PySem.W.instObj C dx) C od := by
  obtain ⟨mA, O, _⟩ := ins_get I.hok e
  obtain ⟨od, J, _⟩ := O.look
  exact ⟨od, J⟩

/-- len(o) -/
def rLen (C : Addr) (sp : Sp) (E : XK) : List V → Hp → VK → Prop := fun xs H Q => ∃ a dx fs, xs = [.ref a] ∧ H a = some (.ins C dx fs) ∧ sp [.ref a] H (fun v H' => ∃ n : Int, v = .int n ∧ 0 ≤ n ∧ n < 2 ^ 63 ∧ Q (.int n) H') E
theorem cr_len (F : FnOk X.prog X.w X.K X.mg X.base CX k f fd ps sp) (room : Room (k + 1) X.A) (bd : Binds X.K fd ps []) (ex : Passes CX X E)
    (at_ : PySem.W.findIn X.K (.ref C) "__len__" = some (some (.ref f))) (fn : PySem.W.isFn X.K (.ref f) = true) : CallR X (.builtin "len") (rLen C sp E) := by
  rintro pins s σ H xs us Q I r ⟨a, dx, fs, rfl, e, want⟩
  obtain ⟨od, J⟩ := instAt I e
  obtain ⟨m, fr⟩ := I.fr
  cases r with
  | cons r0 r1 =>
    cases r1
    cases r0
    refine PySem.W.len_K fr I.ok.mod.kin J at_ fn (thn (runIn F room bd ex I (.cons (rvRef a) .nil) want) ?_)
    rintro u s' ⟨v, H', I', rv, n, rfl, n0, n1, q⟩
    obtain ⟨t, rfl⟩ := rv
    exact ⟨⟨n0, n1⟩, .int n, H', I'.tok _, ⟨_, rfl⟩, q⟩

/-- o[i] -/
def rItem (C : Addr) (sp : Sp) (E : XK) : R2 := fun x y H Q => ∃ a dx fs, x = .ref a ∧ H a = some (.ins C dx fs) ∧ sp [x, y] H Q E
theorem pe_item {a b : Expr} {ta tb : TE} {pos : Pos} (F : FnOk X.prog X.w X.K X.mg X.base CX k f fd ps sp) (room : Room (k + 1) X.A) (bd : Binds X.K fd ps []) (ex : Passes CX X E)
    (at_ : PySem.W.findIn X.K (.ref C) "__getitem__" = some (some (.ref f))) (fi : PySem.W.fnIn X.K f = true) (fn : PySem.W.isFn X.K (.ref f) = true) (ha : PE X a ta) (hb : PE X b tb)
    (hs : ∀ o i, subscripted b true o i = runValue (.builtin "lifetime.subscript" ⟨[o, i], []⟩) := by intro _ _; with_unfolding_all rfl) : PE X (.Subscript a b pos) (tOp (rItem C sp E) ta tb) := by
  refine ⟨fun pins s σ H Q I h => Subscript_ (binT ha hb I h ?_)⟩
  rintro v u s2 x y H2 I2 rx ry ⟨o, dx, fs, rfl, e, want⟩
  obtain rfl : v = Value.ref o := rx
  obtain ⟨od, J⟩ := instAt I2 e
  obtain ⟨m, fr⟩ := I2.fr
  exact PySem.W.sub_K fr I2.ok.mod.kin J at_ fi fn (runIn F room bd ex I2 (.cons (rvRef o) (.cons ry .nil)) want) (hs _ _)

/-- x in o, x not in o -/
def rHas (neg : Bool) (C : Addr) (sp : Sp) (E : XK) : R2 := fun x y H Q => ∃ a dx fs, y = .ref a ∧ H a = some (.ins C dx fs) ∧ sp [y, x] H (fun v H' => ∃ b, v = .bl b ∧ Q (.bl (if neg then !b else b)) H') E
theorem op_has (F : FnOk X.prog X.w X.K X.mg X.base CX k f fd ps sp) (room : Room k X.A) (bd : Binds X.K fd ps []) (ex : Passes CX X E)
    (at_ : PySem.W.findIn X.K (.ref C) "__contains__" = some (some (.ref f))) (fn : PySem.W.isFn X.K (.ref f) = true) : OpR X (compareOp .In) (rHas false C sp E) := by
  rintro pins s σ H x y v u Q I rx ry ⟨a, dx, fs, rfl, e, want⟩
  obtain rfl : u = Value.ref a := ry
  obtain ⟨od, J⟩ := instAt I e
  obtain ⟨m, fr⟩ := I.fr
  refine PySem.W.in_K fr I.ok.mod.kin J at_ fn (thn (run_fn (ds := []) (dvs := []) F room bd .nil ex I (.cons (rvRef a) (.cons rx .nil)) want) ?_)
  rintro z s' ⟨v', H', I', rv, b, rfl, q⟩
  obtain rfl : z = Value.bool b := rv
  exact wpAny_truthy_bool ⟨.bl b, H', I', rfl, q⟩
theorem op_hasnt (F : FnOk X.prog X.w X.K X.mg X.base CX k f fd ps sp) (room : Room k X.A) (bd : Binds X.K fd ps []) (ex : Passes CX X E)
    (at_ : PySem.W.findIn X.K (.ref C) "__contains__" = some (some (.ref f))) (fn : PySem.W.isFn X.K (.ref f) = true) : OpR X (compareOp .NotIn) (rHas true C sp E) := by
  rintro pins s σ H x y v u Q I rx ry ⟨a, dx, fs, rfl, e, want⟩
  obtain rfl : u = Value.ref a := ry
  obtain ⟨od, J⟩ := instAt I e
  obtain ⟨m, fr⟩ := I.fr
  refine PySem.W.notIn_K fr I.ok.mod.kin J at_ fn (thn (run_fn (ds := []) (dvs := []) F room bd .nil ex I (.cons (rvRef a) (.cons rx .nil)) want) ?_)
  rintro z s' ⟨v', H', I', rv, b, rfl, q⟩
  obtain rfl : z = Value.bool b := rv
  exact wpAny_truthy_bool ⟨.bl (!b), H', I', rfl, q⟩

/-- o.m(k = v, ..), no value by place -/
def tMethK (C : Addr) (m : Str) (sp : Sp) (gV : List V → List V → List V) (n : Nat) (E : XK) (ta : TE) (tk : TA) : TE := fun σ H Q => ta σ H fun x H1 => ∃ a dx fs, x = .ref a ∧ H1 a = some (.ins C dx fs) ∧ fs.lookup m = none ∧
  tk σ H1 fun zs H2 => zs.length = n ∧ sp (gV [x] zs) H2 Q E
theorem pe_methK {pl : Sem Bool} {o : Expr} {m : Str} {kws : List Keyword} {ks : List Str} {ta : TE} {tk : TA} {pos apos : Pos} {g : List Value → List Value → List Value} {gV : List V → List V → List V}
    (he : PE X o ta) (c : Cls X.K C) (hm : Meth X.K C m f) (F : FnOk X.prog X.w X.K X.mg X.base CX k f fd ps sp) (room : Room k X.A) (kb : KBn X.K fd ps 1 ks g gV) (ex : Passes CX X E) (hk : PK X kws tk)
    (hall : (backToKw pos (keywordEach kws X.env)).all (·.1.isSome) = true := by rfl) (hks : (backToKw pos (keywordEach kws X.env)).filterMap (·.1) = ks := by rfl)
    (hpl : ((backTo pos (starEach [] X.env)).any (·.1) || (backToKw pos (keywordEach kws X.env)).any (·.1.isNone)) = false := by rfl)
    (ht : eval (.Call (.Attribute o m apos) [] kws pos) X.env = (do
      let ov ← eval o X.env
      standAt apos.atName
      let (f, first) ← holding [ov] (getMethod ov m pl)
      callWith pos f first (backTo pos (starEach [] X.env)) (backToKw pos (keywordEach kws X.env))) := by rfl) :
    PE X (.Call (.Attribute o m apos) [] kws pos) (tMethK C m sp gV ks.length E ta tk) := by
  refine ⟨fun pins s σ H Q I h => PySem.W.methodCall_KW (pl := pl) (thn (he.run pins s σ H _ I h) ?_) ht⟩
  rintro u s1 ⟨x, H1, I1, rx, a, dx, fs, rfl, e, no, q⟩
  obtain rfl : u = Value.ref a := rx
  refine getmeth_ok I1 e c hm no (PySem.W.callWith_KW0 (first := [.ref a]) (h₀ := X.base) I1.ok.mod.kin hm.kp hall (thn (hk.run pos pins s1 σ H1 _ I1 q) ?_) hpl)
  rintro ws s2 ⟨zs, H2, I2, rz, lz, want⟩
  refine ⟨I2.kIn, ?_⟩
  rw [hks]
  have lw : ws.length = ks.length := rz.length.symm.trans lz
  have rr : Vals (gV [V.ref a] zs) (g [Value.ref a] ws) := kb.rel (.cons (rvRef a) .nil) rz
  refine wpAny_call (codeAny_mono (F.run X.A X.stack s2 H2 ⟨[.ref a], ks.zip ws⟩ (g [.ref a] ws) (gV [.ref a] zs) Q E room I2.env0 (kb.to s2 [.ref a] ws I2.kIn rfl lw) rr want) fun res s' got => ?_)
  rcases res with er | fl
  · exact ex pins σ H2 s2 er s' I2 got
  · cases fl <;> first | exact I2.after got | exact False.elim got
end
end Rg
set_option Elab.async false
set_option maxRecDepth 100000
/-! len(set(text)) where no sign stands twice. -/
namespace Rg
open PySem L2 PySem.Spec PyProof.Rows
section
variable {prog : Program} {w : World} {A : Around}
/-- the signs of a text, each a text -/
def signs (x : Str) : List Str := x.cps.toList.map fun c => ⟨#[c]⟩
theorem signs_len (x : Str) : (signs x).length = x.cps.size := by unfold signs; simp
theorem signAt {x : Str} {i : Nat} {v : Value} (h : SignAt x i v) : ∃ z t, (signs x)[i]? = some z ∧ v = .str z t := by
  obtain ⟨c, u, e, rfl⟩ := h
  refine ⟨⟨#[c]⟩, u, ?_, rfl⟩
  unfold signs
  rw [List.getElem?_map, Array.getElem?_toList, e] <;> rfl
theorem take_has {zs : List Str} {i : Nat} {z : Str} (e : zs[i]? = some z) (k : Str) : ((zs.take i).any (· == k) || decide (k = z)) = (zs.take (i + 1)).any (· == k) := by
  rw [List.take_add_one, e, List.any_append]
  congr 1
  by_cases h : k = z
  · subst h; simp
  · have h' : (z == k) = false := by simpa using fun q : z = k => h q.symm
    simp [h, h']
theorem take_no {zs : List Str} {i : Nat} {z : Str} (nd : zs.Nodup) (e : zs[i]? = some z) : (zs.take i).any (· == z) = false := by
  rw [Bool.eq_false_iff]
  intro q
  obtain ⟨y, hy, ey⟩ := List.any_eq_true.mp q
  have : y = z := by simpa using ey
  subst this
  obtain ⟨j, hj, ej⟩ := List.getElem_of_mem hy
  rw [List.length_take] at hj
  obtain ⟨hi, ei⟩ := List.getElem?_eq_some_iff.mp e
  rw [List.getElem_take] at ej
  exact absurd (ej.trans ei.symm) (List.pairwise_iff_getElem.mp nd j i (by omega) hi (by omega))

/-- the loop of set(..) over a walk that hands out the texts zs -/
theorem fill {R : Result → Shared → Prop} {it S : Addr} {fp wr : List Addr} {G : Array GenState → Array GenState → Prop} {n : Nat} {P : Nat → Value → Prop} {St : Nat → Shared → Prop}
    (W : WalksS prog w A.in1 it fp wr G n P St) (far : S ∉ fp) (zs : List Str) (nd : zs.Nodup) (zn : zs.length = n) (few : n + 1 < scanBound) (val : ∀ i v, P i v → ∃ z t, zs[i]? = some z ∧ v = .str z t) (j : Nat) :
    ∀ (i : Nat) (s : Shared), i + j = n → St i s → s.heap.SetOf (PySem.strKind prog w) S (fun k => (zs.take i).any (· == k)) i →
      (∀ s', Moved (S :: wr) G s s' → s'.heap.SetOf (PySem.strKind prog w) S (fun k => (zs.take n).any (· == k)) n → R (.ok (.ret .none)) s') →
      codeAny (model prog w) A (.builtin "set.update.loop" ⟨[.ref S, .ref it], []⟩) R s := by
  have far' : S ∉ wr := fun q => far (W.sub _ q)
  have more : ∀ b ∈ wr, b ∈ S :: wr := fun _ q => List.mem_cons_of_mem _ q
  have keepS : ∀ {s s' : Shared} {f : Str → Bool} {m : Nat}, Moved wr G s s' → s.heap.SetOf (PySem.strKind prog w) S f m → s'.heap.SetOf (PySem.strKind prog w) S f m :=
    fun mv ⟨o, es, ep, t, ho, r⟩ => ⟨o, es, ep, t, mv.heap S _ far' ho, r⟩
  induction j with
  | zero =>
    intro i s hi st hS out
    obtain rfl : i = n := by omega
    refine codeAny_builtin PyProof.Rows.F.entry_set_update_loop ?_; rw [Around.under_plainId PyProof.Rows.F.plain_set_update_loop _]
    show wpAny _ A.in1 (pyNext (.ref it) >>= _) _ _ s; refine wpAny_bind (W.done s _ _ st fun s' mv => ?_)
    exact wpAny_pure (out s' (mv.mono more) (keepS mv hS))
  | succ j ih =>
    intro i s hi st hS out
    refine codeAny_builtin PyProof.Rows.F.entry_set_update_loop ?_; rw [Around.under_plainId PyProof.Rows.F.plain_set_update_loop _]
    show wpAny _ A.in1 (pyNext (.ref it) >>= _) _ _ s; refine wpAny_bind (W.item i s _ _ (by omega) st fun v s' hP st' mv => ?_)
    obtain ⟨z, t, ez, rfl⟩ := val i v hP
    have hS' := keepS mv hS
    show wpAny _ A.in1 (holding [Value.str z t] (setAdd S (.str z t)) >>= _) _ _ s'
    refine wpAny_bind (wpAny_holding ?_); unfold setAdd; refine wpAny_holding (wpAny_bind ((PySem.strKind prog w).pyHash (k := z) (strKind_is _ _ _ _) ?_))
    refine wpAny_setAddHashed_of (knd := PySem.strKind prog w) (s := { s' with toks := s'.toks + 1 }) (strKind_is _ _ _ _) rfl hS' (by omega) fun h' same new => ?_
    have new' : h'.SetOf (PySem.strKind prog w) S (fun k => (zs.take (i + 1)).any (· == k)) (i + 1) :=
      SetOf_congr new (fun k => take_has ez k) (by rw [take_no nd ez]; rfl)
    have other : ∀ b, b ≠ S → ∀ o, s'.heap.get? b = some o → h'.get? b = some o := fun b hb o e => (same.2 b hb).trans e
    refine wpAny_pure ⟨plainId_quiet PyProof.Rows.F.plain_set_update_loop _, ih (i + 1) _ (by omega) (W.frame _ s' _ _ st' (Nat.le_succ _) fun b hb o e => other b (fun q => far (q ▸ hb)) o e) new' fun s2 mv2 hS2 => ?_⟩
    exact out s2 (Moved.trans W.gtrans ((mv.mono more).then_heap (Nat.le_succ _) fun b o hb e => other b (fun q => hb (q ▸ List.mem_cons_self)) o e) mv2) hS2
end

section
variable {prog : Program} {w : World} {A : Around} {E : Value → Shared → Prop} {s : Shared}
abbrev bare (led : Bool) : Obj := { cls := .type "set", dict := none, data := .set #[] 0 (.fresh 0 0 led) }
set_option maxHeartbeats 3200000 in
theorem set_text {x : Str} {t : Tok} {Q : Value → Shared → Prop} (calm : A.handled = none) (nd : (signs x).Nodup) (few : x.cps.size + 1 < scanBound)
    (out : ∀ (h' : Heap) (tk : Nat), h'.SetOf (PySem.strKind prog w) s.heap.objs.size (fun k => ((signs x).take x.cps.size).any (· == k)) x.cps.size →
      (∀ b o, s.heap.get? b = some o → h'.get? b = some o) → Q (.ref s.heap.objs.size) { s with heap := h', toks := tk }) :
    wpAny (model prog w) A (call (.type "set") [.str x t]) Q E s := by
  obtain ⟨c, tl, hmro⟩ := PySem.F.called_set.mro
  have hmade := PySem.F.called_set.made
  have hsub := PySem.F.called_set.sub
  refine wpAny_call (codeAny_of_tree ?_); show wpAny _ _ (callAny (.type "set") _) _ _ _
  refine wpAny_pure ⟨Code.quiet_builtin _ (by decide +kernel), codeAny_builtin PySem.F.entry_type_call ?_⟩
  rw [Around.under_plain (weight_type_call_type "set" [.str x t] []) rfl]
  have h1 := PySem.F.called_set.notType
  have h2 := PySem.F.called_set.canCreate
  have hct := PySem.F.typeCall_set_1 (.str x t)
  repeat (any_goals (first | assumption | wp_step))
  refine codeAny_mono (code_set_new_1 (.str x t) (E := E) (Q₁ := fun v s1 => ∃ led : Bool, v = .ref s.heap.objs.size ∧ s1 = { s with heap := s.heap.push (bare led) }) fun led => ⟨led, rfl, rfl⟩) fun r s1 got => ?_
  rcases r with e | fl
  · exact got
  cases fl <;> first | exact got.elim | skip
  obtain ⟨led, rfl, rfl⟩ := got
  have hS : (s.heap.push (bare led)).get? s.heap.objs.size = some (bare led) := Heap.get?_push_size _ rfl
  have hT : Shared.TypeIs { s with heap := s.heap.push (bare led) } (.ref s.heap.objs.size) "set" := ⟨_, hS, rfl⟩
  have hli := PySem.F.called_set.init.lookup
  have hbi := PySem.F.called_set.init.bind (.ref s.heap.objs.size)
  repeat (any_goals (first | assumption | wp_step))
  refine codeAny_mono (codeAny_call_builtin (R := wants (fun r s2 => r = .none ∧ ∃ h' tk, s2 = { s with heap := h', toks := tk } ∧ h'.SetOf (PySem.strKind prog w) s.heap.objs.size (fun k => ((signs x).take x.cps.size).any (· == k)) x.cps.size ∧
      (∀ b o, s.heap.get? b = some o → h'.get? b = some o)) E) PySem.F.called_set.init.plain PySem.F.entry_set_init (check_set_init_1 hT ?_)) fun r2 s2 got2 => ?_
  · have e1 := PySem.F.sub_str_set
    have e2 := PySem.F.sub_str_frozenset
    unfold Builtin.«set.__init__» noKeywords Builtin.Frozenset.updateFrom
    generalize hPI : pyIter = PI
    wp_walk
    subst hPI
    refine wpAny_pyIter_str fun o St W st0 => wpAny_bind (wpAny_runValue ?_)
    have lt : s.heap.objs.size < (s.heap.push (bare led)).objs.size := by rw [Heap.size_push]; exact Nat.lt_succ_self _
    have apart : s.heap.objs.size ∉ [(s.heap.push (bare led)).objs.size] := fun q => absurd (List.mem_singleton.mp q) (Nat.ne_of_lt lt)
    refine fill ((W _ (by simp [calm])).toS) apart (signs x) nd (signs_len x) few (fun i v q => signAt q) x.cps.size 0 _ (Nat.zero_add _) st0 ?_ ?_
    · exact SetOf_congr ((setObjOf_fresh (knd := PySem.strKind prog w) led).setOf (Heap.get?_push_of_some _ hS) (by unfold scanBound; omega)) (fun _ => rfl) rfl
    · rintro ⟨h', g', d', tk', os'⟩ mv hS'
      obtain rfl : g' = s.gens := mv.gens
      obtain rfl : d' = s.drawn := mv.drawn
      obtain rfl : os' = s.os := mv.os
      refine wpAny_pure (wpAny_pure ⟨rfl, h', tk', rfl, hS', fun b o q => ?_⟩)
      have nb : b < s.heap.objs.size := Heap.lt_size q
      refine mv.heap b o ?_ (Heap.get?_push_of_some _ (Heap.get?_push_of_some _ q))
      intro m
      rcases List.mem_cons.mp m with e | m
      · exact absurd e (Nat.ne_of_lt nb)
      · exact absurd (List.mem_singleton.mp m) (Nat.ne_of_lt (Nat.lt_trans nb lt))
  · rcases r2 with e | fl2
    · exact got2
    cases fl2 <;> first | exact got2.elim | skip
    obtain ⟨rfl, h', tk, rfl, hS', keep⟩ := got2
    repeat (any_goals (first | assumption | wp_step))
    exact out _ _ hS' keep
end

section
variable {X : Cx}
/-- len(set(x)), x a text of few signs, none twice -/
def tLenSet (ta : TE) : TE := fun σ H Q => ta σ H fun v H1 => ∃ x : Str, v = .str x ∧ (signs x).Nodup ∧ x.cps.size ≤ 100 ∧ Q (.int x.cps.size) H1
theorem pe_lenSetT {a : Expr} {ta : TE} {p p2 q pos : Pos} (hc : X.calm = true) (g1 : Gl X "len") (m1 : X.mg "len" = none) (g2 : Gl X "set") (m2 : X.mg "set" = none) (ha : PE X a ta)
    (na : starEach [a] X.env = (false, eval a X.env) :: starEach [] X.env := by rfl) : PE X (.Call (.Name "len" p) [.Call (.Name "set" p2) [a] [] q] [] pos) (tLenSet ta) := by
  refine ⟨fun pins s σ H Q I h => Call_ (ld_blt I g1 m1 PySem.boot_len (callWith_builtin1 (args_cons (Call_ (ld_blt I g2 m2 boot_set (callWith_type1 (args_cons (thn (ha.run pins s σ H _ I h) ?_) na) na rfl))) rfl) rfl rfl))⟩
  rintro v s1 ⟨y, H1, I1, r1, x, rfl, nd, few, q1⟩
  obtain ⟨t, rfl⟩ := r1
  refine args_nil (set_text (I1.ok.hd hc) nd (by unfold scanBound; omega) fun h' tk hS keep => args_nil ?_)
  obtain ⟨o, es, ep, tb, ho, hex, hd, _, _, _, hf, hn⟩ := hS
  have I2 : Inv X pins σ H1 { s1 with heap := h', toks := tk } := I1.kept fun b o e => keep b o e
  exact call_len_set ho hex hd hf (by rw [hn]; omega) ⟨.int x.cps.size, H1, I2.tok _, ⟨_, by rw [hn]⟩, q1⟩
end
end Rg
set_option Elab.async false
set_option maxRecDepth 100000
/-! A def that is told that no repr runs around it; repr of data; the law's end with such a def. -/
namespace Rg
open PySem L2 PySem.Spec PyProof.Rows

/-- as FnOk, where nothing guards around the call -/
structure FnG (P : Program) (w : World) (K : PySem.W.Frag) (mg : Str → Option Value) (base : Heap) (CX : CXT) (k : Nat) (f : Addr) (fd : FuncData) (ps : List Str) (sp : Sp) : Prop where
  len : ∀ vs H Q E, sp vs H Q E → vs.length = ps.length
  run : ∀ (A : Around) (outer : List Env) (s : Shared) (H : Hp) (args : Args) (us : List Value) (vs : List V) (Q : VK) (E : XK), A.guards = some [] → Room k A → Env0 P w K mg base A outer s H → BindsTo s fd args (ps.zip us) → Vals vs us → sp vs H Q E →
    codeAny (model P w) A (.call (.ref f) args) (CR CX outer P w H s Q E) s

section
variable {P : Program} {w : World} {K : PySem.W.Frag} {mg : Str → Option Value} {base : Heap}
theorem funG {x qual : Str} {st : Stmt} {f : Addr} {fd : FuncData} {N ps : List Str} {k : Nat} {sp : Sp} (F : Fun K x qual st f fd) (S : FnScope N ps (defScope st)) (len : ∀ vs H Q E, sp vs H Q E → vs.length = ps.length)
    (body : ∀ (cdv : Value) (A : Around) (outer : List Env) (s : Shared) (H : Hp) (vs : List V) (Q : VK) (E : XK), A.guards = some [] → Room k (A.deeper (envOfC qual (defScope st) s.heap.objs.size f cdv)) → sp vs H Q E →
      ∃ t, PSs (cxOf CX0 P w K mg base N qual (defScope st) f cdv A outer s H E).nox (defBody st) t ∧ t { nx := fun _ H' => Q .non H', rt := Q } (start N vs) H) : FnG P w K mg base CX0 (k + 1) f fd ps sp := by
  obtain ⟨oc, od, kV, doc, pm, an, cdv, ct, osl, rfl, lk, hcd⟩ := F.ex
  refine ⟨len, fun A outer s H args us vs Q E hg hr e0 hb r want => ?_⟩
  have there : ∀ b o, base.get? b = some o → s.heap.get? b = some o := fun b o e => (e0.bs b o e).1
  have KX := e0.mod.kin.keeps there
  have kinds : ∀ y ∈ ps.zip us, (defScope st).names.lookup y.1 = some .local ∨ ((defScope st).names.lookup y.1 = some .cell ∧ ((cellsFrom (s.heap.objs.size + 1) (defScope st).names []).lookup y.1).isSome = true) := by
    rintro ⟨n, v⟩ hy
    rcases S.par n (List.of_mem_zip hy).1 with q | q
    · exact Or.inl q
    · exact Or.inr ⟨q, PySem.W.cellsFrom_some _ _ _ (Or.inl q)⟩
  refine codeAny_call_function hr.depth (KX _ _ lk) rfl S.co S.gen rfl (PySem.W.codeRec_of KX hcd) (hb _ _ _ _ (wpAny_newFunctionEnv_cells S.kind kinds ?_))
  intro env he s1 x
  subst he
  obtain ⟨t, ht, q⟩ := body cdv A outer s H vs Q E hg (hr.deeper _) want
  have I : Inv (cxOf CX0 P w K mg base N qual (defScope st) f cdv A outer s H E) [] (start N vs) H s1 := inv_start S hr.hd e0 (len _ _ _ _ want) r x
  refine ⟨(e0.mod.nolimit.keeps there).keeps x.toInCall.keep, codeAny_func (wpAny_mono (ht.nox.run [] s1 (start N vs) H _ I q) ?_ fun _ _ z => z)⟩
  intro fl s2 out
  cases fl with
  | ret u => obtain ⟨v, _, H2, J, rv, q2⟩ := out; exact ⟨v, H2, J.os, J.bare, J.base, J.hok, rv, q2⟩
  | next => obtain ⟨_, H2, J, q2⟩ := out; exact ⟨V.non, H2, J.os, J.bare, J.base, J.hok, rfl, q2⟩
  | brk => obtain ⟨_, _, _, q2⟩ := out; exact q2.elim
  | cont => obtain ⟨_, _, _, q2⟩ := out; exact q2.elim
end

section
variable {X : Cx} {CX : CXT} {k : Nat} {f : Addr} {fd : FuncData} {ps : List Str} {sp : Sp} {E : XK} {x : Str} {p pos : Pos} {e : Expr} {es : List Expr} {t : TA}
/-- f(e, ..), f such a def -/
theorem pe_callG (hg0 : X.A.guards = some []) (F : FnG X.prog X.w X.K X.mg X.base CX k f fd ps sp) (hr : Room k X.A) (hg : Gl X x) (hm : X.mg x = some (.ref f)) (hk : PySem.W.keepIn X.K (.ref f) = true) (bd : Binds X.K fd ps []) (ex : Passes CX X E)
    (ha : PA X (e :: es) t) (hdb : (x == ("__debug__" : Str)) = false := by decide) (he : starEach (e :: es) X.env = (false, eval e X.env) :: starEach es X.env := by rfl) (hpl : (backTo pos (starEach es X.env)).any (·.1) = false := by rfl) :
    PE X (.Call (.Name x p) (e :: es) [] pos) (tCall sp [] E t) := by
  refine ⟨fun pins s σ H Q I h => wpAny_Call_Name_kw (ld_glob I hg hm (PySem.W.callWith_K (h₀ := X.base) I.ok.mod.kin hk (thn (ha.run pos pins s σ H _ I h) ?_) he hpl) hdb)⟩
  rintro us s1 ⟨vs, H1, I1, r, want⟩
  rw [List.append_nil] at want
  refine ⟨I1.kIn, ?_⟩
  have len : us.length = ps.length := r.length.symm.trans (F.len _ _ _ _ want)
  have bt : BindsTo s1 fd ⟨us, []⟩ (ps.zip us) := by
    have z := bd s1 us I1.kIn (by rw [List.append_nil]; exact len)
    rw [List.append_nil] at z
    exact z
  refine wpAny_call (codeAny_mono (F.run X.A X.stack s1 H1 ⟨us, []⟩ us vs Q E hg0 hr I1.env0 bt r want) fun res s' got => ?_)
  rcases res with er | fl
  · exact ex pins σ H1 s1 er s' I1 got
  · cases fl <;> first | exact I1.after got | exact False.elim got
end

/-! ### repr -/
section
/-- how a value of the layer reads as data: no dict, no object of one's own -/
inductive Rp (K : PySem.W.Frag) (H : Hp) : V → PyData → Prop
  | non : Rp K H .non .none
  | bl (b) : Rp K H (.bl b) (.bool b)
  | int (i) : Rp K H (.int i) (.int i)
  | str (x) : Rp K H (.str x) (.str x)
  | lst {a xs ds} : SqL K H a xs → Paired (Rp K H) xs ds → Rp K H (.ref a) (.list ds)
  | tup {a xs ds} : SqT K H a xs → Paired (Rp K H) xs ds → Rp K H (.ref a) (.tuple ds)
variable {X : Cx} {pins : List (Addr × Obj)} {σ : L2.St} {H : Hp} {s : Shared}
mutual
theorem Rp.reads (I : Inv X pins σ H s) : ∀ {v : V} {d : PyData} {u : Value}, Rp X.K H v d → RelV v u → ∃ as, Reads s.heap u d as
  | _, _, _, .non, r => by cases r; exact ⟨_, .none⟩
  | _, _, _, .bl b, r => by cases r; exact ⟨_, .bool b⟩
  | _, _, _, .int i, r => by obtain ⟨t, rfl⟩ := r; exact ⟨_, .int i t⟩
  | _, _, _, .str x, r => by obtain ⟨t, rfl⟩ := r; exact ⟨_, .str x t⟩
  | _, _, _, .lst h all, r => by
    cases r
    obtain ⟨its, rv, ⟨o, n, eo, hc, _, hd⟩, _⟩ := I.list h
    obtain ⟨as, ra⟩ := Rp.readsAll I all rv
    exact ⟨_, .list eo hc hd ra⟩
  | _, _, _, .tup h all, r => by
    cases r
    obtain ⟨its, rv, ⟨o, eo, hc, n, hd⟩, _⟩ := I.tuple h
    obtain ⟨as, ra⟩ := Rp.readsAll I all rv
    exact ⟨_, .tuple eo hc hd ra⟩
theorem Rp.readsAll (I : Inv X pins σ H s) : ∀ {vs : List V} {ds : List PyData} {us : List Value}, Paired (Rp X.K H) vs ds → Vals vs us → ∃ as, ReadsAll s.heap us ds as
  | _, _, _, .nil, .nil => ⟨_, .nil⟩
  | _, _, _, .cons a b, .cons r t => by
    obtain ⟨as, h1⟩ := Rp.reads I a r
    obtain ⟨bs, h2⟩ := Rp.readsAll I b t
    exact ⟨_, .cons h1 h2⟩
end
/-- repr(v), v a list of data -/
def rRepr (K : PySem.W.Frag) : List V → Hp → VK → Prop := fun vs H Q => ∃ a d, vs = [.ref a] ∧ Rp K H (.ref a) d ∧ d.showable = true ∧ d.hasDict = false ∧ d.depth ≤ 20 ∧ d.shown.length ≤ sizeLine ∧ Q (.str d.shown) H
theorem cr_repr (hg : X.A.guards = some []) (hr : Room 0 X.A) : CallR X (.builtin "repr") (rRepr X.K) := by
  rintro pins s σ H xs us Q I r ⟨a, d, rfl, rd, h1, h2, h3, h4, q⟩
  cases r with
  | cons r0 r1 =>
    cases r1
    obtain ⟨as, R⟩ := Rp.reads I rd r0
    cases r0
    refine repr_of_reads' R h1 (fun z => absurd (h2.symm.trans z) Bool.false_ne_true) hg (by have := hr.un; omega) (fun _ _ e => e) (fun h' u tk keep => ?_) h4
    exact ⟨.str d.shown, H, I.kept keep, ⟨u, rfl⟩, q⟩
end

/-! ### the law's end -/
theorem lawG {P : Program} {w : World} {K : PySem.W.Frag} {mg mb : Str → Option Value} {k : Nat} {fa a : Addr} {fd : FuncData} {x : Str} {sp : Sp} {s₁ : Shared} {vs : List Value} {ns : List Int}
    (KX : K.In s₁.heap) (hns : s₁.heap.Ns mainGlobals mg) (hb : s₁.heap.Ns builtinsNs mb) (hbb : ∀ x : Str, x ≠ "__name__" → mb x = bootBuiltins x) (hlim : s₁.heap.NoLimit) (hg : s₁.gens = #[])
    (ha : s₁.heap.get? a = some { cls := .type "list", data := .seq vs.toArray }) (hi : IntsAre vs ns) (hl : ns.length ≤ sizeLine) (hr : Room k callerA)
    (F : ∀ base : Heap, K.In base → base.Ns mainGlobals mg → FnG P w K mg base CX0 k fa fd [x] sp) (bind : ∀ (s : Shared) (u : Value), BindsTo s fd ⟨[u], []⟩ [(x, u)])
    (want : ∀ H : Hp, Only H → SqL K H a (ns.map V.int) → sp [.ref a] H (fun v _ => v = .bl true) fun _ _ _ => False) :
    codeAny (model P w) callerA (.call (.ref fa) ⟨[.ref a], []⟩) (fun r s' => r = .ok (.ret (.bool true)) ∧ OldK s₁.heap s'.heap ∧ s'.os = s₁.os ∧ AllBare s'.gens) s₁ := by
  have rv := vals_ints hi
  have ln := hi.length
  -- H tracks the script at most
  have main : ∀ H : Hp, Only H → SqL K H a (ns.map V.int) → HOk P w H s₁.heap → (∀ b, H b ≠ none → b = a ∧ K.lookup a = none) →
      codeAny (model P w) callerA (.call (.ref fa) ⟨[.ref a], []⟩) (fun r s' => r = .ok (.ret (.bool true)) ∧ OldK s₁.heap s'.heap ∧ s'.os = s₁.os ∧ AllBare s'.gens) s₁ := by
    intro H only seq hok few
    have none_of : ∀ {b : Addr}, ¬ (b = a ∧ K.lookup a = none) → H b = none := fun {b} z => Decidable.by_contra fun q => z (few b q)
    have dicts : ∀ {b : Addr} {m : Str → Option Value}, s₁.heap.Ns b m → (hidT s₁.heap H).Ns b m := by
      rintro b m ⟨o, es, ep, e, d, r⟩
      refine ⟨o, es, ep, hidT_get e (none_of ?_), d, r⟩
      rintro ⟨rfl, _⟩
      cases ha.symm.trans e
      cases d
    have KB : K.In (hidT s₁.heap H) := fun b o e => hidT_get (KX b o e) (none_of (by
      rintro ⟨rfl, z⟩
      cases z.symm.trans e))
    have M : Mod K mg (hidT s₁.heap H) := ⟨KB, dicts hns, ⟨mb, dicts hb, hbb⟩, let ⟨mc, h1, h2⟩ := hlim; ⟨mc, dicts h1, h2⟩⟩
    have none0 : ∀ b, b ∉ frs ([] : List Env) := fun b => by unfold frs; simp
    have e0 : Env0 P w K mg (hidT s₁.heap H) callerA [] s₁ H := ⟨rfl, M, fun b o e => of_hidT e, Nat.le_of_eq (hidT_size _ _), trivial, fun b q => absurd q (none0 b), hok, .of_eq hg⟩
    refine codeAny_mono ((F _ KB (dicts hns)).run callerA [] s₁ H ⟨[.ref a], []⟩ [.ref a] [.ref a] _ _ rfl hr e0 (bind s₁ (.ref a)) (.cons rfl .nil) (want H only seq)) fun r s' got => ?_
    rcases r with er | fl
    · exact False.elim got
    cases fl <;> first | exact False.elim got | skip
    obtain ⟨v, H', os, bare, un, hok', r', q⟩ := got
    subst q
    cases r'
    refine ⟨rfl, OldK.of_keep fun b o e => ?_, os, bare⟩
    rcases only b with z | ⟨ob, xs, z⟩
    · exact un.keep b o e z (none0 b) (by simp)
    · obtain ⟨e1, _⟩ := hok b _ z
      obtain ⟨e2, _⟩ := hok' b _ (un.frzs b ob _ z)
      cases e1.symm.trans e
      exact e2
  cases hk : K.lookup a with
  | some o =>
    have e := KX a o hk
    cases ha.symm.trans e
    exact main (fun _ => none) (fun _ => Or.inl rfl) (Or.inr ⟨_, vs.toArray, _, hk, rfl, rfl, rfl, by rw [List.size_toArray, ln]; exact hl, by simpa using rv⟩) (fun b u z => by cases (show (none : Option HO) = some u from z)) fun b z => absurd rfl z
  | none =>
    let ob : Obj := { cls := .type "list", data := .seq vs.toArray }
    have at_ : ∀ {b : Addr} {u : HO}, (if b = a then some (HO.frz ob (.lst (ns.map V.int))) else none) = some u → b = a ∧ u = HO.frz ob (.lst (ns.map V.int)) := by
      intro b u z
      by_cases q : b = a
      · rw [if_pos q] at z; exact ⟨q, (Option.some.inj z).symm⟩
      · rw [if_neg q] at z; cases z
    refine main (fun b => if b = a then some (.frz ob (.lst (ns.map V.int))) else none) (fun b => ?_) (Or.inl (Or.inr ⟨ob, if_pos rfl⟩)) (fun b u z => ?_) (fun b z => ?_)
    · by_cases q : b = a
      · exact Or.inr ⟨_, _, if_pos q⟩
      · exact Or.inl (if_neg q)
    · obtain ⟨rfl, rfl⟩ := at_ z
      exact ⟨ha, by rw [List.length_map]; exact hl, vs, _, rv, ha⟩
    · cases q : (if b = a then some (HO.frz ob (.lst (ns.map V.int))) else none) with
      | none => exact absurd q z
      | some u => exact ⟨(at_ q).1, hk⟩
theorem walkG {l : PySem.W.OpenLaw} {n k : Nat} {q : Program} {loose : List Str} {XP : (Str → Option Value) → Heap → Prop} {YP : World → Heap → Prop} {d : DefRec} {K : Params → PySem.W.Frag} {sp : World → Sp} {x : Str}
    (hn : l.most = some n) (hn2 : n ≤ sizeLine) (hdf : d.params.defaults = []) (hr : Room k callerA) (hY : ∀ (w : World) (h : Heap), YP w h → (K w.params).In h)
    (F : ∀ (w : World) (mg : Str → Option Value) (fa : Addr) (h : Heap), (K w.params).In h → h.Ns mainGlobals mg → mg d.name = some (.ref fa) →
      ∃ fd : FuncData, (∀ (s : Shared) (u : Value), BindsTo s fd ⟨[u], []⟩ [(x, u)]) ∧ ∀ base : Heap, (K w.params).In base → base.Ns mainGlobals mg → FnG l.prog w (K w.params) mg base CX0 k fa fd [x] (sp w))
    (want : ∀ (w : World) (H : Hp) (a : Addr) (ns : List Int), ns.length ≤ n → (∀ z ∈ ns, Builtin.Int.intBits z ≤ 1048576) → Only H → SqL (K w.params) H a (ns.map V.int) → sp w [.ref a] H (fun v _ => v = .bl true) fun _ _ _ => False) :
    PySem.W.WalkO q loose XP YP l.row.toRowW d [] (fun f vs => PySem.call f vs) := by
  refine Att.attach_callB hn hdf fun w s₀ s₁ mg mb fa o pm cd doc a vs ns G Y ho hd hcd hmg hobj hints hlen hbits hg => ?_
  obtain ⟨fd, hb, hF⟩ := F w mg fa _ (hY w _ Y) G.T.g hmg
  exact lawG (hY w _ Y) G.T.g G.T.b G.T.builtins G.T.nolimit hg hobj hints (Nat.le_trans hlen hn2) hr hF hb fun H only seq => want w H a ns hlen hbits only seq
end Rg
set_option Elab.async false
set_option maxRecDepth 100000
set_option autoImplicit false
/-! An error class of the program whose __init__ hands a text to the one above and keeps its fields. -/
namespace Er
open PySem L2 PySem.Spec PyProof.Rows PySem.Calls
abbrev veInit : String := "ValueError.__init__"
section
variable {prog : Program} {w : World} {A : Around} {E : Value → Shared → Prop} {K : PySem.W.Frag} {h : Heap} {g : Array GenState} {d : Drawn} {t : Nat} {os : OsState}
variable {nm q : Str} {C N : Addr} {bs bm : List Value} {sn : List Str} {sub : List Value} {ab : Bool} {col : Option Bool} {dd : Option Addr} {k0 k1 k2 k3 k5 : Option Value}
/-- the bound wrapper is called: the args are laid, else all stays -/
theorem wrapCall {u e t0 : Addr} {rest : List Value} {Q : Value → Shared → Prop} (hC : h.get? C = some (excClassObj nm q C N bs bm true sn sub ab col dd k0 k1 k2 k3 k5 "ValueError.__new__"))
    (hu : h.get? u = some (PySem.W.kxs_mw veInit e)) (he : h.get? e = some (PySem.HandSPX.excO C t0)) (few : rest.length ≤ sizeLine)
    (go : ∀ h' t1, (∀ b o, b ≠ e → h.get? b = some o → h'.get? b = some o) → h'.get? e = some (PySem.HandSPX.excO C t1) → Q .none ⟨h', g, d, t, os⟩) : wpAny (model prog w) A (call (.ref u) rest) Q E ⟨h, g, d, t, os⟩ := by
  refine wpAny_call (codeAny_of_tree ?_)
  show wpAny (model prog w) A.in1 (callAny (.ref u) ⟨rest, []⟩) _ _ _
  simp only [callAny]
  refine wpAny_bind (wpAny_load hu ?_)
  have k1' : (Value.type "method-wrapper" == Value.type "method" || Value.type "method-wrapper" == Value.type "builtin_function_or_method" || Value.type "method-wrapper" == Value.type "method-wrapper") = true := by decide
  simp only [k1', if_true]
  refine PySem.W.KFB.if_so (by decide) (wpAny_bind ?_)
  refine PySem.W.check_bound_init PySem.F.excBase_ValueError.toExcCallFacts hC he rfl (wpAny_bind (wpAny_pure (wpAny_pure ⟨plainId_quiet PySem.F.excBase_ValueError.init.plain _, codeAny_builtin PySem.F.excBase_ValueError.initEntry ?_⟩)))
  refine PySem.W.exc_init_tree (cls := .ref C) (t0 := t0) (dv := none) (c2 := .none) (c3 := .none) (b4 := .bool false) he few fun h' a b _ => go h' _ a b
/-- what is written of such a class, and of its __init__ at fI, whose cell is at cc, whose code at cda -/
structure ErrC (prog : Program) (K : PySem.W.Frag) (C fI cc cda : Addr) : Prop where
  cls : ∃ nm q N bs bm sn sub ab col dd k0 k1 k2 k3 k5, K.lookup C = some (excClassObj nm q C N bs bm true sn sub ab col dd k0 k1 k2 k3 k5 "ValueError.__new__") ∧ PySem.HandSPX.refsVE bm = true
  sup : PySem.W.ks_superIn K C C "__init__" = some (some (.builtin veInit))
  any_ : PySem.W.nsIn K cStatics "thirdparty.any" = some none
  ve : PySem.W.subIn K (.ref C) (.type "ValueError") = some true
  self_ : PySem.W.mroIn K C (.ref C) = some true
  cell : ∃ cl cld csl, K.lookup cc = some ⟨cl, cld, .cell (some (.ref C)), csl⟩
  code : ∃ ccl cdd vs ccs file tf, K.lookup cda = some ⟨ccl, cdd, .fields vs, ccs⟩ ∧ vs[2]? = some (.str file tf) ∧ ((prog.main.file : Str) == file) = true
  top : (prog.main.scope.names.lookup ("super" : Str)).isSome = false
/-- super().__init__("..") -/
theorem superLine {fI cc cda x L t0 : Addr} {fd : FuncData} {oc : Value} {od : Option Addr} {osl : Array (Option Value)} {ar : Arg} {m mg mb : Str → Option Value} {qual msg : Str} {scope : Scope} {body : List Stmt} {j : Nat} {p0 p1 p2 p3 p4 p5 : Pos} {pl : Sem Bool} {Q : Flow → Shared → Prop}
    (T : ErrC prog K C fI cc cda) (X : K.In h) (lk : K.lookup fI = some ⟨oc, od, .func fd, osl⟩) (hp : (fd.params.posonlyargs ++ fd.params.args).head? = some ar) (hks : scope.names.lookup ("super" : Str) = some .globalImplicit) (hkc : scope.names.lookup ("__class__" : Str) = some .free)
    (hka : scope.names.lookup ar.arg = some .local) (hk : scope.kind = .function) (hns : h.Ns L m) (hself : m ar.arg = some (.ref x)) (hx : h.get? x = some (PySem.HandSPX.excO C t0)) (gl : h.Ns mainGlobals mg) (gs : mg "super" = none) (bl : h.Ns builtinsNs mb) (bb : mb "super" = bootBuiltins "super")
    (go : ∀ h' tk t1, (∀ b o, b ≠ x → h.get? b = some o → h'.get? b = some o) → h'.get? x = some (PySem.HandSPX.excO C t1) → Q .next ⟨h', g, d, tk, os⟩)
    (he : eval (.Call (.Attribute (.Call (.Name "super" p0) [] [] p1) "__init__" p2) [.Constant (.str msg) j p3] [] p4) (PySem.W.ksEnv qual scope L fI (.ref cda) cc) = (do
        let ov ← attributeBase (.Call (.Name "super" p0) [] [] p1) "__init__" (PySem.W.ksEnv qual scope L fI (.ref cda) cc) (eval (.Call (.Name "super" p0) [] [] p1) (PySem.W.ksEnv qual scope L fI (.ref cda) cc))
        standAt p2.atName
        let (f, first) ← holding [ov] (getMethod ov "__init__" pl)
        callWith p4 f first (backTo p4 (starEach [.Constant (.str msg) j p3] (PySem.W.ksEnv qual scope L fI (.ref cda) cc))) []) := by rfl)
    (hi : interactive (PySem.W.ksEnv qual scope L fI (.ref cda) cc) = false := by rfl) (hsw : swapsWith (.Call (.Attribute (.Call (.Name "super" p0) [] [] p1) "__init__" p2) [.Constant (.str msg) j p3] [] p4) none p5.line (PySem.W.ksEnv qual scope L fI (.ref cda) cc) = pure false := by rfl) :
    _root_.PySem.wpAt (model prog w) A (.func body (PySem.W.ksEnv qual scope L fI (.ref cda) cc)) (exec (.Expr (.Call (.Attribute (.Call (.Name "super" p0) [] [] p1) "__init__" p2) [.Constant (.str msg) j p3] [] p4) p5) (PySem.W.ksEnv qual scope L fI (.ref cda) cc)) Q E ⟨h, g, d, t, os⟩ := by
  obtain ⟨nm, q, N, bs, bm, sn, sub, ab, col, dd, k0, k1, k2, k3, k5, hC, hbm⟩ := T.cls
  obtain ⟨ccl, cdd, vs, ccs, file, tf, hcode, hvs, hfile⟩ := T.code
  obtain ⟨cl, cld, csl, hcell⟩ := T.cell
  have hcd : ∃ cd, PySem.W.clsIn K C = some cd ∧ PySem.W.alongIn K "__init__" ((cd.mro.dropWhile (· != .ref C)).drop 1) = some (some (.builtin veInit)) := Option.bind_eq_some_iff.mp T.sup
  obtain ⟨cd, hcd, along⟩ := hcd
  have I0 : PySem.W.InstAt h x (PySem.HandSPX.excO C t0) C none := ⟨hx, rfl, rfl, trivial⟩
  have ne : x ≠ C := PySem.W.ks_ne X I0 hcd
  refine PySem.ks_wpAt_Expr_any (PySem.ks_wpAt_MethodCall (PySem.ks_wpAt_super_base (env := PySem.W.ksEnv qual scope L fI (.ref cda) cc) hks hkc (by decide) rfl (X _ _ lk) rfl hp rfl (X _ _ hcode) rfl hvs hfile T.top ?_) he) hi hsw
  refine PySem.W.ks_loadName_global hk hks (loadGlobal_builtin (env := PySem.W.ksEnv qual scope L fI (.ref cda) cc) gl gs bl (bb.trans (by decide +kernel : bootBuiltins "super" = some (.type "super"))) ⟨rfl, ?_⟩)
  refine wpAny_loadName_free hk hkc rfl ⟨_, X _ _ hcell, rfl⟩ (wpAny_loadName_local hk hka hns hself (PySem.ks_wpAny_isType_cls (X _ _ hC) rfl ⟨rfl, ?_⟩))
  refine PySem.ks_wpAny_call_super (X _ _ hC) rfl hx rfl (fun c e => by cases e) (PySem.W.looks_mroIn X T.self_) (fun h1 hso keep => ?_)
  have X1 := X.keeps keep
  have hx1 := keep _ _ hx
  have I1 : PySem.W.InstAt h1 x (PySem.HandSPX.excO C t0) C none := ⟨hx1, rfl, rfl, trivial⟩
  refine PySem.W.kxs_getMethod PySem.W.kxs_ValueError hso (PySem.W.looks_opaque X1 T.any_) (l₀ := cd.mro) (fun A Q E s k q => wpAny_bind (PySem.W.looks_clsIn X1 hcd A _ E s k (wpAny_pure q))) rfl X1 along (I1.type.andThen (PySem.W.looks_subIn X1 T.ve)) ne (by decide) ?_
  have hu : (h1.push (PySem.W.kxs_mw veInit x)).get? h1.objs.size = some (PySem.W.kxs_mw veInit x) := by heap_get
  have k2 : ∀ b o, h1.get? b = some o → (h1.push (PySem.W.kxs_mw veInit x)).get? b = some o := fun b o e => Heap.get?_push_of_some _ e
  refine PySem.W.kxs_callWith (i := veInit) (x := x) rfl (evalArgs_plain (spliced_cons (@Constant_str _ _ _ _ _ _ j p3 _ (spliced_nil ⟨hu, ?_⟩))))
  have keep2 : ∀ b o, h.get? b = some o → (h1.push (PySem.W.kxs_mw veInit x)).get? b = some o := fun b o e => k2 b o (keep b o e)
  refine wrapCall (X.keeps keep2 _ _ hC) hu (keep2 _ _ hx) (by show 1 ≤ sizeLine; decide) fun h' t1 k3 hx' => ?_
  exact (go h' _ t1 (fun b o n e => k3 b o n (keep2 b o e)) hx')
end
end Er
set_option Elab.async false
set_option maxRecDepth 100000
set_option autoImplicit false
namespace Er
open PySem L2 PySem.Spec PyProof.Rows PySem.Calls
/-! ### such an __init__ as a def of the hand's layer -/
theorem lookup_mem {α : Type} {x : Str} {u : α} : ∀ {l : List (Str × α)}, (l.map (·.1)).Nodup → (x, u) ∈ l → l.lookup x = some u
  | [], _, h => absurd h List.not_mem_nil
  | (y, v) :: r, nd, h => by
    rw [List.map_cons, List.nodup_cons] at nd
    rcases List.mem_cons.mp h with e | h'
    · cases e
      simp [List.lookup]
    · have ne : x ≠ y := by
        rintro rfl
        exact nd.1 (List.mem_map.mpr ⟨(_, u), h', rfl⟩)
      have e : (x == y) = false := by simpa using ne
      simp only [List.lookup, e]
      exact lookup_mem nd.2 h'
theorem zip_rev {ps : List Str} {us : List Value} {i : Nat} {x : Str} {u : Value} (nd : ps.Nodup) (l : us.length = ps.length) (h1 : ps[i]? = some x) (h2 : us[i]? = some u) : (ps.zip us).reverse.lookup x = some u := by
  refine lookup_mem ?_ (List.mem_reverse.mpr ?_)
  · rw [List.map_reverse, List.map_fst_zip (by omega)]
    unfold List.Nodup
    rw [List.pairwise_reverse]
    exact nd.imp fun h => h.symm
  · refine List.mem_of_getElem? (i := i) ?_
    rw [List.getElem?_zip_eq_some]
    exact ⟨h1, h2⟩
def exX (P : Program) (w : World) (K : PySem.W.Frag) (mg : Str → Option Value) (base : Heap) (N : List Str) (qual : Str) (scope : Scope) (f cda cc : Addr) (A : Around) (outer : List Env) (s : Shared) (H : Hp) : Cx where
  prog := P
  w := w
  K := K
  mg := mg
  base := base
  A := A.deeper (PySem.W.ksEnv qual scope s.heap.objs.size f (.ref cda) cc)
  N := N
  s_0 := s
  H_0 := H
  env := PySem.W.ksEnv qual scope s.heap.objs.size f (.ref cda) cc
  outer := outer
  stack := PySem.W.ksEnv qual scope s.heap.objs.size f (.ref cda) cc :: outer
  ex := []
  calm := true
  fn := fun _ => false
  pn := []
  xe := fun _ _ => False
/-- the scope of such an __init__ -/
structure ErrS (ps : List Str) (scope : Scope) : Prop where
  kind : scope.kind = .function
  nd : ps.Nodup
  par : ∀ x ∈ ps, scope.names.lookup x = some .local
  nocell : ∀ x ∈ scope.names, x.2 ≠ .cell
  sup : scope.names.lookup ("super" : Str) = some .globalImplicit
  cls : scope.names.lookup ("__class__" : Str) = some .free
  free : ∀ x, scope.names.lookup x = some .free → x = "__class__"
  self_ : ps[0]? = some ("self" : Str)
  co : scope.isCoroutine = false
  gen : scope.isGenerator = false
section
variable {P : Program} {w : World} {K : PySem.W.Frag} {mg : Str → Option Value} {base : Heap}
theorem start_inv {ps : List Str} {qual : Str} {scope : Scope} {C f cda cc : Addr} {A : Around} {outer : List Env} {s : Shared} {H : Hp} {us : List Value} {vs : List V} {h0 : Heap} {tk : Nat} (S : ErrS ps scope) (T : ErrC P K C f cc cda) (hd : A.handled = none) (e0 : Env0 P w K mg base A outer s H)
    (hl : vs.length = ps.length) (r : Vals vs us) (hns : h0.Ns s.heap.objs.size (fun x => (ps.zip us).reverse.lookup x)) (keep : ∀ b o, s.heap.get? b = some o → h0.get? b = some o) :
    Inv (exX P w K mg base ps qual scope f cda cc A outer s H) [] (L2.start ps vs) H { s with heap := h0, toks := tk } := by
  obtain ⟨cl, cld, csl, hcell⟩ := T.cell
  have bc := e0.mod.kin _ _ hcell
  have one : ∀ {x : Str} {c : Addr}, ([(("__class__" : Str), cc)] : List (Str × Addr)).lookup x = some c → x = "__class__" ∧ c = cc := by
    intro x c e
    by_cases q : x = "__class__"
    · subst q
      have z : some cc = some c := e
      exact ⟨rfl, (Option.some.inj z).symm⟩
    · have q2 : (x == ("__class__" : Str)) = false := by simpa using q
      simp [List.lookup, q2] at e
  have noex : ∀ b : Addr, b ∉ (exX P w K mg base ps qual scope f cda cc A outer s H).ex := fun b z => absurd (show b ∈ ([] : List Addr) from z) (by simp)
  refine ⟨⟨e0.mod, S.kind, rfl, rfl, Nat.le_refl _, fun x y c h1 h2 => ?_, fun x hx => ?_, fun x c z _ => absurd (show false = true from z) Bool.false_ne_true, fun _ => hd, Around.frames_deeper e0.frames, .inr ⟨rfl, rfl⟩, fun b z => absurd z (noex b), e0.bs, e0.bsz, fun b _ _ => noex b, fun b z => absurd z (noex b), e0.funs, e0.frf⟩,
    rfl, e0.bare, Un.kept keep, ⟨_, hns, fun i x v h1 h2 h3 => ?_⟩, fun x c h => ?_, e0.hok.fresh (Nat.le_refl _), fun x c h => ?_, fun p hp => absurd (show p ∈ ([] : List (Addr × Obj)) from hp) (by simp), e0.hok.kept keep, ?_⟩
  · exact (one h1).1.trans (one h2).1.symm
  · have hx' : scope.names.lookup x = some .cell ∨ scope.names.lookup x = some .free := hx
    rcases hx' with z | z
    · exact absurd rfl (S.nocell _ (PySem.mem_of_lookup z))
    · refine ⟨cc, ?_⟩
      show ([(("__class__" : Str), cc)] : List (Str × Addr)).lookup x = some cc
      rw [S.free x z]
      rfl
  · have hi : i < vs.length := by
      have q := (List.getElem?_eq_some_iff.mp h1).1
      have q : i < ps.length := q
      omega
    have ha : vs[i]? = some v := by
      unfold L2.start at h2
      rw [List.getElem?_append_left (by simpa using hi), List.getElem?_map] at h2
      cases e : vs[i]? with
      | none => rw [e] at h2; cases h2
      | some a => rw [e] at h2; cases h2; rfl
    obtain ⟨u, hu, rv⟩ := r.get ha
    have hp : ps[i]? = some x := h1
    exact ⟨u, rv, .inl ⟨S.par x (List.mem_of_getElem? hp), zip_rev S.nd (r.length.symm.trans hl) hp hu⟩⟩
  · obtain ⟨_, rfl⟩ := one h
    exact ⟨_, _, keep _ _ (e0.bs _ _ bc).1, rfl⟩
  · obtain ⟨_, rfl⟩ := one h
    exact (e0.bs _ _ bc).2
  · unfold L2.start
    show _ = ps.length
    rw [List.length_append, List.length_map, List.length_replicate]
    omega
end
end Er
set_option Elab.async false
set_option maxRecDepth 100000
set_option autoImplicit false
namespace Er
open PySem L2 PySem.Spec PyProof.Rows PySem.Calls
section
variable {P : Program} {w : World} {K : PySem.W.Frag} {mg : Str → Option Value} {base : Heap}
theorem ok_err {ps : List Str} {name qual msg : Str} {params : Arguments} {body rest : List Stmt} {scope : Scope} {C f cda cc : Addr} {oc dV kV doc pm ct : Value} {od an : Option Addr} {osl : Array (Option Value)} {ar : Arg} {sp : Sp} {j : Nat} {p0 p1 p2 p3 p4 p5 : Pos} {pl : Sem Bool}
    (T : ErrC P K C f cc cda) (S : ErrS ps scope) (lk : K.lookup f = some ⟨oc, od, .func (PySem.W.ksFn name qual params body scope dV kV doc pm an (.ref cda) ct cc), osl⟩) (hcd : PySem.W.codeIn K (.ref cda) qual = true) (gs : mg "super" = none)
    (hp : (params.posonlyargs ++ params.args).head? = some ar) (har : ar.arg = "self") (hb : body = .Expr (.Call (.Attribute (.Call (.Name "super" p0) [] [] p1) "__init__" p2) [.Constant (.str msg) j p3] [] p4) p5 :: rest)
    (len : ∀ vs H Q E, sp vs H Q E → vs.length = ps.length) (first : ∀ vs H Q E, sp vs H Q E → ∃ a ws, vs = .ref a :: ws ∧ H a = some (exo a C none))
    (hbody : ∀ (A : Around) (outer : List Env) (s : Shared) (H : Hp) (vs : List V) (Q : VK) (E : XK), sp vs H Q E →
      ∃ t, PSs (exX P w K mg base ps qual scope f cda cc A outer s H) rest t ∧ t { nx := fun _ H' => Q .non H', rt := Q } (L2.start ps vs) H)
    (he : ∀ L, eval (.Call (.Attribute (.Call (.Name "super" p0) [] [] p1) "__init__" p2) [.Constant (.str msg) j p3] [] p4) (PySem.W.ksEnv qual scope L f (.ref cda) cc) = (do
        let ov ← attributeBase (.Call (.Name "super" p0) [] [] p1) "__init__" (PySem.W.ksEnv qual scope L f (.ref cda) cc) (eval (.Call (.Name "super" p0) [] [] p1) (PySem.W.ksEnv qual scope L f (.ref cda) cc))
        standAt p2.atName
        let (g, first) ← holding [ov] (getMethod ov "__init__" pl)
        callWith p4 g first (backTo p4 (starEach [.Constant (.str msg) j p3] (PySem.W.ksEnv qual scope L f (.ref cda) cc))) []))
    (hi : ∀ L, interactive (PySem.W.ksEnv qual scope L f (.ref cda) cc) = false) (hsw : ∀ L, swapsWith (.Call (.Attribute (.Call (.Name "super" p0) [] [] p1) "__init__" p2) [.Constant (.str msg) j p3] [] p4) none p5.line (PySem.W.ksEnv qual scope L f (.ref cda) cc) = pure false) :
    FnOk P w K mg base CX0 1 f (PySem.W.ksFn name qual params body scope dV kV doc pm an (.ref cda) ct cc) ps sp := by
  refine ⟨len, fun A outer s H args us vs Q E hr e0 hbind r hsp => ?_⟩
  obtain ⟨a, ws, ev, ea⟩ := first _ _ _ _ hsp
  have there : ∀ b o, base.get? b = some o → s.heap.get? b = some o := fun b o e => (e0.bs b o e).1
  have KX : K.In s.heap := e0.mod.kin.keeps there
  have hl := len _ _ _ _ hsp
  refine ks_codeAny_call_defAt hr.depth (KX _ _ lk) rfl (e0.mod.nolimit.keeps there) (PySem.W.codeRec_of KX hcd) rfl hbind S.nocell (fun x hx => S.par _ (List.of_mem_zip hx).1) (fun h0 hns keep => ?_) S.co S.gen S.kind
  have I0 := start_inv (w := w) (qual := qual) (tk := s.toks + (ps.zip us).length) S T hr.hd e0 hl r hns keep
  obtain ⟨t1, ho⟩ := exo_at I0.hok ea
  obtain ⟨t, ht, q⟩ := hbody A outer s H _ Q E hsp
  obtain ⟨mb, hmb, hbb⟩ := e0.mod.blt
  have old : ∀ b o, base.get? b = some o → h0.get? b = some o := fun b o e => keep b o (there b o e)
  have hs0 : (ps.zip us).reverse.lookup ar.arg = some (.ref a) := by
    rw [har]
    subst ev
    cases r with
    | cons r0 r1 =>
      obtain rfl : _ = Value.ref a := r0
      refine zip_rev (i := 0) S.nd ?_ S.self_ rfl
      rw [List.length_cons, ← r1.length]
      exact hl
  have hka : scope.names.lookup ar.arg = some .local := by
    rw [har]
    exact S.par _ (List.mem_of_getElem? S.self_)
  rw [hb]
  refine ks_wpAt_execs_cons ?_
  refine superLine T (e0.mod.kin.keeps old) lk hp S.sup S.cls hka S.kind hns hs0 ho (e0.mod.glob.keeps old) gs (hmb.keeps old) (hbb _ (by decide)) (fun h' tk t2 k3 hx => ?_) (he _) (hi _) (hsw _)
  have J := I0.write (t' := tk) (x := a) (e := a) (o := exo a C none) (by rw [ea]; exact True.intro) (.inl rfl) k3 ⟨_, hx⟩ (exo_ok hx)
  have eu : upd H a (exo a C none) = H := by
    funext b
    by_cases z : b = a
    · rw [z, upd_same, ea]
    · rw [upd_ne z]
  rw [eu] at J
  refine wpAt_of_wpAny (wpAny_mono (ht.run [] _ _ H _ J q) (fun fl s2 out => ?_) fun _ _ z => False.elim z)
  cases fl with
  | ret u => obtain ⟨v, _, H2, J2, rv, q2⟩ := out; exact ⟨v, H2, J2.os, J2.bare, J2.base, J2.hok, rv, q2⟩
  | next => obtain ⟨_, H2, J2, q2⟩ := out; exact ⟨V.non, H2, J2.os, J2.bare, J2.base, J2.hok, rfl, q2⟩
  | brk => obtain ⟨_, _, _, q2⟩ := out; exact q2.elim
  | cont => obtain ⟨_, _, _, q2⟩ := out; exact q2.elim
end
end Er
set_option Elab.async false
set_option maxRecDepth 100000
set_option autoImplicit false
namespace Er
open PySem L2 PySem.Spec PyProof.Rows PySem.Calls
/-- self.f = p behind the text -/
def spErr1 (C : Addr) (f : Str) : Sp := fun vs H Q _ => ∃ a v, vs = [.ref a, v] ∧ H a = some (exo a C none) ∧ ∀ dx, H dx = none → dx ≠ a → Q .non (upd (upd H dx (exd dx [(f, v)])) a (exo a C (some dx)))
def spErr2 (C : Addr) (f g : Str) : Sp := fun vs H Q _ => ∃ a v u, vs = [.ref a, v, u] ∧ H a = some (exo a C none) ∧ ∀ dx, H dx = none → dx ≠ a → Q .non (upd (upd (upd H dx (exd dx [(f, v)])) a (exo a C (some dx))) dx (exd dx [(g, u), (f, v)]))
section
variable {P : Program} {w : World} {K : PySem.W.Frag} {mg : Str → Option Value} {base : Heap}
theorem rest1 {p f qual : Str} {scope : Scope} {C fi cda cc : Addr} {q1 q2 q3 q4 : Pos} (S : ErrS ["self", p] scope) (O : OexC K C) (no : PySem.W.findIn K (.ref C) f = some none) (d1 : (p == ("__debug__" : Str)) = false) (d2 : (p == ("__classdict__" : Str)) = false)
    (A : Around) (outer : List Env) (s : Shared) (H : Hp) (vs : List V) (Q : VK) (E : XK) (h : spErr1 C f vs H Q E) :
    ∃ t, PSs (exX P w K mg base ["self", p] qual scope fi cda cc A outer s H) [.Assign [.Attribute (.Name "self" q1) f q2] (.Name p q3) q4] t ∧ t { nx := fun _ H' => Q .non H', rt := Q } (L2.start ["self", p] vs) H := by
  obtain ⟨a, v, rfl, ea, k⟩ := h
  refine ⟨_, pss_one (ps_ost (pe_var (i := 0) (x := "self") rfl (.inl (S.par _ (by simp)))) (pe_var (i := 1) (x := p) rfl (.inl (S.par _ (by simp))) d1 d2)), ?_⟩
  exact ⟨_, rfl, _, rfl, a, C, rfl, O, no, .inl ⟨ea, fun dx n ne => k dx n ne⟩⟩
theorem rest2 {p p' f g qual : Str} {scope : Scope} {C fi cda cc : Addr} {q1 q2 q3 q4 r1 r2 r3 r4 : Pos} (S : ErrS ["self", p, p'] scope) (O : OexC K C) (no : PySem.W.findIn K (.ref C) f = some none) (no' : PySem.W.findIn K (.ref C) g = some none) (d1 : (p == ("__debug__" : Str)) = false) (d2 : (p == ("__classdict__" : Str)) = false) (d3 : (p' == ("__debug__" : Str)) = false) (d4 : (p' == ("__classdict__" : Str)) = false)
    (A : Around) (outer : List Env) (s : Shared) (H : Hp) (vs : List V) (Q : VK) (E : XK) (h : spErr2 C f g vs H Q E) :
    ∃ t, PSs (exX P w K mg base ["self", p, p'] qual scope fi cda cc A outer s H) [.Assign [.Attribute (.Name "self" q1) f q2] (.Name p q3) q4, .Assign [.Attribute (.Name "self" r1) g r2] (.Name p' r3) r4] t ∧ t { nx := fun _ H' => Q .non H', rt := Q } (L2.start ["self", p, p'] vs) H := by
  obtain ⟨a, v, u, rfl, ea, k⟩ := h
  refine ⟨_, pss_cons (ps_ost (pe_var (i := 0) (x := "self") rfl (.inl (S.par _ (by simp)))) (pe_var (i := 1) (x := p) rfl (.inl (S.par _ (by simp))) d1 d2)) (pss_one (ps_ost (pe_var (i := 0) (x := "self") rfl (.inl (S.par _ (by simp)))) (pe_var (i := 2) (x := p') rfl (.inl (S.par _ (by simp))) d3 d4))), ?_⟩
  refine ⟨_, rfl, _, rfl, a, C, rfl, O, no, .inl ⟨ea, fun dx n ne => ?_⟩⟩
  refine ⟨_, rfl, _, rfl, a, C, rfl, O, no', .inr ⟨dx, _, upd_same, ?_, by show 1 ≤ 900; decide, k dx n ne⟩⟩
  rw [upd_ne ne, upd_same]
end

/-! ### raise C(e) -/
/-- the exception's own dict alone is left in sight -/
theorem left1 {H : Hp} {a d C : Addr} {fs gs : List (Str × V)} (na : H a = none) (o : Option Addr) : upd (del (upd (upd (upd H a (exo a C none)) d (exd d gs)) a (exo a C o)) a) d (.xd fs) = upd H d (.xd fs) := by
  funext b
  by_cases hd : b = d
  · rw [hd, upd_same, upd_same]
  rw [upd_ne hd, upd_ne hd]
  by_cases ha : b = a
  · rw [ha, del_same, na]
  · rw [del_ne ha, upd_ne ha, upd_ne hd, upd_ne ha]
def tRaise1 (C : Addr) (f : Str) (W : WX) (te : TE) : TS := fun _ σ H => te σ H fun v H1 => ∀ d, H1 d = none → W (.ref C) (some d) σ (upd H1 d (.xd [(f, v)]))
/-- a reading, closed upwards -/
def up (te : TE) : TE := fun σ H Q => ∃ R : V → Hp → Prop, te σ H R ∧ ∀ v H1, R v H1 → Q v H1
section
variable {X : Cx}
theorem pe_up {e : Expr} {te : TE} (he : PE X e te) : PE X e (up te) := ⟨fun pins s σ H Q I ⟨R, h, m⟩ => wpAny_mono (he.run pins s σ H R I h) (fun u s1 ⟨v, H1, I1, r, q⟩ => ⟨v, H1, I1, r, m v H1 q⟩) fun _ _ z => z⟩
theorem ps_raise1 {x f : Str} {C fi : Addr} {k : Nat} {fd : FuncData} {ps : List Str} {e : Expr} {te : TE} {W : WX} {p pos pos2 : Pos} (hc : X.calm = true) (tk : Takes X W) (O : OexC X.K C) (iC : PySem.W.findIn X.K (.ref C) "__init__" = some (some (.ref fi))) (tI : PySem.W.typeIn X.K (.ref fi) = some (.type "function"))
    (F : FnOk X.prog X.w X.K X.mg X.base CX0 k fi fd ps (spErr1 C f)) (hr : Room (k + 1) X.A) (hb : Binds X.K fd ps []) (hg : Gl X x) (hm : X.mg x = some (.ref C)) (he : PE X e te) (hdb : (x == ("__debug__" : Str)) = false := by decide)
    (hs : starEach [e] X.env = (false, eval e X.env) :: starEach [] X.env := by rfl) : PS X (.Raise (some (.Call (.Name x p) [e] [] pos)) none pos2) (tRaise1 C f W te) := by
  have R := ps_raise (pos := pos2) hc tk (pmk_oex (p := p) (pos := pos) O iC tI F hr hb .nil pass0 hg hm (pa_cons (pe_up he) pa_nil hs) hdb hs)
  refine ⟨fun pins s σ H D I h => R.run pins s σ H D I ?_⟩
  refine ⟨_, h, fun v H1 q => ⟨by show 1 ≤ 1000; decide, fun a na => ⟨a, v, rfl, upd_same, fun d nd ne => ⟨rfl, d, [(f, v)], upd_same, ?_, ?_, ?_⟩⟩⟩⟩
  · rw [upd_ne ne, upd_same]
  · rw [upd_ne ne] at nd; exact nd
  · rw [upd_ne ne] at nd
    rw [left1 na]
    exact q d nd
end
end Er
set_option Elab.async false
set_option maxRecDepth 100000
set_option autoImplicit false
/-! try: .. except G as n: y = n, and y is looked at behind it: the error stays in sight. -/
namespace Er
open PySem L2 PySem.Spec PyProof.Rows PySem.Calls
/-- at a: a caught error of the class cls, with the dict d -/
def keptE (cls : Value) (d : Option Addr) (a : Addr) : HO := .ext fun h => ∃ (oe : Obj) (vs : Array Value), h.get? a = some oe ∧ Zc cls d oe ∧ oe.data = .fields vs
section
variable {X : Cx} {pins : List (Addr × Obj)} {σ : L2.St} {H : Hp} {s : Shared}
theorem kept_ok {P : Program} {w : World} {G : Hp} {h : Heap} {a : Addr} {cls : Value} {d : Option Addr} {oe : Obj} {vs : Array Value} (e : h.get? a = some oe) (z : Zc cls d oe) (dd : oe.data = .fields vs) : ObjOk P w G h a (keptE cls d a) :=
  ⟨⟨oe, vs, e, z, dd⟩, ⟨oe, e⟩, fun h1 h2 ⟨o1, v1, e1, z1, d1⟩ k => ⟨o1, v1, k _ e1, z1, d1⟩⟩
/-- an object of none of the tracked ones, made behind the entry, comes into sight -/
theorem track {a : Addr} {o : HO} {ob : Obj} {vs : Array Value} (I : Inv X pins σ H s) (hx : X.ex = []) (old : X.s_0.heap.get? a = none) (na : H a = none) (nl : a ≠ X.env.locals) (ha : s.heap.get? a = some ob) (hd : ob.data = .fields vs) (np : ∀ p ∈ X.pn ++ pins, p.1 ≠ a)
    (new : ObjOk X.prog X.w (upd H a o) s.heap a o) : Inv X pins σ (upd H a o) s := by
  have off : ∀ {b : Addr} {u : HO}, H b = some u → upd H a o b = some u := fun {b u} e => by rw [upd_ne (ne_of_none e na)]; exact e
  refine ⟨I.ok, I.os, I.bare, ⟨I.base.keep, I.base.slot, fun b u e n x => ?_, I.base.there, fun b xs e => off (I.base.tups b xs e), fun b u v e => off (I.base.frzs b u v e), fun b ps e => ?_⟩, I.loc, I.cell, ?_, fun x c e => ?_, fun p hp => ?_, I.hok.laidN (fun b u e => e) na new, I.len⟩
  · have ne : b ≠ a := by
      rintro rfl
      rw [old] at e; cases e
    rw [upd_ne ne]
    exact I.base.free b u e n x
  · obtain ⟨more, q⟩ := I.base.tbls b ps e
    exact ⟨more, off q⟩
  · rw [upd_ne nl.symm]; exact I.free
  · have ne : c ≠ a := by
      rintro rfl
      obtain ⟨v, oc, e1, e2⟩ := I.cell x c e
      rw [ha] at e1
      cases e1
      rw [hd] at e2; cases e2
    rw [upd_ne ne]; exact I.freeC x c e
  · obtain ⟨q1, q2, q3⟩ := I.pin p hp
    exact ⟨q1, by rw [upd_ne (np p hp)]; exact q2, q3⟩
end
end Er
set_option Elab.async false
set_option maxRecDepth 100000
set_option autoImplicit false
namespace Er
open PySem L2 PySem.Spec PyProof.Rows PySem.Calls
/-- what 'except G as n: y = n' wishes of an error of the body: i is n's slot, j is y's -/
def wKeep (K : PySem.W.Frag) (c : Value) (i j m : Nat) (Wout : WX) (D : Ends) : WX := fun cls d σ H =>
  ∃ b, PySem.W.exmOne K cls c = some b ∧ (b = true → σ.length = m → ∀ a, H a = none → D.nx (((σ.set i (some (.ref a))).set j (some (.ref a))).set i none) (upd H a (keptE cls d a))) ∧ (b = false → Wout cls d σ H)
section
variable {X : Cx} {x n y : Str} {c : Value} {i j : Nat} {body : List Stmt} {np yp np2 sp pos pos' : Pos} {tb : WX → TS} {Wout : WX}
theorem ps_try_keep (hs : X.stack = X.env :: X.outer) (hf : X.env.frame = some X.env.locals) (hex : X.ex = []) (hN : X.N.Nodup) (hi : X.N[i]? = some n) (hj : X.N[j]? = some y) (hln : X.env.kindOf n = some .local) (hly : X.env.kindOf y = some .local) (hc : Names X x c) (tk : Takes X Wout)
    (hdn : (n == ("__debug__" : Str)) = false) (hcn : (n == ("__classdict__" : Str)) = false) (hsw : swapsWith (.Name n np2) (some (.Name y yp)) sp.line X.env = pure false)
    (hb : ∀ (W : WX) (pn : List (Addr × Obj)) (xe : Value → Shared → Prop), Takes (X.tr pn xe) W → PassesOwn (model X.prog X.w) X.A X.env xe → PSs (X.tr pn xe) body (tb W)) :
    PS X (.Try body [.ExceptHandler (some (.Name x np)) (some n) [.Assign [.Name y yp] (.Name n np2) sp] pos'] [] [] pos) (fun D σ H => tb (wKeep X.K c i j X.N.length Wout D) D σ H) := by
  constructor
  intro pins s σ H D I h
  have fine := I.ok
  have frames : X.A.frames = some (X.env :: X.outer) := fine.frames.trans (congrArg some hs)
  have run := (hb (wKeep X.K c i j X.N.length Wout D) (X.pn ++ pins) (fun e s₁ => wpAny (model X.prog X.w) X.A (noteFrame e X.env) (fun _ s₂ => wpAny (model X.prog X.w) X.A (setFlight e none) (fun _ s₃ =>
    wpAny (model X.prog X.w) X.A (handleBy e X.env [.ExceptHandler (some (.Name x np)) (some n) [.Assign [.Name y yp] (.Name n np2) sp] pos']) (SP X pins D) X.xe s₃) X.xe s₂) X.xe s₁) ?hit PassesOwn.looking).run [] s σ H D (I.toTry _) h
  case hit =>
    rintro u s' ⟨a, B, sI, pins1, σ1, H1, cls, d, rfl, J0, ground, up0, sky0, na, os, ag, b, test, yes, no⟩
    have J : Inv X pins σ1 H1 sI := J0.ofTry fine
    have sky : Sky B (X.env :: X.outer) a (Zc cls d) X.env.locals s'.heap := hs ▸ sky0
    show wpAny (model X.prog X.w) X.A (noteFrame (.ref a) X.env) _ _ _
    refine Sky.land Zc.steady frames hf sky fun g3 fly3 up3 => ?_
    have J3 : Inv X pins σ1 H1 { s' with heap := g3 } := J.landed ground fly3.1 (up0.trans up3) os ag
    obtain ⟨o3, v3, e3, z3, d3⟩ := fly3.there
    have away : a ∉ frs (X.env :: X.outer) := fun mem => by
      obtain ⟨_, o, e, no_⟩ := fly3.2.2.1.mem mem
      rw [e3] at e; cases e
      exact no_ _ d3
    have awayL : a ≠ X.env.locals := fun z => away (List.mem_filterMap.mpr ⟨X.env, List.mem_cons_self, hf.trans (congrArg some z.symm)⟩)
    have awayF : a ∉ X.fs := fun mem => by
      obtain ⟨e, m1, m2⟩ := List.mem_filterMap.mp mem
      exact away (List.mem_filterMap.mpr ⟨e, List.mem_cons_of_mem _ m1, m2⟩)
    -- the error is younger than the entry
    have young : sI.heap.get? a = none := by
      cases q : sI.heap.get? a with
      | none => rfl
      | some o =>
        have qB := ground a o q (by rw [hs]; exact away)
        rw [fly3.2.1] at qB; cases qB
    have entry : X.s_0.heap.get? a = none := by
      cases q : X.s_0.heap.get? a with
      | none => rfl
      | some o =>
        obtain ⟨o', q'⟩ := J.base.there a o q (by rw [hex]; exact List.not_mem_nil)
        rw [young] at q'; cases q'
    have apart : ∀ p ∈ X.pn ++ pins, p.1 ≠ a := fun p hp z => by
      have q := (J.pin p hp).1
      rw [z, young] at q; cases q
    have S3 := J3.suite e3 d3 na awayL awayF
    refine wpAny_handleBy_cons (codeAny_handlers_test ?_) (by intro q; cases q)
    have LT : PySem.W.Looks (model X.prog X.w) g3 (typeOf (.ref a)) cls := fun _ _ _ _ k q => wpAny_typeOf_ref (k _ _ e3) (by rw [z3.1]; exact q)
    have LM := PySem.W.exm_one (M := model X.prog X.w) J3.kIn LT test
    have named : ∀ {Q : Value → Shared → Prop} {E : Value → Shared → Prop}, Q c { s' with heap := g3 } → wpAny (model X.prog X.w) (X.A.mark (some (.ref a))) (eval (.Name x np) X.env) Q E { s' with heap := g3 } := fun {Q E} q => by
      rcases hc with ⟨hg, hdbg, hm | ⟨hm, hv, hnn⟩⟩
      · exact ld_glob (X := X.suite a ((a, o3) :: (X.pn ++ pins))) S3 hg hm q hdbg
      · exact ld_blt (X := X.suite a ((a, o3) :: (X.pn ++ pins))) S3 hg hm hv q hnn hdbg
    refine named (LM.here ?_)
    cases b with
    | true =>
      refine codeAny_handlers_suite_as (HandSPX.lands_againZ fly3 fun g4 fly4 up4 => ?_)
      have J4 : Inv X pins σ1 H1 { s' with heap := g4 } := J.landed ground fly4.1 ((up0.trans up3).trans up4) os ag
      obtain ⟨o4, v4, e4, z4, d4⟩ := fly4.there
      have S4 := J4.suite e4 d4 na awayL awayF
      refine store_ok (X := X.suite a ((a, o4) :: (X.pn ++ pins))) (v := .ref a) S4 hN hi (.inl hln) rfl (fun s5 S5 => ?_) (.inr hln)
      have il : i < σ1.length := by
        rw [S4.len]
        exact (List.getElem?_eq_some_iff.mp hi).1
      have one := pss_one (X := X.suite a ((a, o4) :: (X.pn ++ pins))) (ps_set (pos := sp) (pos' := yp) (i := j) hN hj (.inl hly) (pe_var (i := i) (pos := np2) hi (.inl hln) hdn hcn) hsw (.inr hly))
      refine wpAny_mono (one.run [] s5 _ H1 { nx := fun σ' H' => σ' = (σ1.set i (some (.ref a))).set j (some (.ref a)) ∧ H' = H1, rt := fun _ _ => False } S5 ⟨.ref a, by rw [List.getElem?_set_self il], rfl, rfl⟩) (fun fl s6 got => ?_) (fun _ _ z => False.elim z)
      cases fl with
      | next =>
        obtain ⟨_, _, S6, rfl, rfl⟩ := got
        have there := (S6.pin (a, o4) (List.mem_append_left _ List.mem_cons_self)).1
        exact gone_ok (track (S6.unsuite fine) hex entry na awayL there d4 apart (kept_ok there z4 d4)) hN hi hln fun s7 J7 => ⟨_, _, J7, yes rfl S4.len a na⟩
      | ret u => obtain ⟨_, _, _, _, _, z⟩ := got; exact z.elim
      | brk => obtain ⟨_, _, _, z⟩ := got; exact z.elim
      | cont => obtain ⟨_, _, _, z⟩ := got; exact z.elim
    | false =>
      show wpAny (model X.prog X.w) X.A (handleBy (.ref a) X.env []) _ _ _
      refine wpAny_handleBy_nil ?_
      obtain ⟨_, _, _, oe, vs, T, oT, us, q1, q2, q3, q4, q5⟩ := id fly3
      unfold PySem.passOn
      refine wpAny_bind (wpAny_field q1 q3 q4 ?_)
      rw [if_neg (by simp)]
      have out : wpAny (model X.prog X.w) X.A (setFlight (.ref a) X.env.frame) (fun _ s4 => wpAny (model X.prog X.w) X.A (throw (.ref a) : Sem Flow) (SP X pins D) X.xe s4) X.xe { s' with heap := g3 } := by
        rw [hf]
        exact HandSPX.setFlight_upZ fly3 fun g4 held up4 => wpAny_throw (tk _ _ ⟨a, B, sI, pins, σ1, H1, cls, d, rfl, J, ground, (up0.trans up3).trans up4, .inr (.inr (by rw [hs]; exact held)), na, os, ag, no rfl⟩)
      first
        | exact wpAny_bind (wpAny_pure (wpAny_bind out))
        | exact wpAny_bind out
  refine wpAny_Try_except (wpAny_mono run (fun f s1 got => ?_) fun e s1 he => he)
  cases f with
  | next => obtain ⟨σ', H', J', q⟩ := got; exact wpAny_execs_nil ⟨σ', H', J'.ofTry fine, q⟩
  | brk => obtain ⟨σ', H', J', q⟩ := got; exact ⟨σ', H', J'.ofTry fine, q⟩
  | cont => obtain ⟨σ', H', J', q⟩ := got; exact ⟨σ', H', J'.ofTry fine, q⟩
  | ret u => obtain ⟨v, σ', H', J', r, q⟩ := got; exact ⟨v, σ', H', J'.ofTry fine, r, q⟩
end
end Er
set_option Elab.async false
set_option maxRecDepth 100000
set_option autoImplicit false
namespace Er
open PySem L2 PySem.Spec PyProof.Rows PySem.Calls
/-- what is written of a class of errors, so that its errors may be asked what they are -/
structure KeptC (K : PySem.W.Frag) (C : Addr) : Prop where
  xf : XfC K C
  cls : (PySem.W.clsIn K C).isSome = true
  at_ : PySem.W.findIn K (.ref C) "__class__" = some (some (.builtin "object.__class__"))
  get : PySem.W.specialIn K (.builtin "object.__class__") "__get__" = some (some (.builtin "getset_descriptor.__get__"))
  tak : PySem.W.takesIn K (.builtin "object.__class__") = some true
  obj : PySem.W.mroIn K C (.type "object") = some true
/-- at a: such an error, its fields fs -/
def KeptAt (H : Hp) (a C d : Addr) (fs : List (Str × V)) : Prop := H a = some (keptE (.ref C) (some d) a) ∧ H d = some (.xd fs)
def rIsErr (K : PySem.W.Frag) : List V → Hp → VK → Prop := fun xs H Q => ∃ (a C d : Addr) (fs : List (Str × V)) (c : V) (cv : Value) (b : Bool), xs = [.ref a, c] ∧ KeptAt H a C d fs ∧ KeptC K C ∧ ClsV c cv ∧ PySem.W.kitOne K (.ref C) cv = some b ∧ Q (.bl b) H
section
variable {X : Cx} {pins : List (Addr × Obj)} {σ : L2.St} {H : Hp} {s : Shared}
theorem inst_of {a C d : Addr} {fs : List (Str × V)} (I : Inv X pins σ H s) (k : KeptAt H a C d fs) : ∃ (oe od : Obj) (mA : Str → Option Value), PySem.W.InstAt s.heap a oe C (some od) ∧ (∀ f, PySem.W.lookIn f od = some (mA f)) ∧ ∀ f, RelO (fs.lookup f) (mA f) := by
  have oa := I.hok a _ k.1
  obtain ⟨⟨oe, vs, ha, hz, hd⟩, _, _⟩ := oa
  have hx : ObjOk X.prog X.w H s.heap d (.xd fs) := I.hok d _ k.2
  obtain ⟨mA, hns, hr⟩ := hx
  obtain ⟨od, ho, hl⟩ := lookIn_ns hns
  exact ⟨oe, od, mA, ⟨ha, hz.1, by unfold PySem.W.notCls; rw [hd] <;> rfl, by rw [hz.2]; exact ho⟩, hl, hr⟩
theorem call_isErr : CallR X (.builtin "isinstance") (rIsErr X.K) := by
  rintro pins s σ H xs us Q I r ⟨a, C, d, fs, c, cv, b, rfl, k, T, kc, e, q⟩
  obtain ⟨u1, u2, rfl, r1, r2⟩ := vals2 r
  obtain rfl : u1 = Value.ref a := r1
  have e2 := kc.eq r2
  subst e2
  obtain ⟨oe, od, mA, J, _, _⟩ := inst_of I k
  exact PySem.W.kia_one (PySem.W.kitx_exc (ox := oe) (od := some od) T.cls T.xf.ga T.xf.gg T.xf.exC T.at_ T.get T.tak T.obj) I.kIn J e (fun z => by cases z) fun tk => ⟨.bl b, H, I.tok tk, rfl, q⟩
/-- e.f, e such an error -/
def tKf (K : PySem.W.Frag) (f : Str) (te : TE) : TE := fun σ H Q => te σ H fun x H1 => ∃ a C d fs v, x = .ref a ∧ KeptAt H1 a C d fs ∧ XfC K C ∧ PySem.W.findIn K (.ref C) f = some none ∧ fs.lookup f = some v ∧ Q v H1
theorem pe_kf {e : Expr} {te : TE} {f : Str} {pos : Pos} (he : PE X e te) (hb : attributeBase e f X.env (eval e X.env) = eval e X.env := by rfl) : PE X (.Attribute e f pos) (tKf X.K f te) := by
  refine ⟨fun pins s σ H Q I h => attr_of hb (thn (he.run pins s σ H _ I h) ?_)⟩
  rintro u s1 ⟨x, H1, I1, rx, a, C, d, fs, v, rfl, k, T, no, l, q⟩
  obtain rfl : u = Value.ref a := rx
  obtain ⟨oe, od, mA, J, look, rel⟩ := inst_of I1 k
  obtain ⟨z, hz, rz⟩ := RelO.some_of (v := v) (o := mA f) (by rw [← l]; exact rel f)
  exact HandSPX.exc_get I1.kIn J T.ga T.gg T.exC (PySem.W.findObj_own T.hdC no rfl (by rw [look, hz])) (handed_of rz) ⟨v, H1, I1.tok _, rz, q⟩
end
end Er
set_option Elab.async false
set_option maxRecDepth 100000
set_option autoImplicit false
/-! Rules: str(x) by an own __str__; x == y by an own __eq__, y anything; list(text); text * number; x is True. -/
namespace Ru
open PySem L2 PySem.Spec PyProof.Rows Rg
section
variable {prog : Program} {w : World} {A : Around} {E : Value → Shared → Prop} {s : Shared} {K : PySem.W.Frag} {x C f : Addr} {ox : Obj} {od : Option Obj}
theorem strOf_own (hu : A.units < cLine) {Q : Value → Shared → Prop} (X : K.In s.heap) (I : PySem.W.InstAt s.heap x ox C od) (hs : PySem.W.findIn K (.ref C) "__str__" = some (some (.ref f))) (hf : PySem.W.isFn K (.ref f) = true)
    (h : wpAny (model prog w) A (call (.ref f) [.ref x]) (fun r s₁ => ∃ z t, r = Value.str z t ∧ Q r s₁) E s) : wpAny (model prog w) A (Builtin.Str.strOf (.ref x)) Q E s := by
  unfold Builtin.Str.strOf
  rw [show Builtin.Str.isExactStr (.ref x) = false from rfl]
  refine wpAny_bind (m := cRoomFor _ _) (wpAny_cRoomFor hu ?_)
  refine wpAny_bind (m := callSpecial? (.ref x) (Str.ofString "__str__")) (PySem.W.special_fn X I hs (beq_iff_eq.mp hf) (wpAny_mono h (fun r s₁ h₁ => ?_) fun _ _ e => e))
  obtain ⟨z, t, rfl, hq⟩ := h₁
  exact wpAny_pure hq
theorem str_own (hu : A.units + 2 < cLine) {Q : Value → Shared → Prop} (X : K.In s.heap) (I : PySem.W.InstAt s.heap x ox C od) (hs : PySem.W.findIn K (.ref C) "__str__" = some (some (.ref f))) (hf : PySem.W.isFn K (.ref f) = true)
    (h : wpAny (model prog w) A.in1.in1 (call (.ref f) [.ref x]) (fun r s₁ => ∃ z t, r = Value.str z t ∧ Q r s₁) E s) : wpAny (model prog w) A (call (.type "str") [.ref x]) Q E s := by
  refine callType_codes (T := "str") (Bi := Builtin.«object.__init__») (Q₁ := fun r s₁ => ∃ n u, r = Value.str n u ∧ Q r s₁) PySem.F.called_str (PySem.F.typeCall_str_1 _) PySem.F.entry_object_init ?_ ?_
  · refine codeAny_of_tree ?_
    show wpAny _ A.in1.in1 (do checkBuiltinCall "str.__new__" ⟨[.type "str", .ref x], []⟩; again (.builtin "str.__new__" ⟨[.type "str", .ref x], []⟩)) _ _ s
    refine wpAny_bind (wpAny_of_eq (PySem.F.newCall_str_1 _) (wpAny_pure ⟨plainId_quiet (by decide +kernel) _, codeAny_builtin PySem.F.entry_str_new ?_⟩))
    rw [Around.under_plainId (by decide +kernel) _, str_new_tree]
    refine wpAny_bind (wpAny_pure ?_)
    refine wpAny_bind (wpAny_of_eq isSubtype_str_str ?_)
    refine wpAny_bind (strOf_own (by show A.units + 1 + 1 < cLine; omega) X I hs hf (wpAny_mono h (fun r s₁ hr => ?_) fun _ _ y => y))
    obtain ⟨n, u, rfl, hq⟩ := hr
    exact ⟨n, u, rfl, wpAny_pure ⟨n, u, rfl, hq⟩⟩
  · rintro obj s₁ ⟨n, u, rfl, hq⟩
    exact ⟨typeIs_str _ _ _, PySem.F.args_object_init_2 _ _, object_init_meets PySem.F.called_str.init.lookup PySem.F.called_str.made (by decide) prog w A.in1 _ s₁ ⟨typeIs_str _ _ _, rfl, hq⟩⟩
end
section
variable {X : Cx} {CX : CXT} {k : Nat} {C f : Addr} {fd : FuncData} {ps : List Str} {sp : Sp} {E : XK} {pins : List (Addr × Obj)} {σ : L2.St} {H : Hp} {s : Shared}
/-- a def of the text, run within A -/
theorem runAt {A : Around} {Q : VK} {us : List Value} {vs : List V} (F : FnOk X.prog X.w X.K X.mg X.base CX k f fd ps sp) (room : Room k A) (e0 : Env0 X.prog X.w X.K X.mg X.base A X.stack s H) (bd : Binds X.K fd ps []) (ex : Passes CX X E)
    (I : Inv X pins σ H s) (r : Vals vs us) (want : sp vs H Q E) : wpAny (model X.prog X.w) A (call (.ref f) us) (EP X pins σ Q) X.xe s := by
  have len : us.length = ps.length := r.length.symm.trans (F.len _ _ _ _ want)
  have bt : BindsTo s fd ⟨us, []⟩ (ps.zip us) := by
    have z := bd s us I.kIn (by rw [List.append_nil]; exact len)
    rw [List.append_nil] at z
    exact z
  refine wpAny_call (codeAny_mono (F.run A X.stack s H ⟨us, []⟩ us vs Q E room e0 bt r want) fun res s' got => ?_)
  rcases res with e | fl
  · exact ex pins σ H s e s' I got
  · cases fl <;> first | exact I.after got | exact False.elim got
/-- str(o), o an instance of the class at C -/
def rStrOwn (C : Addr) (sp : Sp) (E : XK) : List V → Hp → VK → Prop := fun xs H Q => ∃ a dx fs, xs = [.ref a] ∧ H a = some (.ins C dx fs) ∧ sp [.ref a] H (fun v H' => ∃ z : Str, v = .str z ∧ Q (.str z) H') E
theorem call_strOwn (F : FnOk X.prog X.w X.K X.mg X.base CX k f fd ps sp) (room : Room (k + 2) X.A) (bd : Binds X.K fd ps []) (ex : Passes CX X E)
    (at_ : PySem.W.findIn X.K (.ref C) "__str__" = some (some (.ref f))) (fn : PySem.W.isFn X.K (.ref f) = true) : CallR X (.type "str") (rStrOwn C sp E) := by
  rintro pins s σ H xs us Q I r ⟨a, dx, fs, rfl, e, want⟩
  obtain ⟨od, J⟩ := instAt I e
  cases r with
  | cons r0 r1 =>
    cases r1
    cases r0
    have hr2 : Room k X.A.in1.in1 := (show Room (k + 1) X.A.in1 from Room.in1 room).in1
    refine str_own (by have := room.un; omega) I.kIn J at_ fn (thn (runAt F hr2 I.env0.in1.in1 bd ex I (.cons (rvRef a) .nil) want) ?_)
    rintro u s' ⟨v, H', I', rv, z, rfl, q⟩
    obtain ⟨t, rfl⟩ := rv
    exact ⟨z, t, rfl, .str z, H', I', ⟨t, rfl⟩, q⟩
/-- o == y, y of another kind, or of the class itself -/
def rEqOwn (K : PySem.W.Frag) (C : Addr) (sp : Sp) (E : XK) : R2 := fun x y H Q => ∃ a dx fs t, x = .ref a ∧ H a = some (.ins C dx fs) ∧ TyX K H y t ∧ PySem.W.notFirst K C t = true ∧ sp [x, y] H (fun v H' => ∃ b, v = .bl b ∧ Q (.bl b) H') E
theorem op_eqOwn (F : FnOk X.prog X.w X.K X.mg X.base CX k f fd ps sp) (room : Room k X.A) (bd : Binds X.K fd ps []) (ex : Passes CX X E)
    (at_ : PySem.W.findIn X.K (.ref C) "__eq__" = some (some (.ref f))) (fn : PySem.W.isFn X.K (.ref f) = true) : OpR X (compareOp .Eq) (rEqOwn X.K C sp E) := by
  rintro pins s σ H x y v u Q I rx ry ⟨a, dx, fs, t, rfl, e, ty, nf, want⟩
  obtain rfl : v = Value.ref a := rx
  obtain ⟨od, J⟩ := instAt I e
  obtain ⟨m, hF⟩ := I.fr
  show wpAny (model X.prog X.w) X.A (richCompare .Eq (.ref a) u) (EP X pins σ Q) X.xe s
  obtain ⟨P0, kx, hp, _⟩ := kit_of I ry ty
  refine PySem.W.cmp_K (op := .Eq) (tb := t) room.units0 hF I.ok.mod.kin J (kx.ty _ _ I.kIn hp) nf at_ fn ?_
  refine thn (runAt F room I.env0 bd ex I (.cons (rvRef a) (.cons ry .nil)) want) ?_
  rintro z s' ⟨v', H', I', rv, b, rfl, q⟩
  obtain rfl : z = Value.bool b := rv
  exact ⟨.bl b, H', I', rfl, q⟩
theorem signs_at : ∀ {us : List Value} {cs : List Nat}, us.length = cs.length → (∀ (j : Nat) (v : Value), us[j]? = some v → ∃ (c : Nat) (u : Tok), cs[j]? = some c ∧ v = .str ⟨#[c]⟩ u) → Vals (cs.map fun c => V.str ⟨#[c]⟩) us
  | [], [], _, _ => .nil
  | u :: us, c :: cs, hl, h => by
    refine .cons ?_ (signs_at (by simpa using hl) fun j v e => ?_)
    · obtain ⟨c', t, h1, h2⟩ := h 0 u rfl
      cases h1
      exact ⟨t, h2⟩
    · obtain ⟨c', t, h1, h2⟩ := h (j + 1) v (by simpa using e)
      exact ⟨c', t, by simpa using h1, h2⟩
/-- list(text) -/
def rListS : List V → Hp → VK → Prop := fun xs H Q => ∃ z : Str, xs = [.str z] ∧ z.length ≤ sizeLine ∧ ∀ l, H l = none → Q (.ref l) (upd H l (.lst (z.cps.toList.map fun c => V.str ⟨#[c]⟩)))
theorem call_listS (hc : X.calm = true) : CallR X (.type "list") rListS := by
  rintro pins s σ H xs us Q I r ⟨z, rfl, few, q⟩
  obtain ⟨u, rfl, t, rfl⟩ := vals1 r
  refine call_list_str (I.ok.hd hc) z t (hn := few) fun h' tk acc c' hk hD hacc => ?_
  have hv : Vals (z.cps.toList.map fun c => V.str ⟨#[c]⟩) acc.toList := signs_at (by rw [Array.length_toList, Array.length_toList]; exact hacc.1) fun j v e => by
    obtain ⟨c, u, h1, h2⟩ := hacc.2 j v (by rw [← Array.getElem?_toList]; exact e)
    exact ⟨c, u, by rw [Array.getElem?_toList]; exact h1, h2⟩
  exact ⟨.ref s.heap.objs.size, _, I.laid (t' := tk) hk (Nat.le_refl _) (show ObjOk X.prog X.w _ _ _ (.lst (z.cps.toList.map fun c => V.str ⟨#[c]⟩)) from ⟨by simpa [Str.length] using few, acc.toList, c', hv, by rw [Array.toArray_toList]; exact hD⟩), rfl, q _ (I.hok.fresh (Nat.le_refl _))⟩
/-- text * 0, text * 1 -/
def rMul1 : R2 := fun x y H Q => ∃ (z : Str) (b : Bool), x = .str z ∧ y = .int (if b then 1 else 0) ∧ Q (.str (if b then z else Str.empty)) H
theorem op_mul1 : OpR X (binaryOp .Mult) rMul1 := by
  rintro pins s σ H x y v u Q I rx ry ⟨z, b, rfl, rfl, q⟩
  obtain ⟨t, rfl⟩ := rx
  obtain ⟨t', rfl⟩ := ry
  cases b with
  | true =>
    refine PySem.P.mul_str (by decide) (fun _ h => absurd h (by simp)) (fun _ h => absurd h (by simp)) ?_
    exact ⟨.str z, H, I, ⟨t, rfl⟩, q⟩
  | false =>
    refine PySem.P.mul_str (by decide) (fun h => absurd (by decide) h) (fun h => absurd (by decide) h) ?_
    exact ⟨by decide, .str Str.empty, H, I.tok _, ⟨_, rfl⟩, q⟩
/-- x is y, y a truth, x a truth or a text -/
def rIsBS : R2 := fun x y H Q => ∃ b, y = .bl b ∧ ((∃ a, x = .bl a) ∨ ∃ z, x = .str z) ∧ Q (.bl (decide (x = y))) H
theorem op_isBS : OpR X (compareOp .Is) rIsBS := by
  rintro pins s σ H x y v u Q I rx ry ⟨b, rfl, hx, q⟩
  obtain rfl : u = Value.bool b := ry
  rcases hx with ⟨a, rfl⟩ | ⟨z, rfl⟩
  · obtain rfl : v = Value.bool a := rx
    by_cases e : a = b
    · subst e
      exact wpAny_is_self rfl ⟨.bl true, H, I, rfl, by simpa using q⟩
    · exact wpAny_is_other rfl (fun z => e (Value.bool.inj z)) ⟨.bl false, H, I, rfl, by simpa [e] using q⟩
  · obtain ⟨t, rfl⟩ := rx
    exact wpAny_is_other rfl (fun z => nomatch z) ⟨.bl false, H, I, rfl, by simpa using q⟩
end
end Ru
set_option Elab.async false
set_option maxRecDepth 100000
namespace Kx
open PySem L2 PySem.Spec PyProof.Rows Rg
def top (i : Nat) : Stmt := PySem.Challenge.pw_rowgames_k02_weights_made.main.body.getD i (.Pass ⟨0, 0, 0, 0⟩)
abbrev sPen : Stmt := top 18
abbrev sDraw : Stmt := top 19
abbrev sPick : Stmt := top 20

/-! ### heaps that grow, but for the pen -/
def Ext1 (p : Addr) (H H' : Hp) : Prop := ∀ b o, b ≠ p → H b = some o → H' b = some o
theorem Ext1.refl (p : Addr) (H : Hp) : Ext1 p H H := fun _ _ _ e => e
theorem Ext1.trans {p : Addr} {H H1 H2 : Hp} (a : Ext1 p H H1) (b : Ext1 p H1 H2) : Ext1 p H H2 := fun c o n e => b c o n (a c o n e)
theorem Ext1.new {p q : Addr} {H : Hp} {o : HO} (h : H q = none) : Ext1 p H (upd H q o) := fun b u _ e => by rw [upd_ne (ne_of_none e h)]; exact e
theorem Ext1.put {p : Addr} {H : Hp} {o : HO} : Ext1 p H (upd H p o) := fun b u n e => by rw [upd_ne n]; exact e

/-- at p the pen: at most n cells were taken -/
def PenAt (c : Addr) (n : Nat) (H : Hp) (p : Addr) : Prop := ∃ (ns : List Int) (a g : Int), H p = some (.lst [.ref c, .int a, .int g]) ∧ H c = some (.lst (ns.map V.int)) ∧ c ≠ p ∧ ns.length ≤ 63 ∧ 0 ≤ a ∧ a ≤ n
theorem PenAt.mono {c : Addr} {n m : Nat} {H : Hp} {p : Addr} (h : PenAt c n H p) (l : n ≤ m) : PenAt c m H p := by
  obtain ⟨ns, a, g, h1, h2, h3, h4, h5, h6⟩ := h
  exact ⟨ns, a, g, h1, h2, h3, h4, h5, by omega⟩
theorem PenAt.ext {c : Addr} {n : Nat} {H H' : Hp} {p : Addr} (h : PenAt c n H p) (e : ∀ b o, H b = some o → H' b = some o) : PenAt c n H' p := by
  obtain ⟨ns, a, g, h1, h2, h3⟩ := h
  exact ⟨ns, a, g, e _ _ h1, e _ _ h2, h3⟩
theorem PenAt.new {c : Addr} {n : Nat} {H : Hp} {p q : Addr} {o : HO} (h : PenAt c n H p) (f : H q = none) : PenAt c n (upd H q o) p := h.ext fun b u e => by rw [upd_ne (ne_of_none e f)]; exact e

/-! ### what the built-in names are -/
structure Txt (mg : Str → Option Value) : Prop where
  len : mg "len" = none
  int : mg "int" = none
  abs : mg "abs" = none
  list : mg "list" = none
  tuple : mg "tuple" = none
  range : mg "range" = none
  repr : mg "repr" = none
  isi : mg "isinstance" = none
  all : mg "all" = none
  set : mg "set" = none

/-! ### _law_draw -/
def spDraw : Sp := fun vs H Q _ => ∃ (c p : Addr) (m : Int) (n : Nat), vs = [.ref p, .int m] ∧ 0 < m ∧ m < 1000000 ∧ n ≤ 1000000 ∧ PenAt c n H p ∧ ∀ r H', 0 ≤ r → r < m → PenAt c (n + 1) H' p → Ext1 p H H' → Q (.int r) H'

theorem dpInts (K : PySem.W.Frag) (H : Hp) : ∀ ns : List Int, DpAll K H (ns.map V.int) (ns.map PyData.int)
  | [] => .nil
  | n :: r => .cons (.int n) (dpInts K H r)
theorem layInts : ∀ ns : List Int, PyData.canLayAll0 (ns.map PyData.int) = true
  | [] => rfl
  | _ :: r => layInts r
theorem depthInts : ∀ ns : List Int, PyData.depthAll (ns.map PyData.int) = 0
  | [] => rfl
  | _ :: r => by
    show max 0 (PyData.depthAll (r.map PyData.int)) = 0
    rw [depthInts r] <;> rfl
theorem shapedInts (ns : List Int) : SeqAt.shaped (.list (ns.map PyData.int)) = true := by
  show (PyData.canLayAll0 (ns.map PyData.int) && decide (PyData.depthAll (ns.map PyData.int) + 1 ≤ 64)) = true
  rw [layInts, depthInts] <;> rfl
theorem mixed1 {z a c d n : Int} (n0 : 0 < n) (nb : n < 2 ^ 32) (c0 : 0 ≤ c) (cb : c ≤ 100000) (d0 : 0 ≤ d) (db : d ≤ 100000) (a0 : 0 ≤ a) (ab : a ≤ 1000000) : (z % n + c * a + d).natAbs < 2 ^ 64 := by
  have h1 := Int.emod_nonneg z (b := n) (by omega)
  have h2 := Int.emod_lt_of_pos z n0
  have h3 : c * a ≤ 100000 * 1000000 := Int.mul_le_mul cb ab a0 (by omega)
  have h4 : 0 ≤ c * a := Int.mul_nonneg c0 a0
  omega
theorem mixed2 {x a b c d n : Int} (x0 : 0 ≤ x) (xb : x < n) (nb : n < 2 ^ 32) (b0 : 0 ≤ b) (bb : b ≤ 100000) (c0 : 0 ≤ c) (cb : c ≤ 100000) (d0 : 0 ≤ d) (db : d ≤ 100000) (a0 : 0 ≤ a) (ab : a ≤ 1000000) : (x * (2 * a + b) + c * a * a + d).natAbs < 2 ^ 64 := by
  have h1 : x * (2 * a + b) ≤ 2 ^ 32 * 2100000 := Int.mul_le_mul (by omega) (by omega) (by omega) (by omega)
  have h2 : 0 ≤ x * (2 * a + b) := Int.mul_nonneg x0 (by omega)
  have h3 : c * a ≤ 100000 * 1000000 := Int.mul_le_mul cb ab a0 (by omega)
  have h4 : 0 ≤ c * a := Int.mul_nonneg c0 a0
  have h5 : c * a * a ≤ 100000 * 1000000 * 1000000 := Int.mul_le_mul h3 ab a0 (by omega)
  have h6 : 0 ≤ c * a * a := Int.mul_nonneg h4 a0
  omega
theorem atMod {ns : List Int} (a : Int) (pos : 0 < ns.length) : ∃ z, atI (ns.map V.int) (a % (ns.length : Int)) = some (.int z) := by
  have h1 := Int.emod_nonneg a (b := (ns.length : Int)) (by omega)
  have h2 := Int.emod_lt_of_pos a (b := (ns.length : Int)) (by omega)
  generalize a % (ns.length : Int) = j at h1 h2
  have hj : j.toNat < ns.length := by omega
  refine ⟨ns[j.toNat], ?_⟩
  have e : (j.toNat : Int) = j := by omega
  have q : atI (ns.map V.int) ((j.toNat : Nat) : Int) = some (.int ns[j.toNat]) := atI_nat (by simp [hj])
  rw [e] at q
  exact q
theorem eqv_nil (ns : List Int) : PyData.eqv (.list (ns.map PyData.int)) (.list []) = ns.isEmpty := by
  cases ns with
  | nil => rfl
  | cons a t => rfl
section
variable {P : Program} {w : World} {K : PySem.W.Frag} {mg : Str → Option Value} {base : Heap}
theorem scDraw : FnScope ["_law_pen_here", "_law_many", "_law_digit", "_law_taken", "_law_cell", "_law_great", "_law_mixed"] ["_law_pen_here", "_law_many"] (defScope sDraw) := ⟨rfl, rfl, rfl, by decide +kernel, rfl, by decide +kernel, by decide +kernel⟩
theorem bLen {X : Cx} {e : Expr} {te : TE} {p pos : Pos} (hg : Gl X "len") (m : X.mg "len" = none) (he : PE X e te) (na : starEach [e] X.env = (false, eval e X.env) :: starEach [] X.env := by rfl) : PE X (.Call (.Name "len" p) [e] [] pos) (tCB (fun xs H Q => ∃ x n, xs = [x] ∧ LenV X.K x H n ∧ Q (.int n) H) (tCons te tNil)) := pe_callB call_len hg m PySem.boot_len (pa_cons he pa_nil na) (he := na)
theorem bInt {X : Cx} {e : Expr} {te : TE} {p pos : Pos} (hg : Gl X "int") (m : X.mg "int" = none) (he : PE X e te) (na : starEach [e] X.env = (false, eval e X.env) :: starEach [] X.env := by rfl) : PE X (.Call (.Name "int" p) [e] [] pos) (tCB (fun xs H Q => (∃ i, xs = [.int i] ∧ Q (.int i) H) ∨ ∃ k, xs = [.bl k] ∧ Q (.int (if k then 1 else 0)) H) (tCons te tNil)) :=
  pe_callTy call_int1 hg m (by decide +kernel) (pa_cons he pa_nil na) (he := na)
theorem bAbs {X : Cx} {e : Expr} {te : TE} {p pos : Pos} (hg : Gl X "abs") (m : X.mg "abs" = none) (he : PE X e te) (na : starEach [e] X.env = (false, eval e X.env) :: starEach [] X.env := by rfl) : PE X (.Call (.Name "abs" p) [e] [] pos) (tCB (fun xs H Q => ∃ i, xs = [.int i] ∧ Q (.int (if i < 0 then -i else i)) H) (tCons te tNil)) :=
  pe_callB call_abs hg m (by decide +kernel) (pa_cons he pa_nil na) (he := na)
theorem bIx {X : Cx} {a b : Expr} {ta tb : TE} {pos : Pos} (ha : PE X a ta) (hb : PE X b tb) (hs : PlainIx b := by intro _ _; rfl) : PE X (.Subscript a b pos) (tOp (rIxL X.K) ta tb) := pe_ix ix_list ha hb hs
theorem ok_draw {f : Addr} {fd : FuncData} (F : Fun K "_law_draw" "_law_draw" sDraw f fd) (T : Txt mg) : FnOk P w K mg base CX0 1 f fd ["_law_pen_here", "_law_many"] spDraw := by
  refine F.ok scDraw (fun vs H Q E h => ?_) (fun cdv A outer s H vs Q E hr h => ?_)
  · obtain ⟨c, p, m, n, rfl, _⟩ := h
    rfl
  · obtain ⟨c, p, m, n, rfl, m0, mb, nb, pen, k⟩ := h
    have nd := scDraw.nd
    refine ⟨_, pss_cons (ps_if (pt_cmpR op_gt (bIx (pv 0) pe_int) pe_int (nomark _))
        (pss_cons (ps_set (i := 2) nd rfl (.inl rfl) (pe_op op_mod (bInt (by rfl) T.int (bIx (pv 0) pe_int)) (pv 1)))
          (pss_cons (ps_asg (pe_op op_fdivN (bInt (by rfl) T.int (bIx (pv 0) pe_int)) (pv 1)) (pg_sub (pv 0) pe_int set_list)) (pss_one (ps_ret (pv 2))))) pss_nil)
      (pss_cons (ps_set (i := 3) nd rfl (.inl rfl) (bIx (pv 0) pe_int))
      (pss_cons (ps_asg (pe_op op_add (pv 3) pe_int) (pg_sub (pv 0) pe_int set_list))
      (pss_cons (ps_set (i := 4) nd rfl (.inl rfl) (pe_op op_add (pe_op op_mul pe_int (pv 3)) pe_int))
      (C8.pss_cut (ps_if (pt_cmpR (op_neD hr.units) (bIx (pv 0) pe_int) (pe_lst pa_nil) (nomark _))
        (pss_one (ps_set (i := 4) nd rfl (.inl rfl) (bIx (bIx (pv 0) pe_int) (pe_op op_mod (bInt (by rfl) T.int (pv 3)) (bLen (by rfl) T.len (bIx (pv 0) pe_int)))))) pss_nil)
      (C8.pss_cut (ps_if (PW.pt (pw_and (pt_cmpR op_lt (pv 3) (bLen (by rfl) T.len (bIx (pv 0) pe_int)) (nomark _)) (pw_and1 (pt_cmpR op_ge (bAbs (by rfl) T.abs (pv 4)) (pe_op op_pow pe_int pe_int) (nomark _)))))
        (pss_cons (ps_set (i := 5) nd rfl (.inl rfl) (pe_op op_add (pe_op op_mul pe_int (pe_op op_sub (bAbs (by rfl) T.abs (pv 4)) (pe_op op_pow pe_int pe_int))) (bInt (by rfl) T.int (pe_cmpR op_lt (pv 4) pe_int (nomark _)))))
          (pss_cons (ps_asg (pe_op op_fdivN (bInt (by rfl) T.int (pv 5)) (pv 1)) (pg_sub (pv 0) pe_int set_list)) (pss_one (ps_ret (pe_op op_mod (bInt (by rfl) T.int (pv 5)) (pv 1)))))) pss_nil)
      (pss_cons (ps_set (i := 6) nd rfl (.inl rfl) (pe_op op_mod (bInt (by rfl) T.int (pe_op op_pow (pe_op op_add (pe_op op_add (pe_op op_mod (bInt (by rfl) T.int (pv 4)) pe_int) (pe_op op_mul pe_int (pv 3))) pe_int) pe_int)) pe_int))
      (pss_cons (ps_set (i := 6) nd rfl (.inl rfl) (pe_op op_mod (bInt (by rfl) T.int (pe_op op_pow (pe_op op_add (pe_op op_add (pe_op op_mul (pv 6) (pe_op op_add (pe_op op_mul pe_int (pv 3)) pe_int)) (pe_op op_mul (pe_op op_mul pe_int (pv 3)) (pv 3))) pe_int) pe_int)) pe_int))
      (pss_one (ps_ret (pe_op op_mod (pe_op op_fdivN (bInt (by rfl) T.int (pv 6)) pe_int) (pv 1))))))))))), ?_⟩
    obtain ⟨ns, a, g, hp, hc, cp, hl, a0, an⟩ := pen
    have md : ∀ x : Int, 0 ≤ x % m ∧ x % m < m := fun x => ⟨Int.emod_nonneg x (by omega), Int.emod_lt_of_pos x m0⟩
    have ms : m ≠ 0 ∧ m.natAbs < 1073741824 := ⟨by omega, by omega⟩
    refine ⟨_, rfl, p, _, 2, _, rfl, rfl, SqL.of hp, rfl, g, 0, rfl, rfl, _, rfl, ite2 (fun hg => ?_) (fun hg => ?_)⟩
    · refine ⟨_, rfl, p, _, 2, _, rfl, rfl, SqL.of hp, rfl, .inl ⟨_, rfl, _, rfl, _, _, rfl, rfl, m0, ?_⟩⟩
      refine ⟨_, rfl, p, _, 2, _, rfl, rfl, SqL.of hp, rfl, .inl ⟨_, rfl, _, rfl, _, _, rfl, rfl, ms, ?_⟩⟩
      refine ⟨_, rfl, p, _, 2, 2, rfl, rfl, hp, rfl, ?_⟩
      refine ⟨_, rfl, k _ _ (md g).1 (md g).2 ⟨ns, a, _, upd_same, ?_, cp, hl, a0, by omega⟩ Ext1.put⟩
      rw [upd_ne cp]; exact hc
    refine ⟨_, rfl, p, _, 1, _, rfl, rfl, SqL.of hp, rfl, ?_⟩
    refine ⟨_, rfl, _, _, rfl, rfl, ?_⟩
    refine ⟨_, rfl, p, _, 1, 1, rfl, rfl, hp, rfl, ?_⟩
    have mul64 : ∀ {x y : Int}, -(2 ^ 64) < x → x < 2 ^ 64 → CMul x y := fun h1 h2 => Or.inl ⟨h1, h2⟩
    generalize hH1 : upd H p (HO.lst ([V.ref c, V.int a, V.int g].set 1 (V.int (a + 1)))) = H1
    have hp1 : H1 p = some (.lst [.ref c, .int (a + 1), .int g]) := by rw [← hH1]; exact upd_same
    have hc1 : H1 c = some (.lst (ns.map V.int)) := by rw [← hH1, upd_ne cp]; exact hc
    have x1 : Ext1 p H H1 := by rw [← hH1]; exact Ext1.put
    refine ⟨_, rfl, _, _, rfl, rfl, mul64 (by decide) (by decide), _, _, rfl, rfl, ?_⟩
    refine ⟨fun σ' H' => ∃ (z : Int) (q : Addr), σ' = [some (.ref p), some (.int m), none, some (.int a), some (.int z), none, none] ∧ H1 q = none ∧ H' = upd H1 q (.lst []), ?_, ?_⟩
    · refine ⟨_, rfl, p, _, 0, _, rfl, rfl, SqL.of hp1, rfl, Nat.zero_le _, fun q hq => ?_⟩
      have cq : c ≠ q := ne_of_none hc1 hq
      have pq : p ≠ q := ne_of_none hp1 hq
      have hc2 : (upd H1 q (.lst [])) c = some (.lst (ns.map V.int)) := by rw [upd_ne cq]; exact hc1
      have hp2 : (upd H1 q (.lst [])) p = some (.lst [.ref c, .int (a + 1), .int g]) := by rw [upd_ne pq]; exact hp1
      refine ⟨.list (ns.map PyData.int), .list [], .lst (SqL.of hc2) (dpInts _ _ ns), .lst (SqL.of upd_same) .nil, shapedInts ns, rfl, _, rfl, ?_⟩
      rw [eqv_nil]
      refine ite2 (fun hne => ?_) (fun _ => ⟨_, q, rfl, hq, rfl⟩)
      have pos : 0 < ns.length := by
        cases ns with
        | nil => exact absurd hne (by decide)
        | cons _ _ => exact Nat.succ_pos _
      obtain ⟨z, hz⟩ := atMod a pos
      refine ⟨_, rfl, p, _, 0, _, rfl, rfl, SqL.of hp2, rfl, _, rfl, .inl ⟨_, rfl, _, rfl, p, _, 0, _, rfl, rfl, SqL.of hp2, rfl, _, _, rfl, .inl ⟨_, SqL.of hc2, rfl⟩, ?_⟩⟩
      refine ⟨_, _, rfl, rfl, by rw [List.length_map]; omega, c, _, _, .int z, rfl, rfl, SqL.of hc2, ?_, z, q, rfl, hq, rfl⟩
      rw [List.length_map]; exact hz
    rintro σ2 H2 ⟨z, q, rfl, hq, rfl⟩
    have cq : c ≠ q := ne_of_none hc1 hq
    have pq : p ≠ q := ne_of_none hp1 hq
    have hc2 : (upd H1 q (.lst [])) c = some (.lst (ns.map V.int)) := by rw [upd_ne cq]; exact hc1
    have hp2 : (upd H1 q (.lst [])) p = some (.lst [.ref c, .int (a + 1), .int g]) := by rw [upd_ne pq]; exact hp1
    have x2 : Ext1 p H (upd H1 q (.lst [])) := x1.trans (Ext1.new hq)
    generalize upd H1 q (.lst []) = H2 at hc2 hp2 x2 ⊢
    have done : ∀ r, 0 ≤ r → r < m → Q (.int r) H2 := fun r r0 r1 => k r H2 r0 r1 ⟨ns, a + 1, g, hp2, hc2, cp, hl, by omega, by omega⟩ x2
    have fin : ∀ y : Int, Q (.int (y % m)) H2 := fun y => done _ (md y).1 (md y).2
    have a1 : a ≤ 1000000 := by omega
    refine ⟨fun σ' H' => σ' = [some (.ref p), some (.int m), none, some (.int a), some (.int z), none, none] ∧ H' = H2, ?_, ?_⟩
    · refine ⟨_, rfl, _, rfl, p, _, 0, _, rfl, rfl, SqL.of hp2, rfl, _, _, rfl, .inl ⟨_, SqL.of hc2, rfl⟩, _, _, rfl, rfl, _, rfl, ite2 (fun _ => ?_) (fun _ => iteF ⟨rfl, rfl⟩)⟩
      refine ⟨_, rfl, z, rfl, _, _, rfl, rfl, ⟨by decide, by decide, by decide⟩, _, _, rfl, rfl, _, rfl, ite2 (fun _ => ?_) (fun _ => ⟨rfl, rfl⟩)⟩
      refine ⟨_, rfl, z, rfl, _, _, rfl, rfl, ⟨by decide, by decide, by decide⟩, _, _, rfl, rfl, _, _, rfl, rfl, mul64 (by decide) (by decide), _, rfl, _, _, rfl, rfl, .inr ⟨_, rfl, _, _, rfl, rfl, ?_⟩⟩
      refine ⟨_, rfl, .inl ⟨_, rfl, _, rfl, _, _, rfl, rfl, ms, _, rfl, p, _, 2, 2, rfl, rfl, hp2, rfl, ?_⟩⟩
      refine ⟨_, rfl, .inl ⟨_, rfl, _, rfl, _, _, rfl, rfl, m0, ?_⟩⟩
      refine k _ _ (md _).1 (md _).2 ⟨ns, a + 1, _, upd_same, ?_, cp, hl, by omega, by omega⟩ (x2.trans Ext1.put)
      rw [upd_ne cp]; exact hc2
    rintro σ3 H3 ⟨rfl, rfl⟩
    refine ⟨_, rfl, .inl ⟨_, rfl, _, _, rfl, rfl, (show (0 : Int) < 2147483629 by decide), _, rfl, _, _, rfl, rfl, mul64 (by decide) (by decide), _, _, rfl, rfl, _, _, rfl, rfl, _, _, rfl, rfl, ⟨by decide, by decide, mixed1 (by decide) (by decide) (by decide) (by decide) (by decide) (by decide) a0 a1⟩, .inl ⟨_, rfl, _, _, rfl, rfl, (show (0 : Int) < 2147483587 by decide), ?_⟩⟩⟩
    have xx : ∀ y : Int, 0 ≤ y % 2147483587 ∧ y % 2147483587 < 2147483587 := fun y => ⟨Int.emod_nonneg _ (by decide), Int.emod_lt_of_pos _ (by decide)⟩
    refine ⟨_, rfl, _, rfl, _, _, rfl, rfl, mul64 (by decide) (by decide), _, _, rfl, rfl, _, _, rfl, rfl, mul64 (Int.lt_of_lt_of_le (by decide) (xx _).1) (Int.lt_trans (xx _).2 (by decide)), _, rfl, _, _, rfl, rfl, mul64 (by decide) (by decide), _, rfl, _, _, rfl, rfl, Or.inr ⟨by omega, by omega⟩, _, _, rfl, rfl, _, _, rfl, rfl, _, _, rfl, rfl,
      ⟨by decide, by decide, mixed2 (xx _).1 (xx _).2 (by decide) (by decide) (by decide) (by decide) (by decide) (by decide) (by decide) a0 a1⟩, .inl ⟨_, rfl, _, _, rfl, rfl, (show (0 : Int) < 2147483647 by decide), ?_⟩⟩
    exact ⟨_, rfl, .inl ⟨_, rfl, _, _, rfl, rfl, ⟨by decide, by decide⟩, _, rfl, _, _, rfl, rfl, m0, fin _⟩⟩
end
end Kx


set_option Elab.async false
set_option maxRecDepth 100000
set_option autoImplicit false
namespace Kx
open PySem L2 PySem.Spec PyProof.Rows Rg Er
def abc : Str := "abcdefghijklmnopqrstuvwxyz"
theorem len_small {z : Str} (h : z.length ≤ 1000) : z.length ≤ sizeLine := Nat.le_trans h (by decide)
theorem bIsi {X : Cx} {e c : Expr} {te tc : TE} {p pos : Pos} (hg : Gl X "isinstance") (m : X.mg "isinstance" = none) (he : PE X e te) (hc : PE X c tc) (na : starEach [e, c] X.env = (false, eval e X.env) :: starEach [c] X.env := by rfl)
    (nb : starEach [c] X.env = (false, eval c X.env) :: starEach [] X.env := by rfl) (hpl : (backTo pos (starEach [c] X.env)).any (·.1) = false := by rfl) : PE X (.Call (.Name "isinstance" p) [e, c] [] pos) (tCB (rIsi X.K) (tCons te (tCons tc tNil))) :=
  pe_callB call_isi hg m boot_isinstance (pa_cons he (pa_cons hc pa_nil nb) na) (he := na) (hpl := hpl)
/-- a list or a tuple -/
def Sq (H : Hp) (a : Addr) (xs : List V) : Prop := H a = some (.lst xs) ∨ H a = some (.tup xs)
theorem Sq.same {H H' : Hp} {a : Addr} {xs : List V} (h : Sq H a xs) (e : Same H H') : Sq H' a xs := h.elim (fun q => .inl (e _ _ q)) fun q => .inr (e _ _ q)
theorem Sq.len {K : PySem.W.Frag} {H : Hp} {a : Addr} {xs : List V} (h : Sq H a xs) : LenV K (.ref a) H xs.length := h.elim (fun q => .inl ⟨_, SqL.of q, rfl⟩) fun q => .inr ⟨_, SqT.of q, rfl⟩
theorem Same.new {H : Hp} {q : Addr} {o : HO} (h : H q = none) : Same H (upd H q o) := fun b u e => by rw [upd_ne (ne_of_none e h)]; exact e
theorem Same.putNew {H H' : Hp} {q : Addr} {o : HO} (h : H q = none) (e : Same H H') : Same H (upd H' q o) := fun b u z => by rw [upd_ne (ne_of_none z h)]; exact e _ _ z
theorem PI_or {X : Cx} {tg iter : Expr} {w1 w2 : TI} (h1 : PI X tg iter w1) (h2 : PI X tg iter w2) : PI X tg iter (fun σ H R => w1 σ H R ∨ w2 σ H R) := ⟨fun pins s σ H R I h => h.elim (h1.run pins s σ H R I) (h2.run pins s σ H R I)⟩
theorem wipe1 (σ : L2.St) (v : Nat) (x : V) : wipe ((wipe σ [v]).set v (some x)) [v] = wipe σ [v] := by
  show ((σ.set v none).set v (some x)).set v none = σ.set v none
  rw [List.set_set, List.set_set]
/-- a comprehension whose elements are told by the turn, over a heap that only grows -/
theorem lcMap {J : It} {n : Nat} {G : Hp → Prop} {Y : Nat → Hp → V → Hp → Prop} (w : Walk J n G Y) {v : Nat} {te : TE} {σ : L2.St} {H1 : Hp} {D : Addr} {Qd : Hp → Prop} (f : Nat → V) (hn : n < sizeLine) (hD : H1 D = none) (hG : ∀ H', Same H1 H' → G H')
    (hY : ∀ i H' x H2, Y i H' x H2 → H2 = H')
    (el : ∀ i x H' (Q : VK), i < n → Same H1 H' → Y i H' x H' → (∀ H4, Same H' H4 → Q (f i) H4) → te ((wipe σ [v]).set v (some x)) H' Q)
    (hd : ∀ H', Same H1 H' → H' D = some (.lst ((List.range n).map f)) → Qd H') :
    ∃ W : Nat → Nat → Hp → Prop, (∃ m, W 0 m (upd H1 D (.lst []))) ∧ ∀ i m H, W i m H →
      (J.stop i H ∧ Qd H) ∨ (J.go i H ∧ ∃ Nx : Hp → Prop, (∀ H', Nx H' → ∃ m', m' < m ∧ W (i + 1) m' H') ∧ ∀ x H', J.yld i H x H' → gName v x (wipe σ [v]) H' fun σ2 H2 => wipe σ2 [v] = wipe σ [v] ∧ tYes σ2 H2 fun b H3 =>
        if b = true then te σ2 H3 fun y H4 => ∃ acc, H4 D = some (.lst acc) ∧ acc.length < sizeLine ∧ Nx (upd H4 D (.lst (acc ++ [y]))) else Nx H3) := by
  refine lc_it w (fun i H' => Same H1 H' ∧ H' D = some (.lst ((List.range i).map f))) ⟨Same.new hD, upd_same⟩ (fun i H' _ q => hG H' q.1) ?_ fun H' q => hd H' q.1 q.2
  rintro i x H' H2 hi ⟨s1, hl⟩ y
  obtain rfl := hY _ _ _ _ y
  refine ⟨wipe1 σ v x, ?_⟩
  unfold tYes
  dsimp only
  rw [if_pos rfl]
  refine el i x H2 _ hi s1 y fun H4 s4 => ⟨_, s4 _ _ hl, ?_, Same.putNew hD (s1.trans s4), ?_⟩
  · rw [List.length_map, List.length_range]; omega
  rw [upd_same, List.range_succ, List.map_append]
  rfl
theorem range_const {n : Nat} {x : V} : (List.range n).map (fun _ => x) = List.replicate n x := by
  rw [List.map_const', List.length_range]
/-- a comprehension over any walk, by an invariant of turn, heap and what is made so far -/
theorem lcGen {J : It} {n : Nat} {G : Hp → Prop} {Y : Nat → Hp → V → Hp → Prop} (w : Walk J n G Y) {v : Nat} {te : TE} {σ : L2.St} {H1 : Hp} {D : Addr} {Qd : Hp → Prop} (Iv : Nat → Hp → List V → Prop) (hn : n < sizeLine)
    (h0 : Iv 0 (upd H1 D (.lst [])) []) (hG : ∀ i H' acc, i ≤ n → Iv i H' acc → G H') (hY : ∀ i H' x H2, Y i H' x H2 → H2 = H')
    (el : ∀ i x H' acc (Q : VK), i < n → H' D = some (.lst acc) → acc.length = i → Iv i H' acc → Y i H' x H' → (∀ y H4, H4 D = some (.lst acc) → Iv (i + 1) (upd H4 D (.lst (acc ++ [y]))) (acc ++ [y]) → Q y H4) → te ((wipe σ [v]).set v (some x)) H' Q)
    (hd : ∀ H' acc, H' D = some (.lst acc) → acc.length = n → Iv n H' acc → Qd H') :
    ∃ W : Nat → Nat → Hp → Prop, (∃ m, W 0 m (upd H1 D (.lst []))) ∧ ∀ i m H, W i m H →
      (J.stop i H ∧ Qd H) ∨ (J.go i H ∧ ∃ Nx : Hp → Prop, (∀ H', Nx H' → ∃ m', m' < m ∧ W (i + 1) m' H') ∧ ∀ x H', J.yld i H x H' → gName v x (wipe σ [v]) H' fun σ2 H2 => wipe σ2 [v] = wipe σ [v] ∧ tYes σ2 H2 fun b H3 =>
        if b = true then te σ2 H3 fun y H4 => ∃ acc, H4 D = some (.lst acc) ∧ acc.length < sizeLine ∧ Nx (upd H4 D (.lst (acc ++ [y]))) else Nx H3) := by
  refine lc_it w (fun i H' => ∃ acc, H' D = some (.lst acc) ∧ acc.length = i ∧ Iv i H' acc) ⟨[], upd_same, rfl, h0⟩ (fun i H' hi ⟨acc, _, _, q⟩ => hG i H' acc hi q) ?_ fun H' ⟨acc, q1, q2, q3⟩ => hd H' acc q1 q2 q3
  rintro i x H' H2 hi ⟨acc, ha, hl, iv⟩ y
  obtain rfl := hY _ _ _ _ y
  refine ⟨wipe1 σ v x, ?_⟩
  unfold tYes
  dsimp only
  rw [if_pos rfl]
  refine el i x H2 acc _ hi ha hl iv y fun y H4 h4 i4 => ⟨acc, h4, by omega, _, upd_same, ?_, i4⟩
  rw [List.length_append, hl]
  rfl
theorem Same.ext1 {H H' : Hp} (p : Addr) (e : Same H H') : Ext1 p H H' := fun b o _ q => e b o q
/-! the pen -/
def Ink (c p : Addr) (n : Nat) (H H' : Hp) : Prop := Ext1 p H H' ∧ PenAt c n H' p
theorem PenAt.ne1 {c p q : Addr} {n : Nat} {H : Hp} (h : PenAt c n H p) (e : H q = none) : q ≠ p := by
  rintro rfl
  obtain ⟨ns, a, g, h1, _⟩ := h
  rw [h1] at e; cases e
theorem PenAt.ne2 {c p q : Addr} {n : Nat} {H : Hp} (h : PenAt c n H p) (e : H q = none) : q ≠ c := by
  rintro rfl
  obtain ⟨ns, a, g, _, h2, _⟩ := h
  rw [h2] at e; cases e
theorem PenAt.put {c p q : Addr} {n : Nat} {H : Hp} {o : HO} (h : PenAt c n H p) (n1 : q ≠ p) (n2 : q ≠ c) : PenAt c n (upd H q o) p := by
  obtain ⟨ns, a, g, h1, h2, h3⟩ := h
  exact ⟨ns, a, g, by rw [upd_ne n1.symm]; exact h1, by rw [upd_ne n2.symm]; exact h2, h3⟩
theorem Ink.start {c p : Addr} {n : Nat} {H : Hp} (h : PenAt c n H p) : Ink c p n H H := ⟨Ext1.refl p H, h⟩
theorem Ink.trans {c p : Addr} {n m : Nat} {H H1 H2 : Hp} (a : Ink c p n H H1) (b : Ink c p m H1 H2) : Ink c p m H H2 := ⟨Ext1.trans a.1 b.1, b.2⟩
theorem Ink.same {c p : Addr} {n : Nat} {H H1 H2 : Hp} (a : Ink c p n H H1) (b : Same H1 H2) : Ink c p n H H2 := ⟨Ext1.trans a.1 (Same.ext1 p b), a.2.ext b⟩
theorem Ink.new {c p q : Addr} {n : Nat} {H H1 : Hp} {o : HO} (a : Ink c p n H H1) (e : H1 q = none) : Ink c p n H (upd H1 q o) := a.same (Same.new e)
theorem Ink.mono {c p : Addr} {n m : Nat} {H H1 : Hp} (a : Ink c p n H H1) (l : n ≤ m) : Ink c p m H H1 := ⟨a.1, a.2.mono l⟩
/-- what is new to H may change: H grows all the same -/
theorem Ext1.putNew {p q : Addr} {H H1 : Hp} {o : HO} (a : Ext1 p H H1) (e : H q = none) : Ext1 p H (upd H1 q o) := fun b u n z => by rw [upd_ne (ne_of_none z e)]; exact a b u n z
theorem Ink.putNew {c p q : Addr} {n k : Nat} {H H1 : Hp} {o : HO} (a : Ink c p n H H1) (s : PenAt c k H p) (e : H q = none) : Ink c p n H (upd H1 q o) := ⟨a.1.putNew e, a.2.put (s.ne1 e) (s.ne2 e)⟩
def spPen (K : PySem.W.Frag) : Sp := fun vs H Q _ => ∃ (a : Addr) (ns : List Int), vs = [.ref a] ∧ SqL K H a (ns.map V.int) ∧ ns.length ≤ 63 ∧ ∀ c p H', Same H H' → PenAt c 0 H' p → Q (.ref p) H'
theorem bList {X : Cx} {e : Expr} {te : TE} {p pos : Pos} (hg : Gl X "list") (m : X.mg "list" = none) (he : PE X e te) (na : starEach [e] X.env = (false, eval e X.env) :: starEach [] X.env := by rfl) :
    PE X (.Call (.Name "list" p) [e] [] pos) (tCB (fun xs H Q => ∃ p ys, xs = [.ref p] ∧ (SqL X.K H p ys ∨ SqT X.K H p ys) ∧ ∀ l, H l = none → Q (.ref l) (upd H l (.lst ys))) (tCons te tNil)) :=
  pe_callTy call_list_of hg m (by decide +kernel) (pa_cons he pa_nil na) (he := na)
section
variable {P : Program} {w : World} {K : PySem.W.Frag} {mg : Str → Option Value} {base : Heap}
theorem scPen : FnScope ["_law_script"] ["_law_script"] (defScope sPen) := ⟨rfl, rfl, rfl, by decide +kernel, rfl, by decide +kernel, by decide +kernel⟩
theorem ok_pen {f : Addr} {fd : FuncData} (F : Fun K "_law_pen" "_law_pen" sPen f fd) (T : Txt mg) : FnOk P w K mg base CX0 1 f fd ["_law_script"] (spPen K) := by
  refine F.ok scPen (fun vs H Q E h => ?_) (fun cdv A outer s H vs Q E hr h => ?_)
  · obtain ⟨a, ns, rfl, _⟩ := h
    rfl
  · obtain ⟨a, ns, rfl, hs, hl, k⟩ := h
    refine ⟨_, pss_one (ps_ret (pe_lst (pa_cons (bList (by rfl) T.list (pe_slice sl_list (pv 0) po_none (po_some pe_int))) (pa_cons pe_int (pa_cons pe_int pa_nil))))), ?_⟩
    refine ⟨_, rfl, _, rfl, a, _, rfl, hs, fun q hq => ?_⟩
    have e : cutV (ns.map V.int) none (some 63) = ns.map V.int := by
      unfold cutV
      rw [show HT.sIx (ns.map V.int).length 0 none = 0 from rfl, show HT.sIx (ns.map V.int).length (ns.map V.int).length (some 63) = min 63 (ns.map V.int).length from HT.sIx_nat _ _ 63, List.drop_zero, Nat.sub_zero]
      exact List.take_of_length_le (by rw [List.length_map]; omega)
    rw [e]
    refine ⟨q, _, rfl, .inl (SqL.of upd_same), fun c hc => ⟨by show 3 ≤ sizeLine; decide, fun p hp => ?_⟩⟩
    have cp : c ≠ p := by rintro rfl; rw [upd_same] at hp; cases hp
    refine k c p _ ?_ ⟨ns, 0, 0, upd_same, by rw [upd_ne cp, upd_same], cp, hl, by decide, by decide⟩
    exact Same.trans (Same.new hq) (Same.trans (Same.new hc) (Same.new hp))
end
theorem ix_or {X : Cx} {r1 r2 : R2} (h1 : IxR X r1) (h2 : IxR X r2) : IxR X (fun x y H Q => r1 x y H Q ∨ r2 x y H Q) := fun a b pins s σ H x y v u Q I rx ry h hs => h.elim (fun h => h1 a b pins s σ H x y v u Q I rx ry h hs) (fun h => h2 a b pins s σ H x y v u Q I rx ry h hs)
def spPick : Sp := fun vs H Q _ => ∃ (c p : Addr) (n : Nat), n ≤ 1000000 ∧ PenAt c n H p ∧
  ((∃ a xs, vs = [.ref p, .ref a] ∧ a ≠ p ∧ H a = some (.lst xs) ∧ 0 < xs.length ∧ xs.length ≤ 1000 ∧ ∀ v H', v ∈ xs → PenAt c (n + 1) H' p → Ext1 p H H' → Q v H') ∨
  (∃ z : Str, vs = [.ref p, .str z] ∧ 0 < z.length ∧ z.length ≤ 1000 ∧ ∀ d H', d ∈ z.cps.toList → PenAt c (n + 1) H' p → Ext1 p H H' → Q (.str ⟨#[d]⟩) H'))
theorem atI_int {α : Type} {xs : List α} {s : Int} {v : α} (s0 : 0 ≤ s) (h : xs[s.toNat]? = some v) : atI xs s = some v := by
  have e : ((s.toNat : Nat) : Int) = s := by omega
  have q := atI_nat h
  rw [e] at q
  exact q
theorem atI_some {α : Type} {xs : List α} {i : Int} (i0 : 0 ≤ i) (i1 : i < xs.length) : ∃ v, v ∈ xs ∧ atI xs i = some v := by
  have h : i.toNat < xs.length := by omega
  exact ⟨xs[i.toNat], List.getElem_mem h, atI_int i0 (List.getElem?_eq_getElem h)⟩
section
variable {P : Program} {w : World} {K : PySem.W.Frag} {mg : Str → Option Value} {base : Heap}
theorem scPick : FnScope ["_law_pen_here", "_law_things"] ["_law_pen_here", "_law_things"] (defScope sPick) := ⟨rfl, rfl, rfl, by decide +kernel, rfl, by decide +kernel, by decide +kernel⟩
theorem ok_pick {f f1 : Addr} {fd fd1 : FuncData} (F : Fun K "_law_pick" "_law_pick" sPick f fd) (T : Txt mg) (G : FnOk P w K mg base CX0 1 f1 fd1 ["_law_pen_here", "_law_many"] spDraw) (m1 : mg "_law_draw" = some (.ref f1)) (k1 : PySem.W.keepIn K (.ref f1) = true)
    (b1 : Binds K fd1 ["_law_pen_here", "_law_many"] []) : FnOk P w K mg base CX0 2 f fd ["_law_pen_here", "_law_things"] spPick := by
  refine F.ok scPick (fun vs H Q E h => ?_) (fun cdv A outer s H vs Q E hr h => ?_)
  · obtain ⟨c, p, n, _, _, ⟨a, xs, rfl, _⟩ | ⟨z, rfl, _⟩⟩ := h <;> rfl
  · obtain ⟨c, p, n, nb, pen, h⟩ := h
    refine ⟨_, pss_one (ps_ret (pe_ix (ix_or ix_list ix_str) (pv 1) (pe_call G hr (by rfl) m1 k1 b1 .nil pass0 (pa_cons (pv 0) (pa_cons (bLen (by rfl) T.len (pv 1)) pa_nil))) (fun _ _ => rfl))), ?_⟩
    rcases h with ⟨a, xs, rfl, ap, ha, l0, l1, k⟩ | ⟨z, rfl, l0, l1, k⟩
    · refine ⟨_, rfl, _, rfl, _, rfl, _, _, rfl, Sq.len (.inl ha), c, p, _, n, rfl, by omega, by omega, nb, pen, fun r H' r0 r1 pen' x => ?_⟩
      obtain ⟨v, hv, e⟩ := atI_some r0 r1
      exact .inl ⟨a, xs, r, v, rfl, rfl, SqL.of (x _ _ ap ha), e, k v H' hv pen' x⟩
    · refine ⟨_, rfl, _, rfl, _, rfl, _, z.length, rfl, ⟨len_small l1, rfl⟩, c, p, _, n, rfl, by omega, by omega, nb, pen, fun r H' r0 r1 pen' x => ?_⟩
      obtain ⟨v, hv, e⟩ := atI_some (xs := z.cps.toList) r0 (by rw [Array.length_toList]; exact r1)
      exact .inr ⟨z, r, v, rfl, rfl, len_small l1, e, k v H' hv pen' x⟩
end
theorem joinL_one : ∀ cs : List Nat, TL.joinL [] (cs.map fun d => [d]) = cs
  | [] => rfl
  | [_] => rfl
  | a :: b :: r => by
    have e := joinL_one (b :: r)
    show [a] ++ ([] ++ TL.joinL [] ((b :: r).map fun d => [d])) = a :: b :: r
    rw [e]
    rfl
theorem join_one (cs : List Nat) : Txt.join ("" : Str) (cs.map fun d => (⟨#[d]⟩ : Str)) = ⟨cs.toArray⟩ := by
  have e := SX.join_S [] (cs.map fun d => [d])
  rw [joinL_one, List.map_map] at e
  exact e
theorem sum_one : ∀ cs : List Nat, ((cs.map fun d => (⟨#[d]⟩ : Str)).map (·.length)).sum = cs.length
  | [] => rfl
  | a :: r => by
    rw [List.map_cons, List.map_cons, List.sum_cons, sum_one r, List.length_cons]
    show 1 + r.length = _
    omega
theorem kbMk {K : PySem.W.Frag} {x qual : Str} {st : Stmt} {f : Addr} {fd : FuncData} {ps ks : List Str} {n : Nat} {g : List Value → List Value → List Value} {gV : List V → List V → List V} (F : L2.Fun K x qual st f fd)
    (h : ∀ (kV doc pm : Value) (an : Option Addr) (cdv ct : Value) (us ws : List Value), us.length = n → ws.length = ks.length → bindArgs (PySem.W.fnOf x qual (defArgs st) (defBody st) (defScope st) .none kV doc pm an cdv ct) ⟨us, ks.zip ws⟩ = pure (ps.zip (g us ws)))
    (rel : ∀ {vs : List V} {us : List Value} {zs : List V} {ws : List Value}, Vals vs us → Vals zs ws → Vals (gV vs zs) (g us ws)) : KBn K fd ps n ks g gV := by
  obtain ⟨oc, od, kV, doc, pm, an, cdv, ct, osl, rfl, lk, hcd⟩ := F.ex
  exact ⟨fun s us ws _ l1 l2 => .of_eq (h kV doc pm an cdv ct us ws l1 l2), rel⟩
theorem vapp {vs : List V} {us : List Value} {zs : List V} {ws : List Value} (a : Vals vs us) (b : Vals zs ws) : Vals (vs ++ zs) (us ++ ws) := by
  induction a with
  | nil => exact b
  | cons r _ ih => exact .cons r ih
theorem vrev {vs : List V} {us : List Value} (a : Vals vs us) : Vals vs.reverse us.reverse := by
  induction a with
  | nil => exact .nil
  | cons r _ ih => rw [List.reverse_cons, List.reverse_cons]; exact vapp ih (.cons r .nil)
structure Tame (d : PyData) (h w : Nat) : Prop where
  sh : d.showable = true
  hd : d.hasDict = false
  dp : d.depth ≤ h
  ls : d.leavesShort 13 = true
  wt : d.weight ≤ w
structure Tames (ds : List PyData) (h w : Nat) : Prop where
  sh : PyData.showableAll ds = true
  hd : PyData.hasDictAll ds = false
  dp : PyData.depthAll ds ≤ h
  ls : PyData.leavesShortAll 13 ds = true
  wt : PyData.weightAll ds ≤ w
theorem Tames.nil {h w : Nat} : Tames [] h w := ⟨rfl, rfl, Nat.zero_le _, rfl, Nat.zero_le _⟩
theorem Tames.cons {d : PyData} {ds : List PyData} {h w1 w2 w : Nat} (a : Tame d h w1) (b : Tames ds h w2) (e : w1 + 1 + w2 ≤ w) : Tames (d :: ds) h w := by
  refine ⟨?_, ?_, ?_, ?_, ?_⟩
  · simp only [PyData.showableAll, a.sh, b.sh, Bool.and_self]
  · simp only [PyData.hasDictAll, a.hd, b.hd, Bool.or_self]
  · simp only [PyData.depthAll]; exact Nat.max_le.mpr ⟨a.dp, b.dp⟩
  · simp only [PyData.leavesShortAll, a.ls, b.ls, Bool.and_self]
  · simp only [PyData.weightAll]
    have := a.wt
    have := b.wt
    omega
theorem Tames.all {h w : Nat} : ∀ {ds : List PyData} {W : Nat}, (∀ d ∈ ds, Tame d h w) → ds.length * (w + 1) ≤ W → Tames ds h W
  | [], _, _, _ => .nil
  | d :: r, W, t, e => by
    rw [List.length_cons, Nat.succ_mul] at e
    exact Tames.cons (t d List.mem_cons_self) (Tames.all (fun x hx => t x (List.mem_cons_of_mem _ hx)) (Nat.le_refl _)) (by omega)
theorem Tame.list {ds : List PyData} {h w : Nat} (a : Tames ds h w) : Tame (.list ds) (h + 1) w := ⟨by simp only [PyData.showable, a.sh], by simp only [PyData.hasDict, a.hd], by simp only [PyData.depth]; have := a.dp; omega, by simp only [PyData.leavesShort, a.ls], by simp only [PyData.weight]; exact a.wt⟩
theorem Tame.tup {ds : List PyData} {h w : Nat} (a : Tames ds h w) : Tame (.tuple ds) (h + 1) w := ⟨by simp only [PyData.showable, a.sh], by simp only [PyData.hasDict, a.hd], by simp only [PyData.depth]; have := a.dp; omega, by simp only [PyData.leavesShort, a.ls], by simp only [PyData.weight]; exact a.wt⟩
theorem Tame.mono {d : PyData} {h w h' w' : Nat} (a : Tame d h w) (e1 : h ≤ h') (e2 : w ≤ w') : Tame d h' w' := ⟨a.sh, a.hd, Nat.le_trans a.dp e1, a.ls, Nat.le_trans a.wt e2⟩
theorem Tame.bool (b : Bool) {h w : Nat} : Tame (.bool b) h w := ⟨by simp only [PyData.showable], by simp only [PyData.hasDict], by simp only [PyData.depth]; exact Nat.zero_le _, by simp only [PyData.leavesShort], by simp only [PyData.weight]; exact Nat.zero_le _⟩
theorem Tame.int {i : Int} {h w : Nat} (i0 : 0 ≤ i) (i1 : i < 1000) (e : 10 ≤ w) : Tame (.int i) h w := by
  have l : i.natAbs.log2 < 10 := by
    by_cases z : i.natAbs = 0
    · rw [z]; decide
    · exact (Nat.log2_lt z).mpr (by omega)
  refine ⟨?_, by simp only [PyData.hasDict], by simp only [PyData.depth]; exact Nat.zero_le _, ?_, ?_⟩
  · simp only [PyData.showable, decide_eq_true_eq]; omega
  · simp only [PyData.leavesShort, decide_eq_true_eq]; exact PyData.shown_int_le (by omega)
  · simp only [PyData.weight]
    split <;> omega
theorem Tame.fits {d : PyData} {h w : Nat} (a : Tame d h w) (e : w ≤ 1048576) : d.shown.length ≤ sizeLine := PyData.shown_fits (B := 13) (by decide) (by decide) a.ls (Nat.le_trans a.wt e)
theorem rRepr_of {K : PySem.W.Frag} {H : Hp} {a : Addr} {d : PyData} {h w : Nat} {Q : VK} (r : Rp K H (.ref a) d) (t : Tame d h w) (e1 : h ≤ 20) (e2 : w ≤ 1048576) (k : Q (.str d.shown) H) : rRepr K [.ref a] H Q := ⟨a, d, rfl, r, t.sh, t.hd, Nat.le_trans t.dp e1, t.fits e2, k⟩
theorem neSame (x : V) : (!decide (x = x)) = false := by rw [decide_eq_true rfl]; rfl
theorem eqSame (x : V) : decide (x = x) = true := decide_eq_true rfl
/-- a class of errors with one field, as a raise wants it -/
structure ErrB (P : Program) (w : World) (K : PySem.W.Frag) (mg : Str → Option Value) (base : Heap) (x f : Str) (C : Addr) : Prop where
  O : OexC K C
  mgC : mg x = some (.ref C)
  init : ∃ fi fd ps, PySem.W.findIn K (.ref C) "__init__" = some (some (.ref fi)) ∧ PySem.W.typeIn K (.ref fi) = some (.type "function") ∧ FnOk P w K mg base CX0 1 fi fd ps (spErr1 C f) ∧ Binds K fd ps []
def raised (C : Addr) (f : Str) (v : V) (E : XK) (H : Hp) : Prop := ∀ d, H d = none → E (.ref C) (some d) (upd H d (.xd [(f, v)]))
end Kx
set_option Elab.async false
set_option maxRecDepth 100000
set_option autoImplicit false
/-! Rules: cls(e, .., k = v), cls a local name; raise C(e, e'), two fields; no exception leaves where none is wished for. -/
namespace Ru
open PySem L2 PySem.Spec PyProof.Rows PySem.Calls Er
section
variable {X : Cx} {CX : CXT} {k n : Nat} {f C : Addr} {fd : FuncData} {ps ks : List Str} {sp : Sp} {E : XK} {x : Str} {e : Expr} {es : List Expr} {kws : List Keyword} {tf : TE} {t tk : TA} {g : List Value → List Value → List Value} {gV : List V → List V → List V} {p pos : Pos}
theorem passesF : Passes (L2.CX X.prog X.w) X (fun _ _ _ => False) := fun _ _ _ _ _ _ _ h => by
  obtain ⟨a, B, H', cls, d, _, _, _, _, _, _, _, z⟩ := h
  exact z.elim
def tMakeVK (C : Addr) (n m : Nat) (sp : Sp) (gV : List V → List V → List V) (E : XK) (tf : TE) (t tk : TA) : TE := fun σ H Q => tf σ H fun y H1 => y = V.ref C ∧ tMakeK C n m sp gV E t tk σ H1 Q
theorem pe_makeVK (M : Mk X.K C f) (F : FnOk X.prog X.w X.K X.mg X.base CX k f fd ps sp) (hr : Room (k + 1) X.A) (hb : KBn X.K fd ps (n + 1) ks g gV) (hx : Passes CX X E) (hf : PE X (.Name x p) tf) (ha : PA X (e :: es) t) (hkw : PK X kws tk)
    (hall : (backToKw pos (keywordEach kws X.env)).all (·.1.isSome) = true := by rfl) (hks : (backToKw pos (keywordEach kws X.env)).filterMap (·.1) = ks := by rfl)
    (he : starEach (e :: es) X.env = (false, eval e X.env) :: starEach es X.env := by rfl) (hpl : ((backTo pos (starEach (e :: es) X.env)).any (·.1) || (backToKw pos (keywordEach kws X.env)).any (·.1.isNone)) = false := by rfl) :
    PE X (.Call (.Name x p) (e :: es) kws pos) (tMakeVK C n ks.length sp gV E tf t tk) := by
  refine ⟨fun pins s σ H Q I h => ?_⟩
  refine wpAny_Call_Name_kw (thn (hf.run pins s σ H _ I h) fun u s0 ⟨y, H0, I0, ry, ey, q0⟩ => ?_)
  subst ey
  obtain rfl : u = Value.ref C := ry
  refine PySem.W.callWith_KW (h₀ := X.base) I0.ok.mod.kin M.kp hall (thn (ha.run pos pins s0 σ H0 _ I0 q0) fun us s1 ⟨vs, H1, I1, r, q⟩ => ?_) hpl he
  refine thn (hkw.run pos pins s1 σ H1 _ I1 q) fun ws s2 ⟨zs, H2, I2, rz, l1, l2, q2⟩ => ⟨I2.kIn, ?_⟩
  rw [hks]
  exact run_makeK M F hr hb hx I2 r rz l1 l2 q2
end
theorem left2 {H : Hp} {a d C : Addr} {fs gs hs : List (Str × V)} (na : H a = none) (o : Option Addr) : upd (del (upd (upd (upd (upd H a (exo a C none)) d (exd d gs)) a (exo a C o)) d (exd d hs)) a) d (.xd fs) = upd H d (.xd fs) := by
  funext b
  by_cases hd : b = d
  · rw [hd, upd_same, upd_same]
  rw [upd_ne hd, upd_ne hd]
  by_cases ha : b = a
  · rw [ha, del_same, na]
  · rw [del_ne ha, upd_ne hd, upd_ne ha, upd_ne hd, upd_ne ha]
def tRaise2 (C : Addr) (f g : Str) (W : WX) (te tu : TE) : TS := fun _ σ H => te σ H fun v H1 => tu σ H1 fun u H2 => ∀ d, H2 d = none → W (.ref C) (some d) σ (upd H2 d (.xd [(g, u), (f, v)]))
section
variable {X : Cx}
theorem ps_raise2 {x f g : Str} {C fi : Addr} {k : Nat} {fd : FuncData} {ps : List Str} {e e2 : Expr} {te tu : TE} {W : WX} {p pos pos2 : Pos} (hc : X.calm = true) (tk : Takes X W) (O : OexC X.K C) (iC : PySem.W.findIn X.K (.ref C) "__init__" = some (some (.ref fi))) (tI : PySem.W.typeIn X.K (.ref fi) = some (.type "function"))
    (F : FnOk X.prog X.w X.K X.mg X.base CX0 k fi fd ps (spErr2 C f g)) (hr : Room (k + 1) X.A) (hb : Binds X.K fd ps []) (hg : Gl X x) (hm : X.mg x = some (.ref C)) (he : PE X e te) (hu : PE X e2 tu) (hdb : (x == ("__debug__" : Str)) = false := by decide)
    (hs : starEach [e, e2] X.env = (false, eval e X.env) :: starEach [e2] X.env := by rfl) (hs2 : starEach [e2] X.env = (false, eval e2 X.env) :: starEach [] X.env := by rfl) (hpl : (backTo pos (starEach [e2] X.env)).any (·.1) = false := by rfl) :
    PS X (.Raise (some (.Call (.Name x p) [e, e2] [] pos)) none pos2) (tRaise2 C f g W te tu) := by
  have R := ps_raise (pos := pos2) hc tk (pmk_oex (p := p) (pos := pos) O iC tI F hr hb .nil pass0 hg hm (pa_cons (pe_up he) (pa_cons (pe_up hu) pa_nil hs2) hs) hdb hs hpl)
  refine ⟨fun pins s σ H D I h => R.run pins s σ H D I ?_⟩
  refine ⟨_, h, fun v H1 q => ⟨_, q, fun u H2 q2 => ⟨by show 2 ≤ 1000; decide, fun a na => ⟨a, v, u, rfl, upd_same, fun d nd ne => ⟨rfl, d, [(g, u), (f, v)], ?_, upd_same, ?_, ?_⟩⟩⟩⟩⟩
  · rw [upd_ne ne.symm, upd_same]
  · rw [upd_ne ne] at nd; exact nd
  · rw [upd_ne ne] at nd
    rw [left2 na]
    exact q2 d nd
end
end Ru
set_option Elab.async false
set_option maxRecDepth 100000
set_option autoImplicit false
/-! try: .. except G as n: y = e -/
namespace Er
open PySem L2 PySem.Spec PyProof.Rows PySem.Calls
/-- what 'except G as n: y = e' wishes of an error of the body: i is n's slot, j is y's -/
def wVal (K : PySem.W.Frag) (c : Value) (i j m : Nat) (te : Addr → Value → Option Addr → TE) (Wout : WX) (D : Ends) : WX := fun cls d σ H =>
  ∃ b, PySem.W.exmOne K cls c = some b ∧ (b = true → σ.length = m → ∀ a, H a = none → te a cls d (σ.set i (some (.ref a))) H (fun v H' => D.nx (((σ.set i (some (.ref a))).set j (some v)).set i none) H')) ∧ (b = false → Wout cls d σ H)
section
variable {X : Cx} {x n y : Str} {c : Value} {i j : Nat} {body : List Stmt} {e₀ : Expr} {te : Addr → Value → Option Addr → TE} {np yp sp pos pos' : Pos} {tb : WX → TS} {Wout : WX}
theorem ps_try_val (hs : X.stack = X.env :: X.outer) (hf : X.env.frame = some X.env.locals) (hex : X.ex = []) (hN : X.N.Nodup) (hi : X.N[i]? = some n) (hj : X.N[j]? = some y) (hln : X.env.kindOf n = some .local) (hly : X.env.kindOf y = some .local) (hc : Names X x c) (tk : Takes X Wout)
    (hsw : swapsWith e₀ (some (.Name y yp)) sp.line X.env = pure false)
    (he : ∀ (a : Addr) (oe : Obj) (cls : Value) (d : Option Addr) (pn : List (Addr × Obj)), Zc cls d oe → (∃ vs, oe.data = .fields vs) → PE (X.suite a ((a, oe) :: pn)) e₀ (te a cls d))
    (hb : ∀ (W : WX) (pn : List (Addr × Obj)) (xe : Value → Shared → Prop), Takes (X.tr pn xe) W → PassesOwn (model X.prog X.w) X.A X.env xe → PSs (X.tr pn xe) body (tb W)) :
    PS X (.Try body [.ExceptHandler (some (.Name x np)) (some n) [.Assign [.Name y yp] e₀ sp] pos'] [] [] pos) (fun D σ H => tb (wVal X.K c i j X.N.length te Wout D) D σ H) := by
  constructor
  intro pins s σ H D I h
  have fine := I.ok
  have frames : X.A.frames = some (X.env :: X.outer) := fine.frames.trans (congrArg some hs)
  have run := (hb (wVal X.K c i j X.N.length te Wout D) (X.pn ++ pins) (fun e s₁ => wpAny (model X.prog X.w) X.A (noteFrame e X.env) (fun _ s₂ => wpAny (model X.prog X.w) X.A (setFlight e none) (fun _ s₃ =>
    wpAny (model X.prog X.w) X.A (handleBy e X.env [.ExceptHandler (some (.Name x np)) (some n) [.Assign [.Name y yp] e₀ sp] pos']) (SP X pins D) X.xe s₃) X.xe s₂) X.xe s₁) ?hit PassesOwn.looking).run [] s σ H D (I.toTry _) h
  case hit =>
    rintro u s' ⟨a, B, sI, pins1, σ1, H1, cls, d, rfl, J0, ground, up0, sky0, na, os, ag, b, test, yes, no⟩
    have J : Inv X pins σ1 H1 sI := J0.ofTry fine
    have sky : Sky B (X.env :: X.outer) a (Zc cls d) X.env.locals s'.heap := hs ▸ sky0
    show wpAny (model X.prog X.w) X.A (noteFrame (.ref a) X.env) _ _ _
    refine Sky.land Zc.steady frames hf sky fun g3 fly3 up3 => ?_
    have J3 : Inv X pins σ1 H1 { s' with heap := g3 } := J.landed ground fly3.1 (up0.trans up3) os ag
    obtain ⟨o3, v3, e3, z3, d3⟩ := fly3.there
    have away : a ∉ frs (X.env :: X.outer) := fun mem => by
      obtain ⟨_, o, e, no_⟩ := fly3.2.2.1.mem mem
      rw [e3] at e; cases e
      exact no_ _ d3
    have awayL : a ≠ X.env.locals := fun z => away (List.mem_filterMap.mpr ⟨X.env, List.mem_cons_self, hf.trans (congrArg some z.symm)⟩)
    have awayF : a ∉ X.fs := fun mem => by
      obtain ⟨e, m1, m2⟩ := List.mem_filterMap.mp mem
      exact away (List.mem_filterMap.mpr ⟨e, List.mem_cons_of_mem _ m1, m2⟩)
    -- the error is younger than the entry
    have young : sI.heap.get? a = none := by
      cases q : sI.heap.get? a with
      | none => rfl
      | some o =>
        have qB := ground a o q (by rw [hs]; exact away)
        rw [fly3.2.1] at qB; cases qB
    have entry : X.s_0.heap.get? a = none := by
      cases q : X.s_0.heap.get? a with
      | none => rfl
      | some o =>
        obtain ⟨o', q'⟩ := J.base.there a o q (by rw [hex]; exact List.not_mem_nil)
        rw [young] at q'; cases q'
    have apart : ∀ p ∈ X.pn ++ pins, p.1 ≠ a := fun p hp z => by
      have q := (J.pin p hp).1
      rw [z, young] at q; cases q
    have S3 := J3.suite e3 d3 na awayL awayF
    refine wpAny_handleBy_cons (codeAny_handlers_test ?_) (by intro q; cases q)
    have LT : PySem.W.Looks (model X.prog X.w) g3 (typeOf (.ref a)) cls := fun _ _ _ _ k q => wpAny_typeOf_ref (k _ _ e3) (by rw [z3.1]; exact q)
    have LM := PySem.W.exm_one (M := model X.prog X.w) J3.kIn LT test
    have named : ∀ {Q : Value → Shared → Prop} {E : Value → Shared → Prop}, Q c { s' with heap := g3 } → wpAny (model X.prog X.w) (X.A.mark (some (.ref a))) (eval (.Name x np) X.env) Q E { s' with heap := g3 } := fun {Q E} q => by
      rcases hc with ⟨hg, hdbg, hm | ⟨hm, hv, hnn⟩⟩
      · exact ld_glob (X := X.suite a ((a, o3) :: (X.pn ++ pins))) S3 hg hm q hdbg
      · exact ld_blt (X := X.suite a ((a, o3) :: (X.pn ++ pins))) S3 hg hm hv q hnn hdbg
    refine named (LM.here ?_)
    cases b with
    | true =>
      refine codeAny_handlers_suite_as (HandSPX.lands_againZ fly3 fun g4 fly4 up4 => ?_)
      have J4 : Inv X pins σ1 H1 { s' with heap := g4 } := J.landed ground fly4.1 ((up0.trans up3).trans up4) os ag
      obtain ⟨o4, v4, e4, z4, d4⟩ := fly4.there
      have S4 := J4.suite e4 d4 na awayL awayF
      refine store_ok (X := X.suite a ((a, o4) :: (X.pn ++ pins))) (v := .ref a) S4 hN hi (.inl hln) rfl (fun s5 S5 => ?_) (.inr hln)
      have one := pss_one (X := X.suite a ((a, o4) :: (X.pn ++ pins))) (ps_set (pos := sp) (pos' := yp) (i := j) hN hj (.inl hly) (he a o4 cls d (X.pn ++ pins) z4 ⟨v4, d4⟩) hsw (.inr hly))
      refine wpAny_mono (one.run [] s5 _ H1 { nx := fun σ' H' => D.nx (σ'.set i none) H', rt := fun _ _ => False } S5 (yes rfl S4.len a na)) (fun fl s6 got => ?_) (fun _ _ z => False.elim z)
      cases fl with
      | next =>
        obtain ⟨_, _, S6, q6⟩ := got
        exact gone_ok (S6.unsuite fine) hN hi hln fun s7 J7 => ⟨_, _, J7, q6⟩
      | ret u => obtain ⟨_, _, _, _, _, z⟩ := got; exact z.elim
      | brk => obtain ⟨_, _, _, z⟩ := got; exact z.elim
      | cont => obtain ⟨_, _, _, z⟩ := got; exact z.elim
    | false =>
      show wpAny (model X.prog X.w) X.A (handleBy (.ref a) X.env []) _ _ _
      refine wpAny_handleBy_nil ?_
      obtain ⟨_, _, _, oe, vs, T, oT, us, q1, q2, q3, q4, q5⟩ := id fly3
      unfold PySem.passOn
      refine wpAny_bind (wpAny_field q1 q3 q4 ?_)
      rw [if_neg (by simp)]
      have out : wpAny (model X.prog X.w) X.A (setFlight (.ref a) X.env.frame) (fun _ s4 => wpAny (model X.prog X.w) X.A (throw (.ref a) : Sem Flow) (SP X pins D) X.xe s4) X.xe { s' with heap := g3 } := by
        rw [hf]
        exact HandSPX.setFlight_upZ fly3 fun g4 held up4 => wpAny_throw (tk _ _ ⟨a, B, sI, pins, σ1, H1, cls, d, rfl, J, ground, (up0.trans up3).trans up4, .inr (.inr (by rw [hs]; exact held)), na, os, ag, no rfl⟩)
      first
        | exact wpAny_bind (wpAny_pure (wpAny_bind out))
        | exact wpAny_bind out
  refine wpAny_Try_except (wpAny_mono run (fun f s1 got => ?_) fun e s1 he => he)
  cases f with
  | next => obtain ⟨σ', H', J', q⟩ := got; exact wpAny_execs_nil ⟨σ', H', J'.ofTry fine, q⟩
  | brk => obtain ⟨σ', H', J', q⟩ := got; exact ⟨σ', H', J'.ofTry fine, q⟩
  | cont => obtain ⟨σ', H', J', q⟩ := got; exact ⟨σ', H', J'.ofTry fine, q⟩
  | ret u => obtain ⟨v, σ', H', J', r, q⟩ := got; exact ⟨v, σ', H', J'.ofTry fine, r, q⟩
end
end Er
set_option Elab.async false
set_option maxRecDepth 100000
set_option autoImplicit false
/-! C.m(e, ..), m a classmethod: what is raised is wished for at the caller's slots -/
namespace Ru
open PySem L2 PySem.Spec PyProof.Rows PySem.Calls Er ClX
section
variable {X : Cx} {CX : CXT} {k : Nat} {C p g : Addr} {mc : Value} {sp : Sp} {E : L2.St → XK} {o e : Expr} {es : List Expr} {m : Str} {pos apos : Pos} {ta : TE} {t : TA} {pl : Sem Bool} {pins : List (Addr × Obj)} {σ : L2.St} {H : Hp} {s : Shared}
theorem run_cmS {q : Addr} {Q : VK} {us : List Value} {vs : List V} (F : FnR X.prog X.w X.K X.mg X.base CX k g sp) (hr : Room k X.A) (hx : PassesAt CX X σ (E σ)) (I : Inv X ((q, PySem.W.methodObj (.ref g) (.ref C)) :: pins) σ H s)
    (r : Vals vs us) (h : sp (.ref C :: vs) H Q (E σ)) : wpAny (model X.prog X.w) X.A (call (.ref q) us) (EP X pins σ Q) X.xe s := by
  have z : wpAny (model X.prog X.w) X.A (call (.ref q) us) (EP X ((q, PySem.W.methodObj (.ref g) (.ref C)) :: pins) σ Q) X.xe s := by
    refine wpAny_call (PySem.W.method_call (pin_at I) (codeAny_mono (F X.A X.stack s H (.ref C :: us) (.ref C :: vs) Q (E σ) hr I.env0 (.cons rfl r) h) fun res s' got => ?_))
    rcases res with er | fl
    · exact hx _ H s er s' I got
    · cases fl <;> first | exact I.after got | exact False.elim got
  exact thn z fun _ _ y => unpinE y
def tCMethS (C : Addr) (sp : Sp) (E : L2.St → XK) (ta : TE) (t : TA) : TE := fun σ H Q => ta σ H fun x H1 => x = .ref C ∧ t σ H1 fun vs H2 => sp (.ref C :: vs) H2 Q (E σ)
theorem pe_cmethS (he : PE X o ta) (r : CRead X.K C mc) (c : CMet X.K C mc m p g) (F : FnR X.prog X.w X.K X.mg X.base CX k g sp) (hr : Room k X.A) (hx : ∀ σ, PassesAt CX X σ (E σ)) (ha : PA X (e :: es) t)
    (hst : starEach (e :: es) X.env = (false, eval e X.env) :: starEach es X.env := by rfl) (hpl : (backTo pos (starEach es X.env)).any (·.1) = false := by rfl)
    (ht : eval (.Call (.Attribute o m apos) (e :: es) [] pos) X.env = (do
      let ov ← eval o X.env
      standAt apos.atName
      let (f, first) ← holding [ov] (getMethod ov m pl)
      callWith pos f first (backTo pos (starEach (e :: es) X.env)) (backToKw pos (keywordEach [] X.env))) := by rfl) :
    PE X (.Call (.Attribute o m apos) (e :: es) [] pos) (tCMethS C sp E ta t) := by
  refine ⟨fun pins s σ H Q I h => PySem.W.methodCall_KW (pl := pl) (thn (he.run pins s σ H _ I h) fun u s1 ⟨x, H1, I1, rx, ex, q⟩ => ?_) ht⟩
  subst ex
  obtain rfl : u = Value.ref C := rx
  refine getmethcm_ok I1 r c fun s2 I2 => callwith_cm I2 (base_none I1 (Nat.le_refl _)) c.fi (thn (ha.run pos _ s2 σ H1 _ I2 q) fun us s3 ⟨vs, H2, I3, rv, q2⟩ => ⟨⟨pin_at I3, I3.kIn⟩, ?_⟩) hst hpl
  exact run_cmS F hr (hx σ) I3 rv q2
end
end Ru
set_option Elab.async false
set_option maxRecDepth 100000
set_option autoImplicit false
/-! super().__init__(..) of a plain class of the program, as a last line. -/
namespace Er
open PySem L2 PySem.Spec PyProof.Rows PySem.Calls
/-- a promise of a def by its place, of a promise of it -/
theorem fnR_of {P : Program} {w : World} {K : PySem.W.Frag} {mg : Str → Option Value} {base : Heap} {CX : CXT} {k : Nat} {f : Addr} {fd : FuncData} {ps : List Str} {sp : Sp} (F : FnOk P w K mg base CX k f fd ps sp) (bd : Binds K fd ps []) : FnR P w K mg base CX k f sp := by
  intro A outer s H us vs Q E hr e0 r want
  have len : us.length = ps.length := r.length.symm.trans (F.len _ _ _ _ want)
  have bt : BindsTo s fd ⟨us, []⟩ (ps.zip us) := by
    have z := bd s us (e0.mod.kin.keeps fun b o e => (e0.bs b o e).1) (by rw [List.append_nil]; exact len)
    rw [List.append_nil] at z
    exact z
  exact F.run A outer s H ⟨us, []⟩ us vs Q E hr e0 bt r want
/-- what is written of the class C, of its __init__ at fI (its cell at cc, its code at cda), and of the __init__ above, at f2 -/
structure SupC (prog : Program) (K : PySem.W.Frag) (C fI cc cda f2 : Addr) : Prop where
  cls : ∃ cd oD, PySem.W.clsIn K C = some cd ∧ K.lookup C = some oD ∧ oD.data = .cls cd
  sup : PySem.W.ks_superIn K C C "__init__" = some (some (.ref f2))
  ty : PySem.W.typeIn K (.ref f2) = some (.type "function")
  fi : PySem.W.fnIn K f2 = true
  any_ : PySem.W.nsIn K cStatics "thirdparty.any" = some none
  self_ : PySem.W.mroIn K C (.ref C) = some true
  cell : ∃ cl cld csl, K.lookup cc = some ⟨cl, cld, .cell (some (.ref C)), csl⟩
  code : ∃ ccl cdd vs ccs file tf, K.lookup cda = some ⟨ccl, cdd, .fields vs, ccs⟩ ∧ vs[2]? = some (.str file tf) ∧ ((prog.main.file : Str) == file) = true
  top : (prog.main.scope.names.lookup ("super" : Str)).isSome = false
section
variable {P : Program} {w : World} {K : PySem.W.Frag} {mg : Str → Option Value} {base : Heap}
theorem start_inv2 {ps : List Str} {qual : Str} {scope : Scope} {f cda cc : Addr} {A : Around} {outer : List Env} {s : Shared} {H : Hp} {us : List Value} {vs : List V} {h0 : Heap} {tk : Nat} (S : ErrS ps scope) (hcell : ∃ cl cld C csl, K.lookup cc = some ⟨cl, cld, .cell (some (.ref C)), csl⟩) (hd : A.handled = none) (e0 : Env0 P w K mg base A outer s H)
    (hl : vs.length = ps.length) (r : Vals vs us) (hns : h0.Ns s.heap.objs.size (fun x => (ps.zip us).reverse.lookup x)) (keep : ∀ b o, s.heap.get? b = some o → h0.get? b = some o) :
    Inv (exX P w K mg base ps qual scope f cda cc A outer s H) [] (L2.start ps vs) H { s with heap := h0, toks := tk } := by
  obtain ⟨cl, cld, C, csl, hcell⟩ := hcell
  have bc := e0.mod.kin _ _ hcell
  have one : ∀ {x : Str} {c : Addr}, ([(("__class__" : Str), cc)] : List (Str × Addr)).lookup x = some c → x = "__class__" ∧ c = cc := by
    intro x c e
    by_cases q : x = "__class__"
    · subst q
      have z : some cc = some c := e
      exact ⟨rfl, (Option.some.inj z).symm⟩
    · have q2 : (x == ("__class__" : Str)) = false := by simpa using q
      simp [List.lookup, q2] at e
  have noex : ∀ b : Addr, b ∉ (exX P w K mg base ps qual scope f cda cc A outer s H).ex := fun b z => absurd (show b ∈ ([] : List Addr) from z) (by simp)
  refine ⟨⟨e0.mod, S.kind, rfl, rfl, Nat.le_refl _, fun x y c h1 h2 => ?_, fun x hx => ?_, fun x c z _ => absurd (show false = true from z) Bool.false_ne_true, fun _ => hd, Around.frames_deeper e0.frames, .inr ⟨rfl, rfl⟩, fun b z => absurd z (noex b), e0.bs, e0.bsz, fun b _ _ => noex b, fun b z => absurd z (noex b), e0.funs, e0.frf⟩,
    rfl, e0.bare, Un.kept keep, ⟨_, hns, fun i x v h1 h2 h3 => ?_⟩, fun x c h => ?_, e0.hok.fresh (Nat.le_refl _), fun x c h => ?_, fun p hp => absurd (show p ∈ ([] : List (Addr × Obj)) from hp) (by simp), e0.hok.kept keep, ?_⟩
  · exact (one h1).1.trans (one h2).1.symm
  · have hx' : scope.names.lookup x = some .cell ∨ scope.names.lookup x = some .free := hx
    rcases hx' with z | z
    · exact absurd rfl (S.nocell _ (PySem.mem_of_lookup z))
    · refine ⟨cc, ?_⟩
      show ([(("__class__" : Str), cc)] : List (Str × Addr)).lookup x = some cc
      rw [S.free x z]
      rfl
  · have hi : i < vs.length := by
      have q := (List.getElem?_eq_some_iff.mp h1).1
      have q : i < ps.length := q
      omega
    have ha : vs[i]? = some v := by
      unfold L2.start at h2
      rw [List.getElem?_append_left (by simpa using hi), List.getElem?_map] at h2
      cases e : vs[i]? with
      | none => rw [e] at h2; cases h2
      | some a => rw [e] at h2; cases h2; rfl
    obtain ⟨u, hu, rv⟩ := r.get ha
    have hp : ps[i]? = some x := h1
    exact ⟨u, rv, .inl ⟨S.par x (List.mem_of_getElem? hp), zip_rev S.nd (r.length.symm.trans hl) hp hu⟩⟩
  · obtain ⟨_, rfl⟩ := one h
    exact ⟨_, _, keep _ _ (e0.bs _ _ bc).1, rfl⟩
  · obtain ⟨_, rfl⟩ := one h
    exact (e0.bs _ _ bc).2
  · unfold L2.start
    show _ = ps.length
    rw [List.length_append, List.length_map, List.length_replicate]
    omega
/-- one statement ahead of the line -/
theorem at_cons {X : Cx} {st : Stmt} {rest body : List Stmt} {tp : TS} {pins : List (Addr × Obj)} {σ : L2.St} {H : Hp} {s : Shared} {Q : Flow → Shared → Prop} {E : Value → Shared → Prop} (hxe : X.xe = fun _ _ => False) (hp : PS X st tp) (I : Inv X pins σ H s)
    (h : tp { nx := fun σ' H' => ∀ s', Inv X pins σ' H' s' → _root_.PySem.wpAt (model X.prog X.w) X.A (.func body X.env) (execs rest X.env) Q E s', rt := fun _ _ => False } σ H) :
    _root_.PySem.wpAt (model X.prog X.w) X.A (.func body X.env) (execs (st :: rest) X.env) Q E s := by
  refine ks_wpAt_execs_cons (wpAt_of_wpAny (wpAny_mono (hp.run pins s σ H _ I h) (fun fl s1 out => ?_) fun e s1 z => ?_))
  · cases fl with
    | next => obtain ⟨σ', H', J, q⟩ := out; exact q s1 J
    | ret u => obtain ⟨_, _, _, _, _, z⟩ := out; exact z.elim
    | brk => obtain ⟨_, _, _, z⟩ := out; exact z.elim
    | cont => obtain ⟨_, _, _, z⟩ := out; exact z.elim
  · rw [hxe] at z
    exact z.elim
/-- super().__init__(e, ..), the last line -/
theorem superAt {ps : List Str} {qual : Str} {scope : Scope} {C fI cc cda f2 x dx : Addr} {A : Around} {outer : List Env} {s0 s : Shared} {H0 H : Hp} {fd : FuncData} {oc : Value} {od : Option Addr} {osl : Array (Option Value)} {ar : Arg} {fs : List (Str × V)} {body : List Stmt} {e : Expr} {es : List Expr} {t : TA} {k : Nat} {sp : Sp}
    {pins : List (Addr × Obj)} {σ : L2.St} {Qn : Hp → Prop} {Q : Flow → Shared → Prop} {E : Value → Shared → Prop} {p0 p1 p2 p4 p5 : Pos} {pl : Sem Bool} (S : ErrS ps scope) (T : SupC P K C fI cc cda f2) (lk : K.lookup fI = some ⟨oc, od, .func fd, osl⟩) (hp : (fd.params.posonlyargs ++ fd.params.args).head? = some ar) (har : ar.arg = "self") (gs : mg "super" = none)
    (F2 : FnR P w K mg base CX0 k f2 sp) (hr : Room k (exX P w K mg base ps qual scope fI cda cc A outer s0 H0).A) (ha : PA (exX P w K mg base ps qual scope fI cda cc A outer s0 H0) (e :: es) t) (hs0 : σ[0]? = some (some (.ref x))) (hx : H x = some (.ins C dx fs)) (I : Inv (exX P w K mg base ps qual scope fI cda cc A outer s0 H0) pins σ H s)
    (want : t σ H fun vs H1 => sp (.ref x :: vs) H1 (fun _ H2 => Qn H2) fun _ _ _ => False) (go : ∀ s' H', Inv (exX P w K mg base ps qual scope fI cda cc A outer s0 H0) pins σ H' s' → Qn H' → Q .next s')
    (he : eval (.Call (.Attribute (.Call (.Name "super" p0) [] [] p1) "__init__" p2) (e :: es) [] p4) (exX P w K mg base ps qual scope fI cda cc A outer s0 H0).env = (do
        let ov ← attributeBase (.Call (.Name "super" p0) [] [] p1) "__init__" (exX P w K mg base ps qual scope fI cda cc A outer s0 H0).env (eval (.Call (.Name "super" p0) [] [] p1) (exX P w K mg base ps qual scope fI cda cc A outer s0 H0).env)
        standAt p2.atName
        let (f, first) ← holding [ov] (getMethod ov "__init__" pl)
        callWith p4 f first (backTo p4 (starEach (e :: es) (exX P w K mg base ps qual scope fI cda cc A outer s0 H0).env)) []) := by rfl)
    (hi : interactive (exX P w K mg base ps qual scope fI cda cc A outer s0 H0).env = false := by rfl) (hsw : swapsWith (.Call (.Attribute (.Call (.Name "super" p0) [] [] p1) "__init__" p2) (e :: es) [] p4) none p5.line (exX P w K mg base ps qual scope fI cda cc A outer s0 H0).env = pure false := by rfl)
    (hst : starEach (e :: es) (exX P w K mg base ps qual scope fI cda cc A outer s0 H0).env = (false, eval e (exX P w K mg base ps qual scope fI cda cc A outer s0 H0).env) :: starEach es (exX P w K mg base ps qual scope fI cda cc A outer s0 H0).env := by rfl) (hpl : (backTo p4 (starEach es (exX P w K mg base ps qual scope fI cda cc A outer s0 H0).env)).any (·.1) = false := by rfl) :
    _root_.PySem.wpAt (model P w) (exX P w K mg base ps qual scope fI cda cc A outer s0 H0).A (.func body (exX P w K mg base ps qual scope fI cda cc A outer s0 H0).env) (exec (.Expr (.Call (.Attribute (.Call (.Name "super" p0) [] [] p1) "__init__" p2) (e :: es) [] p4) p5) (exX P w K mg base ps qual scope fI cda cc A outer s0 H0).env) Q E s := by
  obtain ⟨cd, oD, hcd, hD, hDd⟩ := T.cls
  obtain ⟨ccl, cdd, vs, ccs, file, tf, hcode, hvs, hfile⟩ := T.code
  obtain ⟨cl, cld, csl, hcell⟩ := T.cell
  have along : PySem.W.alongIn K "__init__" ((cd.mro.dropWhile (· != .ref C)).drop 1) = some (some (.ref f2)) := by
    obtain ⟨cd', h1, h2⟩ := Option.bind_eq_some_iff.mp T.sup
    rw [hcd] at h1
    cases h1
    exact h2
  have KX : K.In s.heap := I.kIn
  obtain ⟨od', J⟩ := Rg.instAt I hx
  have ne : x ≠ C := PySem.W.ks_ne KX J hcd
  obtain ⟨mb, hmb, hbb⟩ := I.mod.blt
  obtain ⟨m, hns, hl⟩ := I.loc
  have hloc : scope.names.lookup ("self" : Str) = some .local := S.par _ (List.mem_of_getElem? S.self_)
  have hself : m "self" = some (.ref x) := by
    obtain ⟨u, ru, look⟩ := hl 0 "self" (.ref x) S.self_ hs0 (.inl hloc)
    obtain rfl : u = Value.ref x := ru
    rcases look with ⟨_, q⟩ | ⟨hk, _⟩
    · exact q
    · exfalso
      have hk' : scope.names.lookup ("self" : Str) = some .cell ∨ scope.names.lookup ("self" : Str) = some .free := hk
      rw [hloc] at hk'
      rcases hk' with z | z <;> cases z
  have I0 := I
  obtain ⟨hh, g, d, tk, os⟩ := s
  refine PySem.ks_wpAt_Expr_any (PySem.ks_wpAt_MethodCall (PySem.ks_wpAt_super_base (env := PySem.W.ksEnv qual scope s0.heap.objs.size fI (.ref cda) cc) S.sup S.cls (by decide) rfl (KX _ _ lk) rfl hp rfl (KX _ _ hcode) rfl hvs hfile T.top ?_) he) hi hsw
  refine PySem.W.ks_loadName_global S.kind S.sup (loadGlobal_builtin (env := PySem.W.ksEnv qual scope s0.heap.objs.size fI (.ref cda) cc) (I.mod.glob.keeps I.bk) gs (hmb.keeps I.bk) ((hbb _ (by decide)).trans (by decide +kernel : bootBuiltins "super" = some (.type "super"))) ⟨rfl, ?_⟩)
  rw [har]
  refine wpAny_loadName_free S.kind S.cls rfl ⟨_, KX _ _ hcell, rfl⟩ (wpAny_loadName_local S.kind hloc hns hself (PySem.ks_wpAny_isType_cls (KX _ _ hD) hDd ⟨rfl, ?_⟩))
  refine PySem.ks_wpAny_call_super (KX _ _ hD) hDd J.at_ J.cls (fun c e => ?_) (PySem.W.looks_mroIn KX T.self_) (fun h1 hso keep => ?_)
  · have q := J.no
    unfold PySem.W.notCls at q
    rw [e] at q
    exact Bool.noConfusion q
  have X1 := KX.keeps keep
  obtain ⟨of, hof, hofc⟩ : ∃ of, h1.get? f2 = some of ∧ of.cls = .type "function" := by
    have ht' : (K.lookup f2).map (·.cls) = some (.type "function") := T.ty
    cases z : K.lookup f2 with
    | none => rw [z] at ht'; cases ht'
    | some of => rw [z] at ht'; exact ⟨of, X1 _ _ z, Option.some.inj ht'⟩
  refine PySem.ks_wpAny_getMethod_super hso (PySem.W.looks_opaque X1 T.any_) (l₀ := cd.mro) (fun A Q E s k q => wpAny_bind (PySem.W.looks_clsIn X1 hcd A _ E s k (wpAny_pure q))) rfl X1 along hof hofc ne (by decide) ?_
  have I1 := I0.kept (t' := tk) keep
  have I2 := ClX.pin_new (o := PySem.W.methodObj (.ref f2) (.ref x)) (h' := h1.push (PySem.W.methodObj (.ref f2) (.ref x))) (a := h1.objs.size) (t' := tk + 1) I1 (fun _ _ z => Heap.get?_push_of_some _ z) (Nat.le_refl _) (Heap.get?_push_size h1 rfl) (fun v z => nomatch z)
  refine ClX.callwith_cm I2 (ClX.base_none I1 (Nat.le_refl _)) T.fi (wpAny_mono (ha.run p4 _ _ σ H _ I2 want) (fun us s3 ⟨vs, H2, I3, rv, q2⟩ => ⟨⟨ClX.pin_at I3, I3.kIn⟩, ?_⟩) fun _ _ z => False.elim z) hst hpl
  exact wpAny_mono (ClX.run_cm F2 hr pass0 I3 rv q2) (fun v s' ⟨u, H', I', r, q⟩ => go s' H' I' q) fun _ _ z => False.elim z
/-- a def whose last line is super().__init__(..) -/
theorem ok_sup {k : Nat} {ps : List Str} {name qual : Str} {params : Arguments} {body : List Stmt} {scope : Scope} {C f cda cc f2 : Addr} {oc dV kV doc pm ct : Value} {od an : Option Addr} {osl : Array (Option Value)} {sp : Sp} (T : SupC P K C f cc cda f2) (S : ErrS ps scope)
    (lk : K.lookup f = some ⟨oc, od, .func (PySem.W.ksFn name qual params body scope dV kV doc pm an (.ref cda) ct cc), osl⟩) (hcd : PySem.W.codeIn K (.ref cda) qual = true) (len : ∀ vs H Q E, sp vs H Q E → vs.length = ps.length)
    (hbody : ∀ (A : Around) (outer : List Env) (s : Shared) (H : Hp) (vs : List V) (Q : VK) (E : XK), Room k (exX P w K mg base ps qual scope f cda cc A outer s H).A → sp vs H Q E → ∀ s1, Inv (exX P w K mg base ps qual scope f cda cc A outer s H) [] (L2.start ps vs) H s1 →
      _root_.PySem.wpAt (model P w) (exX P w K mg base ps qual scope f cda cc A outer s H).A (.func body (exX P w K mg base ps qual scope f cda cc A outer s H).env) (execs body (exX P w K mg base ps qual scope f cda cc A outer s H).env)
        (fun fl s2 => fl = .next ∧ ∃ σ' H2, Inv (exX P w K mg base ps qual scope f cda cc A outer s H) [] σ' H2 s2 ∧ Q .non H2) (fun _ _ => False) s1) :
    FnOk P w K mg base CX0 (k + 1) f (PySem.W.ksFn name qual params body scope dV kV doc pm an (.ref cda) ct cc) ps sp := by
  refine ⟨len, fun A outer s H args us vs Q E hr e0 hbind r hsp => ?_⟩
  have there : ∀ b o, base.get? b = some o → s.heap.get? b = some o := fun b o e => (e0.bs b o e).1
  have KX : K.In s.heap := e0.mod.kin.keeps there
  have hl := len _ _ _ _ hsp
  obtain ⟨cl, cld, csl, hcell⟩ := T.cell
  refine ks_codeAny_call_defAt hr.depth (KX _ _ lk) rfl (e0.mod.nolimit.keeps there) (PySem.W.codeRec_of KX hcd) rfl hbind S.nocell (fun x hx => S.par _ (List.of_mem_zip hx).1) (fun h0 hns keep => ?_) S.co S.gen S.kind
  have I0 := start_inv2 (w := w) (qual := qual) (f := f) (cda := cda) (tk := s.toks + (ps.zip us).length) S ⟨_, _, _, _, hcell⟩ hr.hd e0 hl r hns keep
  refine ks_wpAt_mono (hbody A outer s H vs Q E (hr.deeper _) hsp _ I0) (fun fl s2 out => ?_) fun _ _ z => False.elim z
  obtain ⟨rfl, σ', H2, J, q⟩ := out
  exact ⟨V.non, H2, J.os, J.bare, J.base, J.hok, rfl, q⟩
end
end Er
set_option Elab.async false
set_option maxRecDepth 100000
set_option autoImplicit false
/-! enumerate over a tuple -/
namespace Tn
open PySem L2 PySem.Spec PyProof.Rows PySem.Calls
open Builtin
set_option maxHeartbeats 1000000 in
theorem enumNew {v : Value} {o : Obj} {G : Heap → Prop} (B : Begins v o G) :
    Meets (Builtin.«enumerate.__new__» ⟨[.type "enumerate", v], []⟩) (fun _ R s => G s.heap ∧
      R (.ok (.ret (.ref (s.heap.push o).objs.size))) { s with heap := (s.heap.push o).push { cls := .type "enumerate", data := .fields #[.none, .bool false, .ref s.heap.objs.size, rawInt 0, .none, .none] } }) :=
  .of_wp fun prog w A R s h => by
    obtain ⟨hp, g, d, tk, os⟩ := s; obtain ⟨h1, h⟩ := h
    have hsub := sub_enumerate
    have q1 : ∀ {A' : Around} {E : Value → Shared → Prop} {Q : Value → Shared → Prop}, Q (.ref hp.objs.size) ⟨hp.push o, g, d, tk, os⟩ → wpAny (model prog w) A' (pyIter v) Q E ⟨hp, g, d, tk, os⟩ :=
      fun q => B.iter prog w _ _ ⟨hp, g, d, tk, os⟩ _ h1 q
    wp_walk using q1
    refine wpAny_stack_any fun st => wpAny_pure ?_
    split
    · rename_i c _ _ _ _ _
      cases (c == Value.type "enumerate")
      · wp_walk using q1
        exact ⟨_, rfl, h⟩
      · wp_walk using q1
        exact ⟨_, rfl, h⟩
    · wp_walk using q1
      exact ⟨_, rfl, h⟩
section
variable {prog : Program} {w : World} {A : Around} {E : Value → Shared → Prop} {s : Shared}
theorem enumBegins {v : Value} {o : Obj} {G : Heap → Prop} {Q : Value → Shared → Prop} (B : Begins v o G) (h1 : G s.heap)
    (h : ∀ h', IsEnum h' (s.heap.objs.size + 1) s.heap.objs.size 0 .none → h'.get? s.heap.objs.size = some o → h'.objs.size = s.heap.objs.size + 2 →
      (∀ b o, s.heap.get? b = some o → h'.get? b = some o) → Q (.ref (s.heap.objs.size + 1)) { s with heap := h' }) :
    wpAny (model prog w) A (call (.type "enumerate") [v]) Q E s := by
  refine callType_new F.called_enumerate (by decide) (F.typeCall_enumerate_1 _) (F.newCall_enumerate_1 _) (fun obj => F.args_object_init_2 obj _) F.entry_enumerate_new
    (enumNew B) ⟨h1, ?_⟩
  have hz : (s.heap.push o).objs.size = s.heap.objs.size + 1 := Heap.size_push ..
  show _ ∧ _
  rw [hz]
  have he : IsEnum ((s.heap.push o).push { cls := .type "enumerate", data := .fields #[.none, .bool false, .ref s.heap.objs.size, rawInt 0, .none, .none] }) (s.heap.objs.size + 1) s.heap.objs.size 0 .none := by
    have := Heap.get?_push_size (s.heap.push o) (o := { cls := .type "enumerate", data := .fields #[.none, .bool false, .ref s.heap.objs.size, rawInt 0, .none, .none] }) rfl
    rw [hz] at this; exact this
  refine ⟨⟨_, he, rfl⟩, h _ he (Heap.get?_push_of_some _ (Heap.get?_push_size _ B.free)) (by rw [Heap.size_push, hz]) fun b o x => Heap.get?_push_of_some _ (Heap.get?_push_of_some _ x)⟩
end
/-- the tuple at a, each item in a new pair -/
def Iet (K : PySem.W.Frag) (a : Addr) : It :=
  ⟨fun i H => ∃ (xs : List V) (x : V), SqT K H a xs ∧ xs[i]? = some x, fun i H v H' => ∃ T x, v = .ref T ∧ H T = none ∧ H' = upd H T (.tup [.int (i : Nat), x]) ∧ ∀ xs, SqT K H a xs → xs[i]? = some x, fun i H => ∃ xs : List V, SqT K H a xs ∧ xs.length ≤ i⟩
theorem turn_enumT {P : Program} {w : World} {K : PySem.W.Frag} {elts : List Expr} {kk : Nat} {tpos : Pos} (a e it : Addr) (hae : a ≠ it) (hae2 : e ≠ a) :
    Turn P w K (.Tuple elts kk tpos) (Iet K a) [e, it] e (fun i h => (∃ old, IsEnum h e it ((i : Nat) : Int) old) ∧ h.IsTupleIter it a i ∧ e ≠ it) where
  mem := by simp
  obj := fun i h st b hb => by
    obtain ⟨⟨old, he⟩, ⟨o, ho, hc, hd⟩, _⟩ := st
    have e' : b = e ∨ b = it := by simpa using hb
    rcases e' with z | z
    · rw [z]; exact ⟨_, he, fun v q => nomatch q⟩
    · rw [z]; exact ⟨o, ho, fun v q => by rw [hd] at q; cases q⟩
  keep := fun i h h' st k => let ⟨⟨old, he⟩, hi, hne⟩ := st; ⟨⟨old, k e (by simp) _ he⟩, hi.at fun o q => k it (by simp) o q, hne⟩
  item := by
    intro X hP hw hK hc i pins s σ H E I hf st hg
    subst hP hw hK
    obtain ⟨⟨old, he⟩, hit, hne⟩ := st
    obtain ⟨xs, x, hq, hx⟩ := hg
    obtain ⟨its, rv, p, hz⟩ := I.tuple hq
    obtain ⟨u, hu, ru⟩ := rv.get hx
    have hel : e < s.heap.objs.size := Heap.lt_size he
    have hil : it < s.heap.objs.size := by obtain ⟨_, q, _⟩ := hit; exact Heap.lt_size q
    have hT : s.heap.IsTuple a its.toArray := p
    have hlt : i < its.toArray.size := by
      have := (List.getElem?_eq_some_iff.mp hu).1
      simpa using this
    have D := Draws.tuple (prog := X.prog) (w := X.w) (A := X.A.in1) (show X.A.in1.handled = none from I.ok.hd hc) it a hae its.toArray
    refine wpAny_pyNext_enum_itemD (n := its.toArray.size) D he ⟨hit, hT⟩ hlt hne (by simp [hne, hae2]) fun y h' tk hy ho hs' hT' hsz hk => ?_
    have hyu : y = u := by
      have hy2 : its.toArray[i]? = some y := hy
      rw [List.getElem?_toArray, hu] at hy2
      exact (Option.some.inj hy2).symm
    subst hyu
    obtain ⟨hit', _⟩ := hs'
    refine ⟨_, rfl, wpAny_letOwnedTupleGo_enum (s := { s with heap := h', toks := tk + 1 }) ho fun h'' he' sb => ?_⟩
    have hT2 : h''.get? s.heap.objs.size = some { cls := .type "tuple", data := .seq #[.int i tk, y] } := (sb.2 _ (Nat.ne_of_gt hel)).trans hT'
    have new : ObjOk X.prog X.w (upd H s.heap.objs.size (.tup [.int (i : Nat), x])) h'' s.heap.objs.size (.tup [.int (i : Nat), x]) :=
      ⟨by show 2 ≤ sizeLine; decide, [.int i tk, y], .cons ⟨_, rfl⟩ (.cons ru .nil), ⟨_, hT2, rfl, _, rfl⟩⟩
    have I1 : Inv X pins σ (upd H s.heap.objs.size (.tup [.int (i : Nat), x])) { s with heap := h'', toks := tk + 1 } :=
      I.turnedNew (ch := [e, it]) (fun b ob hb q => (sb.2 b (fun z => hb (by simp [z]))).trans (hk b ob (fun z => hb (by simp [z])) (fun z => hb (by simp [z])) q)) hf (Nat.le_refl _) new
    refine ⟨.ref s.heap.objs.size, _, I1, rfl, ⟨_, x, rfl, I.hok.fresh (Nat.le_refl _), rfl, fun ys hy => by rw [I.tuple_inj hy hq]; exact hx⟩, ⟨⟨y, ?_⟩, hit'.at fun o q => (sb.2 it (Ne.symm hne)).trans q, hne⟩, fun b hb => ?_⟩
    · have e1 : ((i + 1 : Nat) : Int) = (i : Int) + 1 := by omega
      rw [e1]; exact he'
    · have hb' : b < s.heap.objs.size := by
        have e' : b = e ∨ b = it := by simpa using hb
        rcases e' with z | z
        · rw [z]; exact hel
        · rw [z]; exact hil
      rw [upd_ne (Nat.ne_of_lt hb')]
      exact (hf b hb).1
  done := by
    intro X hP hw hK hc i pins s σ H E I hf st hg
    subst hP hw hK
    obtain ⟨⟨old, he⟩, hit, hne⟩ := st
    obtain ⟨xs, hq, hx⟩ := hg
    obtain ⟨its, rv, p, hz⟩ := I.tuple hq
    obtain ⟨f0, f1, f2, f3, f4, f5⟩ := hf it (by simp)
    have hl := rv.length
    have hT : s.heap.IsTuple a its.toArray := p
    have D : Draws X.prog X.w X.A.in1 it [it, a] i (fun _ _ => False) (fun j h => j = i ∧ h.IsTupleIter it a i ∧ h.IsTuple a its.toArray) :=
      { live := fun _ _ q => let ⟨o, ho, _⟩ := q.2.1; ⟨o, ho⟩
        frame := fun j h h' q hk => ⟨q.1, q.2.1.at fun o z => hk it (by simp) o z, q.2.2.at fun o z => hk a (by simp) o z⟩
        item := fun j s Q E hj q => absurd q.1 (Nat.ne_of_lt hj)
        done := fun s Q E q hE => wpAny_nextOf_tuple_end (I.ok.hd hc) q.2.1 q.2.2 (by simp; omega) hE }
    exact wpAny_pyNext_enum_endD D he ⟨rfl, hit, hT⟩ fun h' eb => ⟨rfl, I.turned (t' := s.toks) (fun b o hb q => eb b o hb q) f0 f1 f3 f4 f5⟩
  self := fun A i s Q E st h => let ⟨⟨_, he⟩, _⟩ := st; wpAny_pyIter_enum he h
def iEnumT (K : PySem.W.Frag) (ta : TA) : TI := fun σ H R => ta σ H fun vs H1 => ∃ a xs, vs = [.ref a] ∧ SqT K H1 a xs ∧ R (Iet K a) H1
theorem pi_enumT {X : Cx} {e : Expr} {ta : TA} {p pos tpos : Pos} {elts : List Expr} {kk : Nat} (hg : Gl X "enumerate") (hm : X.mg "enumerate" = none) (ha : PA X [e] ta) (hs : starEach [e] X.env = [(false, eval e X.env)] := by rfl) :
    PI X (.Tuple elts kk tpos) (.Call (.Name "enumerate" p) [e] [] pos) (iEnumT X.K ta) := by
  refine ⟨fun pins s σ H R I h => ?_⟩
  refine Call_ (ld_blt I hg hm boot_enumerate (PyProof.Rows.callWith_type1 (thn (ha.run pos pins s σ H _ I h) fun us s1 ⟨vs, H1, I1, r1, q1⟩ => ?_) hs rfl))
  obtain ⟨a, xs, ex, hq, q⟩ := q1
  subst ex
  cases r1 with
  | cons r rr =>
    cases rr
    cases r
    obtain ⟨its, rv, p', hz⟩ := I1.tuple hq
    have hT : s1.heap.IsTuple a its.toArray := p'
    have hal : a < s1.heap.objs.size := by obtain ⟨_, q, _⟩ := hT; exact Heap.lt_size q
    refine enumBegins (begins_tuple a its.toArray) hT fun h' he hit hsz hk => wpAny_pyIter_enum he ?_
    have I2 : Inv X pins σ H1 { s1 with heap := h' } := I1.kept (t' := s1.toks) hk
    refine ⟨s1.heap.objs.size + 1, [s1.heap.objs.size + 1, s1.heap.objs.size], _, _, H1, rfl, I2, turn_enumT a (s1.heap.objs.size + 1) s1.heap.objs.size (Nat.ne_of_lt hal) (Nat.ne_of_gt (Nat.lt_succ_of_lt hal)), ⟨⟨.none, he⟩, ⟨_, hit, rfl, rfl⟩, Nat.succ_ne_self _⟩, fun b hb => ?_, q⟩
    have e' : b = s1.heap.objs.size + 1 ∨ b = s1.heap.objs.size := by simpa using hb
    have hle : s1.heap.objs.size ≤ b := by
      rcases e' with z | z
      · rw [z]; exact Nat.le_add_right _ _
      · rw [z]; exact Nat.le_refl _
    exact I1.fpOk hle (I1.hok.fresh hle)
theorem walk_enumT {K : PySem.W.Frag} {a : Addr} {xs : List V} : Walk (Iet K a) xs.length (fun H => SqT K H a xs) (YPair (fun i => some (.int (i : Nat))) (fun i => xs[i]?)) := by
  refine ⟨fun i _ hi q => ⟨xs, xs[i], q, by simp [hi]⟩, fun _ q => ⟨xs, q, Nat.le_refl _⟩, fun i H v H' _ q y => ?_⟩
  obtain ⟨T, x, h1, h2, h3, h4⟩ := y
  exact ⟨T, .int (i : Nat), x, h1, h2, h3, rfl, h4 xs q⟩
end Tn
set_option Elab.async false
set_option maxRecDepth 100000
set_option autoImplicit false
/-! cls(..), cls a local name that holds a class of the program -/
namespace Tn
open PySem L2 PySem.Spec PyProof.Rows PySem.Calls StX
section
variable {X : Cx} {CX : CXT} {k : Nat} {f C : Addr} {sp : Sp} {E : XK} {x : Str} {e : Expr} {es : List Expr} {te tf : TE} {t : TA} {p sp_ pos : Pos}
def tMakeV (C : Addr) (sp : Sp) (E : XK) (tf : TE) (t : TA) : TE := fun σ H Q => tf σ H fun y H1 => y = V.ref C ∧ tMakeR C sp E t σ H1 Q
theorem pe_makeV (M : Mk X.K C f) (F : FnR X.prog X.w X.K X.mg X.base CX k f sp) (hr : Room (k + 1) X.A) (hx : Passes CX X E) (hf : PE X (.Name x p) tf) (ha : PA X (e :: es) t)
    (he : starEach (e :: es) X.env = (false, eval e X.env) :: starEach es X.env := by rfl) (hpl : (backTo pos (starEach es X.env)).any (·.1) = false := by rfl) : PE X (.Call (.Name x p) (e :: es) [] pos) (tMakeV C sp E tf t) := by
  refine ⟨fun pins s σ H Q I h => ?_⟩
  refine wpAny_Call_Name_kw (thn (hf.run pins s σ H _ I h) fun u s1 ⟨y, H1, I1, ry, ey, q⟩ => ?_)
  subst ey
  obtain rfl : u = Value.ref C := ry
  refine PySem.W.callWith_K (h₀ := X.base) I1.ok.mod.kin M.kp (thn (ha.run pos pins s1 σ H1 _ I1 q) fun us s2 ⟨vs, H2, I2, r, q2⟩ => ⟨I2.kIn, ?_⟩) he hpl
  exact run_makeR M F hr hx I2 r q2
/-- cls(e, .., *y) -/
theorem pe_makeV2 (M : Mk X.K C f) (F : FnR X.prog X.w X.K X.mg X.base CX k f sp) (hr : Room (k + 1) X.A) (hx : Passes CX X E) (hf : PE X (.Name x p) tf) (ha : PA X (e :: es) t)
    (he : starEach (e :: es) X.env = (false, eval e X.env) :: starEach es X.env := by rfl) (hst : (backTo pos (starEach es X.env)).any (·.1) = true := by rfl) : PE X (.Call (.Name x p) (e :: es) [] pos) (tMakeV C sp E tf t) := by
  refine ⟨fun pins s σ H Q I h => ?_⟩
  refine wpAny_Call_Name_kw (thn (hf.run pins s σ H _ I h) fun u s1 ⟨y, H1, I1, ry, ey, q⟩ => ?_)
  subst ey
  obtain rfl : u = Value.ref C := ry
  refine PySem.W.callWith_S2 (h₀ := X.base) I1.ok.mod.kin M.kp (thn (ha.run pos pins s1 σ H1 _ I1 q) fun us s2 ⟨vs, H2, I2, r, q2⟩ => ⟨I2.kIn, ?_⟩) he hst
  exact run_makeR M F hr hx I2 r q2
/-- cls(*y) -/
def tMakeV1 (K : PySem.W.Frag) (C : Addr) (sp : Sp) (E : XK) (tf te : TE) : TE := fun σ H Q => tf σ H fun y H1 => y = V.ref C ∧ te σ H1 fun z H2 => ∃ a xs, z = V.ref a ∧ (SqT K H2 a xs ∨ SqL K H2 a xs) ∧ ∀ x dx, H2 x = Option.none → H2 dx = Option.none → dx ≠ x →
  sp (V.ref x :: xs) (upd (upd H2 dx (.own x)) x (.ins C dx [])) (fun v H3 => v = .non ∧ Q (.ref x) H3) E
theorem pe_makeV1 (M : Mk X.K C f) (F : FnR X.prog X.w X.K X.mg X.base CX k f sp) (hr : Room (k + 1) X.A) (hx : Passes CX X E) (hf : PE X (.Name x p) tf) (he : PE X e te)
    (hst : starEach [.Starred e sp_] X.env = [(true, eval e X.env)] := by rfl) : PE X (.Call (.Name x p) [.Starred e sp_] [] pos) (tMakeV1 X.K C sp E tf te) := by
  refine ⟨fun pins s σ H Q I h => ?_⟩
  refine wpAny_Call_Name_kw (thn (hf.run pins s σ H _ I h) fun u s1 ⟨y, H1, I1, ry, ey, q⟩ => ?_)
  subst ey
  obtain rfl : u = Value.ref C := ry
  refine PySem.W.callWith_S (h₀ := X.base) I1.ok.mod.kin M.kp (thn (he.run pins s1 σ H1 _ I1 q) fun v s2 ⟨z, H2, I2, rz, a, xs, ez, hxs, q2⟩ => ?_) hst
  subst ez
  obtain rfl : v = Value.ref a := rz
  exact star_any I2 hxs fun us s3 I3 rv => ⟨I3.kIn, run_makeR M F hr hx I3 rv q2⟩
end
end Tn
set_option Elab.async false
set_option maxRecDepth 100000
set_option autoImplicit false
/-! is_integer, is_from_to, is_letter, is_pair of any value -/
namespace Kx
open PySem L2 PySem.Spec PyProof.Rows Rg Er Ru
abbrev sFromTo : Stmt := top 8
abbrev sIsLetter : Stmt := top 9
abbrev sIsPair : Stmt := top 16
def NoOf (K : PySem.W.Frag) (T : String) (H : Hp) (x : V) : Prop := ∃ t, TyX K H x t ∧ PySem.W.kitOne K t (.type T) = some false
def lt1 (z : Str) : Bool := match z.cps.toList with
  | [c] => decide (c ∈ abc.cps.toList)
  | _ => false
/-- x is a letter, or is none -/
def LtX (K : PySem.W.Frag) (H : Hp) (x : V) (b : Bool) : Prop := (∃ z : Str, x = .str z ∧ z.length ≤ 1000 ∧ b = lt1 z) ∨ (b = false ∧ NoOf K "str" H x)
/-- x is an integer, or is none -/
def IzX (K : PySem.W.Frag) (H : Hp) (x : V) (o : Option Int) : Prop := (∃ i, x = .int i ∧ o = some i) ∨ (o = none ∧ ((∃ c, x = .bl c) ∨ NoOf K "int" H x))
def inB (lo hi : Int) : Option Int → Bool
  | some i => decide (lo ≤ i) && decide (i ≤ hi)
  | none => false
/-- x is a pair of a letter and a weight, or is none -/
def PrX (K : PySem.W.Frag) (H : Hp) (x : V) (b : Bool) : Prop := (∃ a u v b1 o2, x = .ref a ∧ H a = some (.tup [u, v]) ∧ LtX K H u b1 ∧ IzX K H v o2 ∧ b = (b1 && inB 0 9 o2)) ∨
  (b = false ∧ ((∃ a xs, x = .ref a ∧ H a = some (.tup xs) ∧ xs.length ≠ 2) ∨ NoOf K "tuple" H x))
def spFromToA (K : PySem.W.Frag) : Sp := fun vs H Q _ => ∃ x o lo hi, vs = [x, .int lo, .int hi] ∧ IzX K H x o ∧ Q (.bl (inB lo hi o)) H
def spIsLetterA (K : PySem.W.Frag) : Sp := fun vs H Q _ => ∃ x b, vs = [x] ∧ LtX K H x b ∧ Q (.bl b) H
def spIsPairA (K : PySem.W.Frag) : Sp := fun vs H Q _ => ∃ x b, vs = [x] ∧ PrX K H x b ∧ Q (.bl b) H
theorem bIxT {X : Cx} {a b : Expr} {ta tb : TE} {pos : Pos} (ha : PE X a ta) (hb : PE X b tb) (hs : PlainIx b := by intro _ _; rfl) : PE X (.Subscript a b pos) (tOp (rIxT X.K) ta tb) := pe_ix ix_tup ha hb hs
section
variable {P : Program} {w : World} {K : PySem.W.Frag} {mg : Str → Option Value} {base : Heap}
theorem scFromTo : FnScope ["value", "low", "high"] ["value", "low", "high"] (defScope sFromTo) := ⟨rfl, rfl, rfl, by decide +kernel, rfl, by decide +kernel, by decide +kernel⟩
theorem ok_fromToA {f : Addr} {fd : FuncData} (F : L2.Fun K "is_from_to" "is_from_to" sFromTo f fd) (T : Txt mg) (mB : mg "bool" = none) : FnOk P w K mg base CX0 2 f fd ["value", "low", "high"] (spFromToA K) := by
  refine F.ok scFromTo (fun vs H Q E h => ?_) (fun cdv A outer s H vs Q E hr h => ?_)
  · obtain ⟨x, o, lo, hi, rfl, _⟩ := h
    rfl
  · obtain ⟨x, o, lo, hi, rfl, how, k⟩ := h
    refine ⟨_, pss_one (ps_ret (pe_and (bIsi (by rfl) T.isi (pv 0) (pe_bltn (v := .ty "int") (by rfl) T.int (by decide +kernel) rfl)) (pe_and (pe_not (bIsi (by rfl) T.isi (pv 0) (pe_bltn (v := .ty "bool") (by rfl) mB (by decide +kernel) rfl))) (pe_one (pe_chain op_le op_le (pv 1) (pv 0) (pv 2)))))), ?_⟩
    rcases how with ⟨i, rfl, rfl⟩ | ⟨rfl, ⟨c, rfl⟩ | ⟨t, ty, no⟩⟩
    · refine ⟨_, rfl, .int i, .ty "int", _, _, true, rfl, .ty "int", .base (.int i), kit_ty (by decide +kernel), true, rfl, iteT ?_⟩
      refine ⟨_, rfl, .int i, .ty "bool", _, _, false, rfl, .ty "bool", .base (.int i), kit_ty (by decide +kernel), false, rfl, true, rfl, iteT ?_⟩
      refine ⟨_, rfl, _, rfl, lo, i, rfl, rfl, _, rfl, ?_⟩
      by_cases h : lo ≤ i
      · rw [decide_eq_true h]
        refine iteT ⟨_, rfl, i, hi, rfl, rfl, ?_⟩
        have k : Q (.bl (decide (lo ≤ i) && decide (i ≤ hi))) H := k
        rw [decide_eq_true h, Bool.true_and] at k
        exact k
      · rw [decide_eq_false h]
        have k : Q (.bl (decide (lo ≤ i) && decide (i ≤ hi))) H := k
        rw [decide_eq_false h, Bool.false_and] at k
        exact iteF k
    · refine ⟨_, rfl, .bl c, .ty "int", _, _, true, rfl, .ty "int", .base (.bl c), kit_ty (by decide +kernel), true, rfl, iteT ?_⟩
      exact ⟨_, rfl, .bl c, .ty "bool", _, _, true, rfl, .ty "bool", .base (.bl c), kit_ty (by decide +kernel), true, rfl, false, rfl, iteF k⟩
    · exact ⟨_, rfl, x, .ty "int", _, _, false, rfl, .ty "int", ty, no, false, rfl, iteF k⟩
theorem scIsLetter : FnScope ["value"] ["value"] (defScope sIsLetter) := ⟨rfl, rfl, rfl, by decide +kernel, rfl, by decide +kernel, by decide +kernel⟩
theorem ok_isLetterA {f : Addr} {fd : FuncData} (F : L2.Fun K "is_letter" "is_letter" sIsLetter f fd) (T : Txt mg) (mS : mg "str" = none) {tk : Tok} (mL : mg "LETTERS" = some (.str abc tk)) : FnOk P w K mg base CX0 1 f fd ["value"] (spIsLetterA K) := by
  refine F.ok scIsLetter (fun vs H Q E h => ?_) (fun cdv A outer s H vs Q E hr h => ?_)
  · obtain ⟨x, b, rfl, _⟩ := h
    rfl
  · obtain ⟨x, b, rfl, how, k⟩ := h
    refine ⟨_, pss_one (ps_ret (pe_and (bIsi (by rfl) T.isi (pv 0) (pe_bltn (v := .ty "str") (by rfl) mS (by decide +kernel) rfl)) (pe_and (pe_cmpR op_eq (bLen (by rfl) T.len (pv 0)) pe_int (nomark _))
      (pe_one (pe_cmpR op_in_sign (pv 0) (pe_glob (v := .str abc) (by rfl) mL ⟨_, rfl⟩) rfl))))), ?_⟩
    rcases how with ⟨z, rfl, few, rfl⟩ | ⟨rfl, t, ty, no⟩
    · refine ⟨_, rfl, .str z, .ty "str", _, _, true, rfl, .ty "str", .base (.str z), kit_ty (by decide +kernel), true, rfl, iteT ?_⟩
      refine ⟨_, rfl, _, z.length, rfl, ⟨len_small few, rfl⟩, rfl, _, rfl, ?_⟩
      obtain ⟨⟨L⟩⟩ := z
      match L, few, k with
      | [c], _, k => exact iteT ⟨_, rfl, c, abc, rfl, rfl, k⟩
      | [], _, k => exact iteF k
      | a :: b :: r, _, k =>
        rw [decide_eq_false (by intro q; injection q with q; simp [Str.length] at q; omega)]
        exact iteF k
    · exact ⟨_, rfl, x, .ty "str", _, _, false, rfl, .ty "str", ty, no, false, rfl, iteF k⟩
theorem scIsPair : FnScope ["value"] ["value"] (defScope sIsPair) := ⟨rfl, rfl, rfl, by decide +kernel, rfl, by decide +kernel, by decide +kernel⟩
theorem ok_isPairA {f f1 f2 : Addr} {fd fd1 fd2 : FuncData} (F : L2.Fun K "is_pair" "is_pair" sIsPair f fd) (T : Txt mg) (mT : mg "tuple" = none)
    (G1 : FnOk P w K mg base CX0 1 f1 fd1 ["value"] (spIsLetterA K)) (m1 : mg "is_letter" = some (.ref f1)) (k1 : PySem.W.keepIn K (.ref f1) = true) (b1 : L2.Binds K fd1 ["value"] [])
    (G2 : FnOk P w K mg base CX0 2 f2 fd2 ["value", "low", "high"] (spFromToA K)) (m2 : mg "is_from_to" = some (.ref f2)) (k2 : PySem.W.keepIn K (.ref f2) = true) (b2 : L2.Binds K fd2 ["value", "low", "high"] []) :
    FnOk P w K mg base CX0 3 f fd ["value"] (spIsPairA K) := by
  refine F.ok scIsPair (fun vs H Q E h => ?_) (fun cdv A outer s H vs Q E hr h => ?_)
  · obtain ⟨x, b, rfl, _⟩ := h
    rfl
  · obtain ⟨x, b, rfl, how, k⟩ := h
    refine ⟨_, pss_one (ps_ret (pe_and (bIsi (by rfl) T.isi (pv 0) (pe_bltn (v := .ty "tuple") (by rfl) mT (by decide +kernel) rfl)) (pe_and (pe_cmpR op_eq (bLen (by rfl) T.len (pv 0)) pe_int (nomark _))
      (pe_and (pe_call G1 (hr.mono (by decide)) (by rfl) m1 k1 b1 .nil pass0 (pa_cons (bIxT (pv 0) pe_int) pa_nil)) (pe_one (pe_call G2 hr (by rfl) m2 k2 b2 .nil pass0 (pa_cons (bIxT (pv 0) pe_int) (pa_cons pe_int (pa_cons pe_int pa_nil)))))))) ), ?_⟩
    rcases how with ⟨t, u, v, b1, o2, rfl, ht, hu, hv, rfl⟩ | ⟨rfl, ⟨t, xs, rfl, ht, l2⟩ | ⟨ty', ty, no⟩⟩
    · refine ⟨_, rfl, .ref t, .ty "tuple", _, _, true, rfl, .ty "tuple", .base (.tup ht), kit_ty (by decide +kernel), true, rfl, iteT ?_⟩
      refine ⟨_, rfl, _, 2, rfl, .inr ⟨_, SqT.of ht, rfl⟩, rfl, true, rfl, iteT ?_⟩
      refine ⟨_, rfl, t, _, 0, _, rfl, rfl, SqT.of ht, rfl, u, b1, rfl, hu, b1, rfl, ?_⟩
      cases b1 with
      | false => exact iteF k
      | true => exact iteT ⟨_, rfl, t, _, 1, _, rfl, rfl, SqT.of ht, rfl, v, o2, 0, 9, rfl, hv, by rw [Bool.true_and] at k; exact k⟩
    · refine ⟨_, rfl, .ref t, .ty "tuple", _, _, true, rfl, .ty "tuple", .base (.tup ht), kit_ty (by decide +kernel), true, rfl, iteT ?_⟩
      refine ⟨_, rfl, _, xs.length, rfl, .inr ⟨_, SqT.of ht, rfl⟩, rfl, _, rfl, ?_⟩
      rw [decide_eq_false (by intro q; injection q with q; omega)]
      exact iteF k
    · exact ⟨_, rfl, x, .ty "tuple", _, _, false, rfl, .ty "tuple", ty, no, false, rfl, iteF k⟩
end
end Kx
set_option Elab.async false
set_option maxRecDepth 100000
set_option autoImplicit false
/-! Weights.__init__ of any entries -/
namespace Kx
open PySem L2 PySem.Spec PyProof.Rows Rg Er Ru Tn
abbrev sWInit : Stmt := inClass (top 15) 0
/-- at t a pair of a letter and a weight -/
def PairAt (H : Hp) (t : Addr) (c : Nat) (n : Int) : Prop := H t = some (.tup [.str ⟨#[c]⟩, .int n]) ∧ c ∈ abc.cps.toList ∧ 0 ≤ n ∧ n ≤ 9
theorem g12 : ¬ (("_signs" : Str) = "pairs") := by decide +kernel
def wf1 (z : Str) : List (Str × V) := putF "_signs" (.str z) []
def wf (z : Str) (p : Addr) : List (Str × V) := putF "pairs" (.ref p) (wf1 z)
theorem wf_signs (z : Str) (p : Addr) : (wf z p).lookup ("_signs" : Str) = some (.str z) := by
  unfold wf wf1
  rw [lookup_putF, if_neg g12, lookup_putF, if_pos rfl]
theorem wf_pairs (z : Str) (p : Addr) : (wf z p).lookup ("pairs" : Str) = some (.ref p) := by
  unfold wf
  rw [lookup_putF, if_pos rfl]
theorem PairAt.same {H H' : Hp} {t : Addr} {c : Nat} {n : Int} (h : PairAt H t c n) (e : Same H H') : PairAt H' t c n := ⟨e _ _ h.1, h.2⟩
structure WT (K : PySem.W.Frag) (C : Addr) : Prop where
  cl : Cls K C
  n1 : NoAttr K C "_signs"
  n2 : NoAttr K C "pairs"
theorem Same.putNew' {H H' : Hp} {q : Addr} {o : HO} (h : H' q = none) (e : Same H H') : Same H (upd H' q o) := fun b u z => by rw [upd_ne (ne_of_none (e _ _ z) h)]; exact e _ _ z
/-- pairs of letters and weights -/
def PairsD (H : Hp) (xs : List V) (es : List (Nat × Int)) : Prop := xs.length = es.length ∧ ∀ (i : Nat) (e : Nat × Int), es[i]? = some e → ∃ t, xs[i]? = some (.ref t) ∧ PairAt H t e.1 e.2
theorem PairsD.mono {H H' : Hp} {xs : List V} {es : List (Nat × Int)} (h : PairsD H xs es) (e : ∀ t c n, PairAt H t c n → PairAt H' t c n) : PairsD H' xs es := ⟨h.1, fun i c q => let ⟨t, a, b⟩ := h.2 i c q; ⟨t, a, e _ _ _ b⟩⟩
def letters (es : List (Nat × Int)) : Str := ⟨(es.map (·.1)).toArray⟩
/-- at a the weights of these pairs, whose tuple holds xs -/
def Wts (C : Addr) (H : Hp) (a : Addr) (es : List (Nat × Int)) (xs : List V) : Prop := ∃ dx p, H a = some (.ins C dx (wf (letters es) p)) ∧ H p = some (.tup xs) ∧ PairsD H xs es
theorem Wts.same {C a : Addr} {H H' : Hp} {es : List (Nat × Int)} {xs : List V} (h : Wts C H a es xs) (e : Same H H') : Wts C H' a es xs := let ⟨dx, p, h1, h2, h3⟩ := h; ⟨dx, p, e _ _ h1, e _ _ h2, h3.mono fun _ _ _ q => q.same e⟩
def spStar (n : Nat) (sp : Sp) : Sp := fun vs H Q E => ∃ ws rest, vs = ws ++ rest ∧ ws.length = n ∧ rest.length ≤ sizeLine ∧ ∀ p, H p = Option.none → sp (ws ++ [V.ref p]) (upd H p (.tup rest)) Q E
/-- lists stay lists, tuples stay as they are -/
structure KeepT (H H' : Hp) : Prop where
  l : ∀ q xs, H q = some (.lst xs) → ∃ ys, H' q = some (.lst ys)
  t : ∀ q xs, H q = some (.tup xs) → H' q = some (.tup xs)
theorem Same.keepT {H H' : Hp} (e : Same H H') : KeepT H H' := ⟨fun q xs h => ⟨xs, e _ _ h⟩, fun q xs h => e _ _ h⟩
theorem KeepT.trans {H H1 H2 : Hp} (a : KeepT H H1) (b : KeepT H1 H2) : KeepT H H2 := ⟨fun q xs h => let ⟨_, h1⟩ := a.l q xs h; b.l q _ h1, fun q xs h => b.t q _ (a.t q xs h)⟩
theorem KeepT.put {H : Hp} {q : Addr} {xs ys : List V} (h : H q = some (.lst xs)) : KeepT H (upd H q (.lst ys)) := by
  refine ⟨fun r zs hr => ?_, fun r zs hr => ?_⟩
  · by_cases e : r = q
    · subst e; exact ⟨ys, upd_same⟩
    · exact ⟨zs, by rw [upd_ne e]; exact hr⟩
  · have e : r ≠ q := by rintro rfl; rw [h] at hr; cases hr
    rw [upd_ne e]; exact hr
theorem Ink.keepT {c p : Addr} {n m : Nat} {H H' : Hp} (pen : PenAt c m H p) (i : Ink c p n H H') : KeepT H H' := by
  refine ⟨fun r zs hr => ?_, fun r zs hr => ?_⟩
  · by_cases e : r = p
    · subst e
      obtain ⟨ns, x, g, h1, _⟩ := i.2
      exact ⟨_, h1⟩
    · exact ⟨zs, i.1 _ _ e hr⟩
  · have e : r ≠ p := by
      rintro rfl
      obtain ⟨ns, x, g, h1, _⟩ := pen
      rw [h1] at hr; cases hr
    exact i.1 _ _ e hr
theorem PairAt.keep {H H' : Hp} {t : Addr} {c : Nat} {n : Int} (h : PairAt H t c n) (e : KeepT H H') : PairAt H' t c n := ⟨e.t _ _ h.1, h.2⟩
/-- equal to itself wherever it stands in a list -/
def Sm (v : V) : Prop := flatB v = true ∨ ∃ c, v = .ref c
def EntX (K : PySem.W.Frag) (H : Hp) (v : V) (o : Option (Nat × Int)) : Prop := (∃ t c n, v = .ref t ∧ PairAt H t c n ∧ o = some (c, n)) ∨ (o = none ∧ Sm v ∧ ∀ H', KeepT H H' → PrX K H' v false)
theorem EntX.keep {K : PySem.W.Frag} {H H' : Hp} {v : V} {o : Option (Nat × Int)} (h : EntX K H v o) (e : KeepT H H') : EntX K H' v o := by
  rcases h with ⟨t, c, n, rfl, p, rfl⟩ | ⟨rfl, sm, p⟩
  · exact .inl ⟨t, c, n, rfl, p.keep e, rfl⟩
  · exact .inr ⟨rfl, sm, fun H2 e2 => p H2 (e.trans e2)⟩
theorem EntX.same {K : PySem.W.Frag} {H H' : Hp} {v : V} {o : Option (Nat × Int)} (h : EntX K H v o) (e : Same H H') : EntX K H' v o := h.keep (Same.keepT e)
def Ents (K : PySem.W.Frag) (H : Hp) (xs : List V) (os : List (Option (Nat × Int))) : Prop := xs.length = os.length ∧ ∀ (i : Nat) (o : Option (Nat × Int)), os[i]? = some o → ∃ v, xs[i]? = some v ∧ EntX K H v o
/-- the first entry that is refused -/
def badFrom : Nat → List Nat → List (Option (Nat × Int)) → Option Nat
  | _, _, [] => none
  | i, _, none :: _ => some i
  | i, seen, some (c, _) :: r => if c ∈ seen then some i else badFrom (i + 1) (seen ++ [c]) r
def spWInitA (K : PySem.W.Frag) (C CB : Addr) : Sp := fun vs H Q E => ∃ (a dx p : Addr) (xs : List V) (os : List (Option (Nat × Int))), vs = [.ref a, .ref p] ∧ H a = some (.ins C dx []) ∧ H p = some (.tup xs) ∧ Ents K H xs os ∧
  (¬ (1 ≤ xs.length ∧ xs.length ≤ 4) → raised CB "part" (.str "many") E H) ∧
  (1 ≤ xs.length ∧ xs.length ≤ 4 → match badFrom 0 [] os with
    | some i => ∀ H', Same H H' → raised CB "part" (.int (i : Nat)) E H'
    | none => ∀ es H', os = es.map some → Ext1 a H H' → Wts C H' a es xs → Q .non H')
section
variable {P : Program} {w : World} {K : PySem.W.Frag} {mg : Str → Option Value} {base : Heap}
theorem scWInit : FnScope ["self", "pairs", "signs", "at", "pair"] ["self", "pairs"] (defScope sWInit) := ⟨rfl, rfl, rfl, by decide +kernel, rfl, by decide +kernel, by decide +kernel⟩
theorem starOkX {x qual pv : Str} {st : Stmt} {f : Addr} {fd : FuncData} {N ps : List Str} {k : Nat} {sp : Sp} (F : L2.Fun K x qual st f fd) (S : FnScope N (ps ++ [pv]) (defScope st))
    (hb : ∀ (kV doc pm : Value) (an : Option Addr) (cdv ct : Value) (us rest : List Value), us.length = ps.length → bindArgs (PySem.W.fnOf x qual (defArgs st) (defBody st) (defScope st) .none kV doc pm an cdv ct) ⟨us ++ rest, []⟩ = (newTuple rest >>= fun t => pure (ps.zip us ++ [(pv, t)])))
    (hbody : ∀ (cdv : Value) (A : Around) (outer : List Env) (s : Shared) (H : Hp) (vs : List V) (Q : VK) (E : XK), Room k (A.deeper (envOfC qual (defScope st) s.heap.objs.size f cdv)) → sp vs H Q E →
      ∃ t, PSs (cxOf (L2.CX P w) P w K mg base N qual (defScope st) f cdv A outer s H E) (defBody st) t ∧ t { nx := fun _ H' => Q .non H', rt := Q } (L2.start N vs) H) : FnR P w K mg base (L2.CX P w) (k + 1) f (spStar ps.length sp) := by
  obtain ⟨oc, od, kV, doc, pm, an, cdv, ct, osl, rfl, lk, hcd⟩ := F.ex
  exact StX.fn_star lk hcd S StX.cxUp (hb kV doc pm an cdv ct) fun A outer s H vs Q E hr hsp => hbody cdv A outer s H vs Q E hr hsp
theorem ok_wInitA {C CB f f1 f2 : Addr} {fd fd1 fd2 : FuncData} (F : L2.Fun K "__init__" "Weights.__init__" sWInit f fd) (T : Txt mg) (M : WT K C) (R : ErrB P w K mg base "BadSigns" "part" CB) (mE : mg "enumerate" = none)
    (G1 : FnOk P w K mg base CX0 2 f1 fd1 ["value", "low", "high"] (spFromToA K)) (m1 : mg "is_from_to" = some (.ref f1)) (k1 : PySem.W.keepIn K (.ref f1) = true) (b1 : L2.Binds K fd1 ["value", "low", "high"] [])
    (G2 : FnOk P w K mg base CX0 3 f2 fd2 ["value"] (spIsPairA K)) (m2 : mg "is_pair" = some (.ref f2)) (k2 : PySem.W.keepIn K (.ref f2) = true) (b2 : L2.Binds K fd2 ["value"] []) :
    FnR P w K mg base (L2.CX P w) 4 f (spStar 1 (spWInitA K C CB)) := by
  obtain ⟨fi, fdi, psi, r1, r2, r3, r4⟩ := R.init
  refine starOkX (N := ["self", "pairs", "signs", "at", "pair"]) (ps := ["self"]) (pv := "pairs") (sp := spWInitA K C CB) F scWInit (fun kV doc pm an cdv ct => StX.bind_star1 (B := fun us => bindArgs (PySem.W.fnOf "__init__" "Weights.__init__" (defArgs sWInit) (defBody sWInit) (defScope sWInit) .none kV doc pm an cdv ct) ⟨us, []⟩) (fun a => rfl) (fun a r rs => rfl)) (fun cdv A outer s H vs Q E hr h => ?_)
  obtain ⟨a, dx, p, xs, os, rfl, ha, hp, ents, many, good⟩ := h
  have nd := scWInit.nd
  have hr2 := hr.mono (show 2 ≤ 3 by decide)
  have tk := takes_of (X := cxOf (L2.CX P w) P w K mg base ["self", "pairs", "signs", "at", "pair"] "Weights.__init__" (defScope sWInit) f cdv A outer s H E) rfl rfl rfl rfl
  refine ⟨_, pss_cons (ps_if (pt_not (pt_val (pe_call G1 hr2 (by rfl) m1 k1 b1 .nil pass0 (pa_cons (bLen (by rfl) T.len (pv 1)) (pa_cons pe_int (pa_cons pe_int pa_nil)))))) (pss_one (ps_raise1 rfl tk R.O r1 r2 r3 hr2 r4 (by rfl) R.mgC pe_str)) pss_nil)
    (pss_cons (ps_set (i := 2) nd rfl (.inl rfl) pe_str)
    (pss_cons (ps_for (passes_of (X := cxOf (L2.CX P w) P w K mg base ["self", "pairs", "signs", "at", "pair"] "Weights.__init__" (defScope sWInit) f cdv A outer s H E) rfl) rfl (pi_enumT (by rfl) mE (pa_cons (pv 1) pa_nil)) (pg_tup rfl (pgs_cons (pg_name (i := 3) nd rfl (.inl rfl)) (pgs_cons (pg_name (i := 4) nd rfl (.inl rfl)) pgs_nil)))
      (pss_cons (ps_if (PW.pt (pw_or (pt_not (pt_val (pe_call G2 hr (by rfl) m2 k2 b2 .nil pass0 (pa_cons (pv 4) pa_nil)))) (pw_or1 (pt_cmpR op_in_sign (bIxT (pv 4) pe_int) (pv 2) rfl)))) (pss_one (ps_raise1 rfl tk R.O r1 r2 r3 hr2 r4 (by rfl) R.mgC (pv 3))) pss_nil)
      (pss_one (ps_set (i := 2) nd rfl (.inl rfl) (pe_op op_add_str (pv 2) (bIxT (pv 4) pe_int))))))
    (pss_cons (ps_fld (pv 0) (pv 2) rfl) (pss_one (ps_fld (pv 0) (pv 1) rfl))))), ?_⟩
  have hl := ents.1
  refine ⟨_, rfl, _, xs.length, rfl, .inr ⟨_, SqT.of hp, rfl⟩, _, some (xs.length : Int), 1, 4, rfl, .inl ⟨_, rfl, rfl⟩, _, rfl, ?_⟩
  by_cases hc : 1 ≤ xs.length ∧ xs.length ≤ 4
  · have e : inB 1 4 (some (xs.length : Int)) = true := by
      show (decide ((1 : Int) ≤ (xs.length : Int)) && decide ((xs.length : Int) ≤ 4)) = true
      simp
      omega
    rw [e]
    refine iteF ⟨_, rfl, ?_⟩
    have good := good hc
    refine ⟨p, xs, rfl, SqT.of hp, for_it walk_enumT (fun j σ' H' => ∃ (es : List (Nat × Int)) (y1 y2 : Option V), σ' = [some (.ref a), some (.ref p), some (.str (letters es)), y1, y2] ∧ Same H H' ∧ es.length = j ∧ badFrom 0 [] os = badFrom j (es.map (·.1)) (os.drop j) ∧ ∀ (i : Nat) (e : Nat × Int), es[i]? = some e → ∃ t, xs[i]? = some (.ref t) ∧ PairAt H t e.1 e.2 ∧ os[i]? = some (some e))
      ⟨[], none, none, rfl, Same.refl H, rfl, rfl, fun i c q => by simp at q⟩ (fun j σ' H' _ ⟨_, _, _, _, q, _⟩ => SqT.of (q _ _ hp)) ?_ ?_⟩
    · rintro j x σ' H' H2 hj ⟨es, y1, y2, rfl, s0, lj, ej, prs⟩ ⟨t0, u1, u2, rfl, ht0, rfl, e1, e2⟩
      cases e1
      have hj' : j < os.length := by omega
      replace e2 : xs[j]? = some u2 := e2
      obtain ⟨o, ho⟩ : ∃ o, os[j]? = some o := ⟨_, List.getElem?_eq_getElem hj'⟩
      obtain ⟨v, hv, ev⟩ := ents.2 j o ho
      rw [e2] at hv
      cases hv
      have s1 : Same H (upd H' t0 (.tup [.int (j : Nat), u2])) := Same.putNew' ht0 s0
      refine ⟨t0, _, rfl, SqT.of upd_same, rfl, _, _, rfl, _, _, rfl, rfl, ?_⟩
      generalize upd H' t0 (.tup [.int (j : Nat), u2]) = H3 at s1 ⊢
      have ev3 := ev.same s1
      have dr : os.drop j = o :: os.drop (j + 1) := by
        rw [List.drop_eq_getElem_cons hj']
        congr 1
        rw [List.getElem?_eq_getElem hj'] at ho
        exact Option.some.inj ho
      have raise : badFrom j (es.map (·.1)) (os.drop j) = some j → raised CB "part" (.int (j : Nat)) E H3 := fun q => by
        rw [ej, q] at good
        exact good H3 s1
      rcases ev3 with ⟨t, c, n, rfl, pt, rfl⟩ | ⟨rfl, _, pr⟩
      · have lt : lt1 (⟨#[c]⟩ : Str) = true := decide_eq_true pt.2.1
        have ib : inB 0 9 (some n) = true := by
          show (decide ((0 : Int) ≤ n) && decide (n ≤ 9)) = true
          simp [pt.2.2.1, pt.2.2.2]
        refine ⟨_, rfl, .ref t, true, rfl, .inl ⟨t, _, _, true, some n, rfl, pt.1, .inl ⟨⟨#[c]⟩, rfl, by show 1 ≤ 1000; decide, lt.symm⟩, .inl ⟨n, rfl, rfl⟩, by rw [ib]; rfl⟩, true, rfl, iteF ?_⟩
        refine ⟨_, rfl, t, _, 0, _, rfl, rfl, SqT.of pt.1, rfl, _, rfl, c, _, rfl, rfl, _, rfl, ?_⟩
        have mem : (c ∈ (letters es).cps.toList) ↔ c ∈ es.map (·.1) := by unfold letters; rw [List.toList_toArray]
        by_cases hm : c ∈ es.map (·.1)
        · rw [decide_eq_true (mem.mpr hm)]
          refine iteT ⟨_, rfl, raise ?_⟩
          rw [dr]
          show (if c ∈ es.map (·.1) then some j else _) = some j
          rw [if_pos hm]
        · rw [decide_eq_false (fun q => hm (mem.mp q))]
          refine iteF ⟨_, rfl, _, rfl, t, _, 0, _, rfl, rfl, SqT.of pt.1, rfl, _, _, rfl, rfl, ?_, ?_⟩
          · show (es.map (·.1)).toArray.size + 1 ≤ sizeLine
            rw [List.size_toArray, List.length_map, sizeLine_eq]
            omega
          · refine ⟨es ++ [(c, n)], some (.int (j : Nat)), some (.ref t), ?_, s1, by rw [List.length_append, lj]; rfl, ?_, ?_⟩
            · show [some (V.ref a), some (V.ref p), some (V.str (letters es ++ (⟨#[c]⟩ : Str))), some (V.int (j : Nat)), some (V.ref t)] = _
              have ea : (letters es ++ (⟨#[c]⟩ : Str)) = letters (es ++ [(c, n)]) := by
                unfold letters
                rw [List.map_append]
                show (⟨(es.map (·.1)).toArray ++ #[c]⟩ : Str) = _
                simp
              rw [ea]
            · rw [ej, dr]
              show (if c ∈ es.map (·.1) then some j else badFrom (j + 1) (es.map (·.1) ++ [c]) (os.drop (j + 1))) = _
              rw [if_neg hm, List.map_append]
              rfl
            · intro i c' hi
              by_cases lt' : i < es.length
              · rw [List.getElem?_append_left lt'] at hi
                exact prs i c' hi
              · rw [List.getElem?_append_right (by omega)] at hi
                have i0 : i - es.length = 0 := by
                  cases z : i - es.length with
                  | zero => rfl
                  | succ m => rw [z] at hi; simp at hi
                rw [i0] at hi
                have ec : (c, n) = c' := by simpa using hi
                have ei : i = j := by omega
                subst ec ei
                rcases ev with ⟨t', c', n', e', p', q'⟩ | ⟨q', _⟩
                · cases e'
                  cases q'
                  exact ⟨t, e2, p', ho⟩
                · cases q'
      · refine ⟨_, rfl, u2, false, rfl, pr _ (Same.keepT (Same.refl _)), false, rfl, iteT ⟨_, rfl, raise ?_⟩⟩
        rw [dr]
        rfl
    · rintro σ' H' ⟨es, y1, y2, rfl, s0, lj, ej, prs⟩
      have dn : os.drop xs.length = [] := List.drop_eq_nil_of_le (by omega)
      rw [ej, dn] at good
      have good' : ∀ es' H', os = es'.map some → Ext1 a H H' → Wts C H' a es' xs → Q .non H' := good
      have ec : os = es.map some := by
        refine List.ext_getElem? fun i => ?_
        rw [List.getElem?_map]
        by_cases hi : i < es.length
        · obtain ⟨t, _, _, h3⟩ := prs i es[i] (List.getElem?_eq_getElem hi)
          rw [h3, List.getElem?_eq_getElem hi]
          rfl
        · rw [List.getElem?_eq_none (by omega), List.getElem?_eq_none (by omega)]
          rfl
      refine ⟨_, rfl, _, rfl, a, C, dx, [], rfl, s0 _ _ ha, M.cl, M.n1, by show 0 < 1000; decide, ?_⟩
      refine ⟨_, rfl, _, rfl, a, C, dx, _, rfl, upd_same, M.cl, M.n2, by show 1 < 1000; decide, ?_⟩
      have na : p ≠ a := by rintro rfl; rw [hp] at ha; cases ha
      have pl : PairsD H xs es := ⟨by omega, fun i c hi => let ⟨t, h1, h2, _⟩ := prs i c hi; ⟨t, h1, h2⟩⟩
      refine good' es _ ec (Ext1.trans (Same.ext1 a s0) (Ext1.trans Ext1.put Ext1.put)) ⟨dx, p, upd_same, ?_, pl.mono fun t c n q => ⟨?_, q.2⟩⟩
      · rw [upd_ne na, upd_ne na]; exact s0 _ _ hp
      · have nt : t ≠ a := by rintro rfl; rw [q.1] at ha; cases ha
        rw [upd_ne nt, upd_ne nt]; exact s0 _ _ q.1
  · have e : inB 1 4 (some (xs.length : Int)) = false := by
      show (decide ((1 : Int) ≤ (xs.length : Int)) && decide ((xs.length : Int) ≤ 4)) = false
      cases h1 : decide ((1 : Int) ≤ (xs.length : Int)) with
      | false => rfl
      | true =>
        have := of_decide_eq_true h1
        rw [decide_eq_false (by omega)]
        rfl
    rw [e]
    exact iteT (many hc)
end
end Kx
set_option Elab.async false
set_option maxRecDepth 100000
set_option autoImplicit false
/-! Weights.of, signs, len, in, [ ] -/
namespace Kx
open PySem L2 PySem.Spec PyProof.Rows Rg Er Ru Tn
abbrev sWOf : Stmt := inClass (top 15) 1
abbrev sWSigns : Stmt := inClass (top 15) 2
abbrev sWLen : Stmt := inClass (top 15) 3
abbrev sWHas : Stmt := inClass (top 15) 4
abbrev sWItem : Stmt := inClass (top 15) 5
theorem made_same {C x dx : Addr} {H : Hp} (hx : H x = none) (hd : H dx = none) : Same H (upd (upd H dx (.own x)) x (.ins C dx [])) := fun b o e => by
  rw [upd_ne (ne_of_none e hx), upd_ne (ne_of_none e hd)]
  exact e
theorem same_ext1 {x : Addr} {H H1 H2 : Hp} (hx : H x = none) (a : Same H H1) (b : Ext1 x H1 H2) : Same H H2 := fun c o e => b c o (ne_of_none e hx) (a c o e)
theorem Ents.keep {K : PySem.W.Frag} {H H' : Hp} {xs : List V} {os : List (Option (Nat × Int))} (h : Ents K H xs os) (e : KeepT H H') : Ents K H' xs os := ⟨h.1, fun i o q => let ⟨v, a, b⟩ := h.2 i o q; ⟨v, a, b.keep e⟩⟩
theorem Ents.same {K : PySem.W.Frag} {H H' : Hp} {xs : List V} {os : List (Option (Nat × Int))} (h : Ents K H xs os) (e : Same H H') : Ents K H' xs os := ⟨h.1, fun i o q => let ⟨v, a, b⟩ := h.2 i o q; ⟨v, a, b.same e⟩⟩
def spWOfA (K : PySem.W.Frag) (C CB : Addr) : Sp := fun vs H Q E => ∃ (l : Addr) (xs : List V) (os : List (Option (Nat × Int))), vs = [.ref C, .ref l] ∧ Sq H l xs ∧ Ents K H xs os ∧ xs.length ≤ 1000 ∧
  (¬ (1 ≤ xs.length ∧ xs.length ≤ 4) → ∀ H', Same H H' → raised CB "part" (.str "many") E H') ∧
  (1 ≤ xs.length ∧ xs.length ≤ 4 → match badFrom 0 [] os with
    | some i => ∀ H', Same H H' → raised CB "part" (.int (i : Nat)) E H'
    | none => ∀ es H' a, os = es.map some → Same H H' → Wts C H' a es xs → Q (.ref a) H')
def spWLen (C : Addr) : Sp := fun vs H Q _ => ∃ a es xs, vs = [.ref a] ∧ Wts C H a es xs ∧ Q (.int (es.length : Nat)) H
def spWHas (K : PySem.W.Frag) (C : Addr) : Sp := fun vs H Q _ => ∃ a es xs x b, vs = [.ref a, x] ∧ Wts C H a es xs ∧ LtX K H x b ∧ (b = false → Q (.bl false) H) ∧ ∀ c : Nat, x = .str ⟨#[c]⟩ → Q (.bl (decide (c ∈ es.map (·.1)))) H
theorem lt1_sign {z : Str} (h : lt1 z = true) : ∃ c, z = ⟨#[c]⟩ ∧ c ∈ abc.cps.toList := by
  obtain ⟨⟨L⟩⟩ := z
  match L, h with
  | [c], h => exact ⟨c, rfl, of_decide_eq_true h⟩
section
variable {P : Program} {w : World} {K : PySem.W.Frag} {mg : Str → Option Value} {base : Heap}
theorem scWOf : FnScope ["cls", "pairs"] ["cls", "pairs"] (defScope sWOf) := ⟨rfl, rfl, rfl, by decide +kernel, rfl, by decide +kernel, by decide +kernel⟩
theorem ok_wOfA {C CB f g : Addr} {fd : FuncData} (F : L2.Fun K "of" "Weights.of" sWOf f fd) (M : Mk K C g) (G : FnR P w K mg base (L2.CX P w) 4 g (spStar 1 (spWInitA K C CB))) : FnOk P w K mg base (L2.CX P w) 6 f fd ["cls", "pairs"] (spWOfA K C CB) := by
  refine F.okX scWOf (fun vs H Q E h => ?_) (fun cdv A outer s H vs Q E hr h => ?_)
  · obtain ⟨l, xs, os, rfl, _⟩ := h
    rfl
  · obtain ⟨l, xs, os, rfl, hl, es, few, many, good⟩ := h
    have tk := takes_of (X := cxOf (L2.CX P w) P w K mg base ["cls", "pairs"] "Weights.of" (defScope sWOf) f cdv A outer s H E) rfl rfl rfl rfl
    refine ⟨_, pss_one (ps_ret (pe_makeV1 M G hr (passes_call tk fun _ _ _ _ h => h) (pv 0) (pv 1))), ?_⟩
    refine ⟨_, rfl, rfl, _, rfl, l, xs, rfl, hl.elim (fun q => .inr (SqL.of q)) (fun q => .inl (SqT.of q)), fun x dx hx hd ne => ⟨[.ref x], xs, rfl, rfl, by rw [sizeLine_eq]; omega, fun p hp => ?_⟩⟩
    have s1 : Same H (upd (upd H dx (.own x)) x (.ins C dx [])) := made_same hx hd
    have s2 : Same H (upd (upd (upd H dx (.own x)) x (.ins C dx [])) p (.tup xs)) := Same.putNew' hp s1
    refine ⟨x, dx, p, xs, os, rfl, ?_, upd_same, es.same s2, fun h => many h _ s2, fun h => ?_⟩
    · rw [upd_ne (ne_of_none upd_same hp)]
      exact upd_same
    · have g := good h
      cases e : badFrom 0 [] os with
      | some i =>
        rw [e] at g
        exact fun H' s3 => g H' (Same.trans s2 s3)
      | none =>
        rw [e] at g
        exact fun es' H' ec e1 wt => ⟨rfl, g es' H' x ec (same_ext1 hx s2 e1) wt⟩
theorem scWSigns : FnScope ["self"] ["self"] (defScope sWSigns) := ⟨rfl, rfl, rfl, by decide +kernel, rfl, by decide +kernel, by decide +kernel⟩
theorem ok_wSigns {C f : Addr} {fd : FuncData} (F : L2.Fun K "signs" "Weights.signs" sWSigns f fd) (M : WT K C) : FnOk P w K mg base CX0 1 f fd ["self"] (getSp C "_signs") := by
  refine F.ok scWSigns (fun vs H Q E h => ?_) (fun cdv A outer s H vs Q E hr h => ?_)
  · obtain ⟨a, dx, fs, v, rfl, _⟩ := h
    rfl
  · obtain ⟨a, dx, fs, v, rfl, e, l, q⟩ := h
    exact ⟨_, pss_one (ps_ret (pe_fld (pv 0) rfl)), _, rfl, a, C, dx, fs, v, rfl, e, M.cl, M.n1, l, q⟩
theorem scWLen : FnScope ["self"] ["self"] (defScope sWLen) := ⟨rfl, rfl, rfl, by decide +kernel, rfl, by decide +kernel, by decide +kernel⟩
theorem ok_wLen {C f : Addr} {fd : FuncData} (F : L2.Fun K "__len__" "Weights.__len__" sWLen f fd) (T : Txt mg) (M : WT K C) : FnOk P w K mg base CX0 1 f fd ["self"] (spWLen C) := by
  refine F.ok scWLen (fun vs H Q E h => ?_) (fun cdv A outer s H vs Q E hr h => ?_)
  · obtain ⟨a, es, xs, rfl, _⟩ := h
    rfl
  · obtain ⟨a, es, xs, rfl, ⟨dx, p, ha, hp, ps⟩, k⟩ := h
    rw [← ps.1] at k
    exact ⟨_, pss_one (ps_ret (bLen (by rfl) T.len (pe_fld (pv 0) rfl))), _, rfl, a, C, dx, _, _, rfl, ha, M.cl, M.n2, wf_pairs _ _, _, xs.length, rfl, .inr ⟨_, SqT.of hp, rfl⟩, k⟩
theorem scWHas : FnScope ["self", "x"] ["self", "x"] (defScope sWHas) := ⟨rfl, rfl, rfl, by decide +kernel, rfl, by decide +kernel, by decide +kernel⟩
theorem ok_wHas {C f f1 ps_ gs : Addr} {fd fd1 fds : FuncData} (F : L2.Fun K "__contains__" "Weights.__contains__" sWHas f fd) (M : WT K C)
    (G1 : FnOk P w K mg base CX0 1 f1 fd1 ["value"] (spIsLetterA K)) (m1 : mg "is_letter" = some (.ref f1)) (k1 : PySem.W.keepIn K (.ref f1) = true) (b1 : L2.Binds K fd1 ["value"] [])
    (po : PropOf K C "signs" ps_ gs) (GS : FnOk P w K mg base CX0 1 gs fds ["self"] (getSp C "_signs")) (bS : L2.Binds K fds ["self"] []) : FnOk P w K mg base CX0 3 f fd ["self", "x"] (spWHas K C) := by
  refine F.ok scWHas (fun vs H Q E h => ?_) (fun cdv A outer s H vs Q E hr h => ?_)
  · obtain ⟨a, es, xs, x, b, rfl, _⟩ := h
    rfl
  · obtain ⟨a, es, xs, x, b, rfl, ⟨dx, p, ha, hp, ps⟩, hx, no, yes⟩ := h
    refine ⟨_, pss_one (ps_ret (pe_and (pe_call G1 (hr.mono (by decide)) (by rfl) m1 k1 b1 .nil pass0 (pa_cons (pv 1) pa_nil)) (pe_one (pe_cmpR op_in_sign (pv 1) (pe_prop (pv 0) M.cl po GS hr bS .nil pass0 rfl) rfl)))), ?_⟩
    refine ⟨_, rfl, x, b, rfl, hx, b, rfl, ?_⟩
    cases b with
    | false => exact iteF (no rfl)
    | true =>
      rcases hx with ⟨z, rfl, _, e⟩ | ⟨e, _⟩
      · obtain ⟨c, rfl, _⟩ := lt1_sign e.symm
        have y := yes c rfl
        refine iteT ⟨_, rfl, _, rfl, a, dx, _, rfl, ha, a, dx, _, _, rfl, ha, wf_signs _ _, c, _, rfl, rfl, ?_⟩
        rw [show (letters es).cps.toList = es.map (·.1) from by unfold letters; rw [List.toList_toArray]]
        exact y
      · cases e
theorem idx0 {cs : List Nat} {c : Nat} (h : c ∈ cs) : ∃ k, Txt.index0 (⟨cs.toArray⟩ : Str) ⟨#[c]⟩ = some k ∧ cs[k]? = some c := by
  unfold Txt.index0
  rcases StrLaws.occ_head (⟨cs.toArray⟩ : Str) ⟨#[c]⟩ 1 (Nat.le_refl 1) with ⟨_, hn⟩ | ⟨k, r, e, hat, _⟩
  · obtain ⟨k, hk, e⟩ := List.getElem_of_mem h
    exact absurd ((StrLaws.subAt_one (⟨cs.toArray⟩ : Str) c k).mpr (by simpa using (List.getElem?_eq_getElem hk).trans (congrArg some e))) (hn k)
  · have q := (StrLaws.subAt_one (⟨cs.toArray⟩ : Str) c k).mp hat
    refine ⟨k, ?_, by simpa using q⟩
    rw [e]
    rfl
def spWItem (K : PySem.W.Frag) (C CB : Addr) : Sp := fun vs H Q E => ∃ a es xs x b, vs = [.ref a, x] ∧ Wts C H a es xs ∧ LtX K H x b ∧
  (b = false → raised CB "part" x E H) ∧ ∀ c : Nat, x = .str ⟨#[c]⟩ → (c ∉ es.map (·.1) → raised CB "part" x E H) ∧ ∀ n : Int, (c, n) ∈ es → Q (.int n) H
theorem scWItem : FnScope ["self", "at"] ["self", "at"] (defScope sWItem) := ⟨rfl, rfl, rfl, by decide +kernel, rfl, by decide +kernel, by decide +kernel⟩
theorem ok_wItem {C CB f f1 ps_ gs : Addr} {fd fd1 fds : FuncData} (F : L2.Fun K "__getitem__" "Weights.__getitem__" sWItem f fd) (M : WT K C) (R : ErrB P w K mg base "BadSigns" "part" CB)
    (G1 : FnOk P w K mg base CX0 3 f1 fd1 ["self", "x"] (spWHas K C)) (b1 : L2.Binds K fd1 ["self", "x"] []) (aH : PySem.W.findIn K (.ref C) "__contains__" = some (some (.ref f1))) (nH : PySem.W.isFn K (.ref f1) = true)
    (po : PropOf K C "signs" ps_ gs) (GS : FnOk P w K mg base CX0 1 gs fds ["self"] (getSp C "_signs")) (bS : L2.Binds K fds ["self"] []) : FnOk P w K mg base (L2.CX P w) 4 f fd ["self", "at"] (spWItem K C CB) := by
  obtain ⟨fi, fdi, psi, r1, r2, r3, r4⟩ := R.init
  refine F.okX scWItem (fun vs H Q E h => ?_) (fun cdv A outer s H vs Q E hr h => ?_)
  · obtain ⟨a, es, xs, x, b, rfl, _⟩ := h
    rfl
  · obtain ⟨a, es, xs, x, b, rfl, ⟨dx, p, ha, hp, ps⟩, hx, no, yes⟩ := h
    have tk := takes_of (X := cxOf (L2.CX P w) P w K mg base ["self", "at"] "Weights.__getitem__" (defScope sWItem) f cdv A outer s H E) rfl rfl rfl rfl
    have hr2 := hr.mono (show 2 ≤ 3 by decide)
    refine ⟨_, pss_cons (ps_if (pt_cmpR (op_hasnt G1 hr b1 pass0 aH nH) (pv 1) (pv 0) rfl) (pss_one (ps_raise1 rfl tk R.O r1 r2 r3 hr2 r4 (by rfl) R.mgC (pv 1))) pss_nil)
      (pss_one (ps_ret (bIxT (pe_ix ix_tup (pe_fld (pv 0) rfl) (pe_bmS PySem.F.plainAttrs_str PySem.F.slot_str_index PySem.F.type_str_index (mt_indexX rfl tk) (pe_prop (pv 0) M.cl po GS hr2 bS .nil pass0 rfl) (pa_cons (pv 1) pa_nil)) (fun _ _ => rfl)) pe_int))), ?_⟩
    refine ⟨_, rfl, _, rfl, a, dx, _, rfl, ha, a, es, xs, x, b, rfl, ⟨dx, p, ha, hp, ps⟩, hx, fun e => ⟨false, rfl, _, rfl, iteT ⟨_, rfl, no e⟩⟩, fun c ex => ?_⟩
    obtain ⟨n1, y1⟩ := yes c ex
    by_cases hc : c ∈ es.map (·.1)
    · rw [decide_eq_true hc]
      refine ⟨true, rfl, _, rfl, iteF ?_⟩
      subst ex
      obtain ⟨k0, hk0', ck0⟩ := idx0 hc
      have hk0 : Txt.index0 (letters es) ⟨#[c]⟩ = some k0 := hk0'
      refine ⟨_, rfl, a, C, dx, _, _, rfl, ha, M.cl, M.n2, wf_pairs _ _, _, rfl, a, dx, _, rfl, ha, a, dx, _, _, rfl, ha, wf_signs _ _, rfl, _, rfl, _, _, rfl, rfl, fun k hk => ?_, fun hn => ?_⟩
      · rw [hk0] at hk
        cases hk
        obtain ⟨⟨c', n⟩, he, rfl⟩ : ∃ e, es[k0]? = some e ∧ e.1 = c := by
          rw [List.getElem?_map] at ck0
          cases z : es[k0]? with
          | none => rw [z] at ck0; cases ck0
          | some e => rw [z] at ck0; exact ⟨e, rfl, Option.some.inj ck0⟩
        obtain ⟨t, e3, pt⟩ := ps.2 k0 _ he
        refine ⟨p, xs, (k0 : Nat), .ref t, rfl, rfl, SqT.of hp, atI_int (by omega) (by rw [show ((k0 : Int)).toNat = k0 from by omega]; exact e3), ?_⟩
        exact ⟨t, _, 1, .int n, rfl, rfl, SqT.of pt.1, rfl, y1 n (List.mem_of_getElem? he)⟩
      · rw [hk0] at hn
        cases hn
    · rw [decide_eq_false hc]
      exact ⟨false, rfl, _, rfl, iteT ⟨_, rfl, n1 hc⟩⟩
end
end Kx
set_option Elab.async false
set_option maxRecDepth 100000
set_option autoImplicit false
/-! Weights == -/
namespace Kx
open PySem L2 PySem.Spec PyProof.Rows Rg Er Ru Tn
abbrev sWEq : Stmt := inClass (top 15) 7
structure InsT (K : PySem.W.Frag) (C : Addr) : Prop where
  cl : Cls K C
  ha : PySem.W.findIn K (.ref C) "__class__" = some (some (.builtin "object.__class__"))
  hn : PySem.W.specialIn K (.builtin "object.__class__") "__get__" = some (some (.builtin "getset_descriptor.__get__"))
  htk : PySem.W.takesIn K (.builtin "object.__class__") = some true
  hm : PySem.W.mroIn K C (.type "object") = some true
theorem InsT.ty {K : PySem.W.Frag} {C a dx : Addr} {H : Hp} {fs : List (Str × V)} (T : InsT K C) (e : H a = some (.ins C dx fs)) : TyX K H (.ref a) (.ref C) := .base (.ins e T.cl T.ha T.hn T.htk T.hm)
def dPair (e : Nat × Int) : PyData := .tuple [.str ⟨#[e.1]⟩, .int e.2]
def dPairs (es : List (Nat × Int)) : PyData := .tuple (es.map dPair)
theorem eqvPair (e f : Nat × Int) : PyData.eqv (dPair e) (dPair f) = decide (e = f) := by
  obtain ⟨c, n⟩ := e
  obtain ⟨d, m⟩ := f
  unfold dPair
  simp only [PyData.eqv, PyData.eqvAll, Bool.and_true]
  by_cases h : (c, n) = (d, m)
  · cases h; simp
  · rw [decide_eq_false h]
    by_cases h1 : c = d
    · subst h1
      have h2 : ¬ n = m := fun q => h (by rw [q])
      simp [h2]
    · simp [h1]
theorem eqvPairs : ∀ es fs : List (Nat × Int), PyData.eqvAll (es.map dPair) (fs.map dPair) = decide (es = fs)
  | [], [] => rfl
  | [], _ :: _ => rfl
  | _ :: _, [] => rfl
  | e :: r, f :: t => by
    simp only [List.map_cons, PyData.eqvAll, eqvPair, eqvPairs r t]
    by_cases h1 : e = f
    · by_cases h2 : r = t
      · simp [h1, h2]
      · simp [h1, h2]
    · simp [h1]
theorem eqvD (es fs : List (Nat × Int)) : PyData.eqv (dPairs es) (dPairs fs) = decide (es = fs) := by
  unfold dPairs
  simp only [PyData.eqv]
  exact eqvPairs es fs
theorem dpAllPairs {K : PySem.W.Frag} {H : Hp} : ∀ {xs : List V} {es : List (Nat × Int)}, PairsD H xs es → DpAll K H xs (es.map dPair)
  | [], [], _ => .nil
  | [], _ :: _, h => by have := h.1; simp at this
  | _ :: _, [], h => by have := h.1; simp at this
  | x :: r, e :: t, h => by
    obtain ⟨a, ha, p⟩ := h.2 0 e rfl
    cases ha
    exact .cons (.tup (SqT.of p.1) (.cons (.str _) (.cons (.int _) .nil))) (dpAllPairs ⟨by have := h.1; simpa using this, fun i f q => h.2 (i + 1) f q⟩)
theorem dpPairs {K : PySem.W.Frag} {H : Hp} {p : Addr} {xs : List V} {es : List (Nat × Int)} (hp : H p = some (.tup xs)) (h : PairsD H xs es) : Dp K H (.ref p) (dPairs es) := .tup (SqT.of hp) (dpAllPairs h)
theorem abc_lt {c : Nat} (h : c ∈ abc.cps.toList) : c < 0x110000 := by
  have q : abc.cps.toList.all (fun c => decide (c < 0x110000)) = true := by decide +kernel
  exact of_decide_eq_true (List.all_eq_true.mp q c h)
theorem layPairs : ∀ {es : List (Nat × Int)}, (∀ e ∈ es, e.1 ∈ abc.cps.toList) → PyData.canLayAll0 (es.map dPair) = true ∧ PyData.depthAll (es.map dPair) ≤ 1
  | [], _ => ⟨rfl, Nat.zero_le _⟩
  | e :: r, h => by
    obtain ⟨a, b⟩ := layPairs (es := r) fun x hx => h x (List.mem_cons_of_mem _ hx)
    have lt := abc_lt (h e List.mem_cons_self)
    refine ⟨?_, ?_⟩
    · simp only [List.map_cons, PyData.canLayAll0, dPair, PyData.canLay0, a, Bool.and_true]
      simpa [PyData.strOk] using lt
    · simp only [List.map_cons, PyData.depthAll, dPair, PyData.depth]
      omega
theorem shapedPairs {es : List (Nat × Int)} (h : ∀ e ∈ es, e.1 ∈ abc.cps.toList) : SeqAt.shaped (dPairs es) = true := by
  obtain ⟨a, b⟩ := layPairs h
  show (PyData.canLayAll0 (es.map dPair) && decide (PyData.depthAll (es.map dPair) + 1 ≤ 64)) = true
  rw [a, decide_eq_true (by omega)]
  rfl
theorem PairsD.abc {H : Hp} {xs : List V} {es : List (Nat × Int)} (h : PairsD H xs es) : ∀ e ∈ es, e.1 ∈ abc.cps.toList := fun e he => by
  obtain ⟨i, hi⟩ := List.mem_iff_getElem?.mp he
  obtain ⟨t, _, p⟩ := h.2 i e hi
  exact p.2.1
def spWEq (K : PySem.W.Frag) (C : Addr) : Sp := fun vs H Q _ => ∃ a es xs y, vs = [.ref a, y] ∧ Wts C H a es xs ∧ ((∃ b fs ys, y = .ref b ∧ Wts C H b fs ys ∧ Q (.bl (decide (es = fs))) H) ∨ ((∃ t, TyX K H y t ∧ PySem.W.kitOne K t (.ref C) = some false) ∧ Q (.bl false) H))
section
variable {P : Program} {w : World} {K : PySem.W.Frag} {mg : Str → Option Value} {base : Heap}
theorem scWEq : FnScope ["self", "other"] ["self", "other"] (defScope sWEq) := ⟨rfl, rfl, rfl, by decide +kernel, rfl, by decide +kernel, by decide +kernel⟩
theorem ok_wEq {C f : Addr} {fd : FuncData} (F : L2.Fun K "__eq__" "Weights.__eq__" sWEq f fd) (T : Txt mg) (M : WT K C) (gC : mg "Weights" = some (.ref C)) (I : InsT K C) (rk : PySem.W.kitOne K (.ref C) (.ref C) = some true) : FnOk P w K mg base CX0 1 f fd ["self", "other"] (spWEq K C) := by
  refine F.ok scWEq (fun vs H Q E h => ?_) (fun cdv A outer s H vs Q E hr h => ?_)
  · obtain ⟨a, es, xs, y, rfl, _⟩ := h
    rfl
  · obtain ⟨a, es, xs, y, rfl, ⟨dx, p, ha, hp, ps⟩, h⟩ := h
    refine ⟨_, pss_one (ps_ret (pe_and (bIsi (by rfl) T.isi (pv 1) (pe_glob (v := .ref C) (by rfl) gC rfl)) (pe_one (pe_cmpR (op_eqD hr.units) (pe_fld (pv 0) rfl) (pe_fld (pv 1) rfl) (nomark _))))), ?_⟩
    rcases h with ⟨b, fs, ys, rfl, ⟨dy, q, hb, hq, qs⟩, k⟩ | ⟨⟨t, ty, no⟩, k⟩
    · refine ⟨_, rfl, .ref b, .ref C, _, _, true, rfl, .own C, I.ty hb, rk, true, rfl, iteT ?_⟩
      refine ⟨_, rfl, a, C, dx, _, _, rfl, ha, M.cl, M.n2, wf_pairs _ _, _, rfl, b, C, dy, _, _, rfl, hb, M.cl, M.n2, wf_pairs _ _, _, _, dpPairs hp ps, dpPairs hq qs, shapedPairs ps.abc, shapedPairs qs.abc, ?_⟩
      rw [eqvD]
      exact k
    · exact ⟨_, rfl, y, .ref C, _, _, false, rfl, .own C, ty, no, false, rfl, iteF k⟩
end
end Kx
set_option Elab.async false
set_option maxRecDepth 100000
set_option autoImplicit false
/-! _law_drawn -/
namespace Kx
open PySem L2 PySem.Spec PyProof.Rows Rg Er Ru Tn
abbrev sDrawn : Stmt := top 21
def sg (d : Nat) : V := V.str ⟨#[d]⟩
theorem Ink.freeOf {c p q : Addr} {n : Nat} {H H' : Hp} (i : Ink c p n H H') (e : H' q = none) : H q = none := by
  cases z : H q with
  | none => rfl
  | some o =>
    rw [i.1 q o (i.2.ne1 e) z] at e
    cases e
theorem bIxS {X : Cx} {a b : Expr} {ta tb : TE} {pos : Pos} (ha : PE X a ta) (hb : PE X b tb) (hs : PlainIx b := by intro _ _; rfl) : PE X (.Subscript a b pos) (tOp rIxS ta tb) := pe_ix ix_str ha hb hs
def spDrawn : Sp := fun vs H Q _ => ∃ (c p : Addr) (n : Nat), vs = [.ref p] ∧ n ≤ 800000 ∧ PenAt c n H p ∧ ∀ (L : Addr) H' xs es, H L = none → H' L = some (.lst xs) → PairsD H' xs es → 1 ≤ es.length → es.length ≤ 4 → Ink c p (n + 20) H H' → Q (.ref L) H'
section
variable {P : Program} {w : World} {K : PySem.W.Frag} {mg : Str → Option Value} {base : Heap}
abbrev nDrawn : List Str := ["_law_pen_here", "_law_letters", "_law_some", "_law_k"]
theorem scDrawn : FnScope nDrawn ["_law_pen_here"] (defScope sDrawn) := ⟨rfl, rfl, rfl, by decide +kernel, rfl, by decide +kernel, by decide +kernel⟩
theorem ok_drawn {f f1 f2 : Addr} {fd fd1 fd2 : FuncData} (F : L2.Fun K "_law_drawn" "_law_drawn" sDrawn f fd) (T : Txt mg)
    (G1 : FnOk P w K mg base CX0 1 f1 fd1 ["_law_pen_here", "_law_many"] spDraw) (m1 : mg "_law_draw" = some (.ref f1)) (k1 : PySem.W.keepIn K (.ref f1) = true) (b1 : L2.Binds K fd1 ["_law_pen_here", "_law_many"] [])
    (G2 : FnOk P w K mg base CX0 2 f2 fd2 ["_law_pen_here", "_law_things"] spPick) (m2 : mg "_law_pick" = some (.ref f2)) (k2 : PySem.W.keepIn K (.ref f2) = true) (b2 : L2.Binds K fd2 ["_law_pen_here", "_law_things"] []) :
    FnOk P w K mg base CX0 3 f fd ["_law_pen_here"] spDrawn := by
  refine F.ok scDrawn (fun vs H Q E h => ?_) (fun cdv A outer s H vs Q E hr h => ?_)
  · obtain ⟨c, p, n, rfl, _⟩ := h
    rfl
  · obtain ⟨c, p, n, rfl, nb, pen, k⟩ := h
    have nd := scDrawn.nd
    have hr1 := hr.mono (show 1 ≤ 2 by decide)
    refine ⟨_, pss_cons (ps_set (i := 1) nd rfl (.inr rfl) pe_str)
      (pss_cons (ps_set (i := 2) nd rfl (.inr rfl) (pe_op op_cat (pe_lc (own := [("_law_k", 3)]) (g := gName 3) (tt := tYes) (te := tOp rIxS (tVar 1) (tCall spDraw [] E0 (tCons (tVar 0) (tCons (tC (.int 26)) tNil)))) rfl nd (pi_range1 (by rfl) T.range (pa_cons pe_int pa_nil)) (blkOk_by (N := nDrawn) (sc := defScope sDrawn) (by decide +kernel))
          (fun _ _ _ _ _ => pg_name (i := 3) nd rfl (Or.inl rfl)) (fun _ _ _ _ _ => pts_nil) (fun _ _ _ _ _ => bIxS (pv 1) (pe_call G1 hr1 (by rfl) m1 k1 b1 .nil pass0 (pa_cons (pv 0) (pa_cons pe_int pa_nil))))) (pe_lst (pa_cons pe_str (pa_cons pe_str pa_nil)))))
      (pss_one (ps_ret (pe_lc (own := [("_law_k", 3)]) (g := gName 3) (tt := tYes) (te := tTup (tCons (tCall spPick [] E0 (tCons (tVar 0) (tCons (tVar 2) tNil))) (tCons (tCall spDraw [] E0 (tCons (tVar 0) (tCons (tC (.int 10)) tNil))) tNil))) rfl nd
          (pi_range1 (by rfl) T.range (pa_cons (pe_call G2 hr (by rfl) m2 k2 b2 .nil pass0 (pa_cons (pv 0) (pa_cons (pe_lst (pa_cons pe_int (pa_cons pe_int (pa_cons pe_int (pa_cons pe_int (pa_cons pe_int (pa_cons pe_int pa_nil))))))) pa_nil))) pa_nil)) (blkOk_by (N := nDrawn) (sc := defScope sDrawn) (by decide +kernel))
          (fun _ _ _ _ _ => pg_name (i := 3) nd rfl (Or.inl rfl)) (fun _ _ _ _ _ => pts_nil) (fun _ _ _ _ _ => pe_tup (pa_cons (pe_call G2 hr (by rfl) m2 k2 b2 .nil pass0 (pa_cons (pv 0) (pa_cons (pv 2) pa_nil))) (pa_cons (pe_call G1 hr1 (by rfl) m1 k1 b1 .nil pass0 (pa_cons (pv 0) (pa_cons pe_int pa_nil))) pa_nil))))))), ?_⟩
    refine ⟨3, rfl, by decide, by decide, fun D hD => ?_⟩
    have Dp := pen.ne1 hD
    refine lcGen walk_range (fun i H' acc => Ink c p (n + i) H H' ∧ ∃ cs : List Nat, acc = cs.map sg ∧ ∀ d ∈ cs, d ∈ abc.cps.toList) (by rw [sizeLine_eq]; decide) ⟨(Ink.start pen).new hD, [], rfl, fun _ h => nomatch h⟩ (fun _ _ _ _ _ => trivial) (fun _ _ _ _ y => y.1) ?_ ?_
    · rintro i x H' acc Q' hi hDl hl ⟨ink, cs, rfl, sub⟩ y q
      have hi3 : i < 3 := hi
      refine ⟨_, rfl, _, rfl, c, p, 26, n + i, rfl, by decide, by decide, by omega, ink.2, fun r H4 r0 r1 pen4 x4 => ?_⟩
      have hD4 : H4 D = some (.lst (cs.map sg)) := x4 _ _ Dp hDl
      have len26 : abc.cps.toList.length = 26 := by decide +kernel
      obtain ⟨d, hd⟩ : ∃ d, abc.cps.toList[r.toNat]? = some d := ⟨_, List.getElem?_eq_getElem (by omega)⟩
      refine ⟨abc, r, d, rfl, rfl, len_small (by decide), atI_int r0 hd, q _ H4 hD4 ⟨Ink.putNew (n := n + (i + 1)) ⟨Ext1.trans ink.1 x4, pen4⟩ pen hD, cs ++ [d], by rw [List.map_append]; rfl, fun e he => ?_⟩⟩
      rcases List.mem_append.mp he with he | he
      · exact sub e he
      · rw [List.mem_singleton.mp he]; exact List.mem_of_getElem? hd
    · rintro H1 acc hDl hl ⟨ink, cs, rfl, sub⟩
      have hn3 : cs.length = 3 := by rw [List.length_map] at hl; exact hl
      refine ⟨by show 2 ≤ sizeLine; decide, fun l hl' => ?_⟩
      have i1 := ink.new (o := .lst [.str "x", .str "o"]) hl'
      refine ⟨D, l, _, _, rfl, rfl, by rw [upd_ne (ne_of_none hDl hl')]; exact hDl, upd_same, by rw [List.length_map, hn3]; show 3 + 2 ≤ sizeLine; decide, fun S hS => ?_⟩
      rw [show cs.map sg ++ [V.str "x", V.str "o"] = (cs ++ [120, 111]).map sg from by rw [List.map_append]; rfl]
      have i2 := i1.new (o := .lst ((cs ++ [120, 111]).map sg)) hS
      have Sp_ := i1.2.ne1 hS
      have eS : upd (upd H1 l (.lst [.str "x", .str "o"])) S (.lst ((cs ++ [120, 111]).map sg)) S = some (.lst ((cs ++ [120, 111]).map sg)) := upd_same
      have all5 : ∀ d ∈ cs ++ [120, 111], d ∈ abc.cps.toList := fun d hd => by
        rcases List.mem_append.mp hd with q | q
        · exact sub d q
        · have xo : ([120, 111] : List Nat).all (fun d => decide (d ∈ abc.cps.toList)) = true := by decide +kernel
          exact of_decide_eq_true (List.all_eq_true.mp xo d q)
      have ld : 0 < (cs ++ [120, 111]).length ∧ (cs ++ [120, 111]).length ≤ 1000 := by rw [List.length_append, hn3]; decide
      generalize cs ++ [120, 111] = ds at i2 eS all5 ld ⊢
      generalize upd (upd H1 l (.lst [.str "x", .str "o"])) S (.lst (ds.map sg)) = H3 at i2 eS ⊢
      refine ⟨_, rfl, by show 6 ≤ sizeLine; decide, fun q hq => ?_⟩
      have i3 := i2.new (o := .lst [.int 1, .int 2, .int 2, .int 3, .int 4, .int 4]) hq
      refine ⟨c, p, n + 3, by omega, i3.2, .inl ⟨q, _, rfl, i2.2.ne1 hq, upd_same, by show 0 < 6; decide, by show 6 ≤ 1000; decide, fun v H5 hv pen5 x5 => ?_⟩⟩
      obtain ⟨m, rfl, m1, m4⟩ : ∃ m : Nat, v = .int (m : Int) ∧ 1 ≤ m ∧ m ≤ 4 := by
        simp only [List.mem_cons, List.not_mem_nil, or_false] at hv
        rcases hv with rfl | rfl | rfl | rfl | rfl | rfl
        · exact ⟨1, rfl, by decide, by decide⟩
        · exact ⟨2, rfl, by decide, by decide⟩
        · exact ⟨2, rfl, by decide, by decide⟩
        · exact ⟨3, rfl, by decide, by decide⟩
        · exact ⟨4, rfl, by decide, by decide⟩
        · exact ⟨4, rfl, by decide, by decide⟩
      have i5 : Ink c p (n + 4) H H5 := ⟨Ext1.trans i3.1 x5, pen5⟩
      have eS5 : H5 S = some (.lst (ds.map sg)) := x5 _ _ Sp_ (by rw [upd_ne (ne_of_none eS hq)]; exact eS)
      refine ⟨m, rfl, by omega, by omega, fun L hL => ?_⟩
      have Lp := i5.2.ne1 hL
      have LS : S ≠ L := ne_of_none eS5 hL
      have tn : ((m : Int)).toNat = m := by omega
      rw [tn]
      refine lcGen walk_range (fun i H' acc => Ink c p (n + 4 + 2 * i) H5 H' ∧ H' S = some (.lst (ds.map sg)) ∧ ∃ es, es.length = i ∧ PairsD H' acc es) (by rw [sizeLine_eq]; omega) ⟨(Ink.start i5.2).new hL, by rw [upd_ne LS]; exact eS5, [], rfl, rfl, fun i e h => by simp at h⟩ (fun _ _ _ _ _ => trivial) (fun _ _ _ _ y => y.1) ?_ ?_
      · rintro i x H' acc Q' hi hLl hl2 ⟨ink2, hS2, es, le, ps⟩ y qq
        have hi4 : i < m := hi
        refine ⟨_, rfl, _, rfl, c, p, n + 4 + 2 * i, by omega, ink2.2, .inl ⟨S, _, rfl, Sp_, hS2, by rw [List.length_map]; exact ld.1, by rw [List.length_map]; exact ld.2, fun v H6 hv pen6 x6 => ?_⟩⟩
        obtain ⟨d, hd, rfl⟩ := List.mem_map.mp hv
        refine ⟨_, rfl, c, p, 10, n + 4 + 2 * i + 1, rfl, by decide, by decide, by omega, pen6, fun r H7 r0 r1 pen7 x7 => ?_⟩
        refine ⟨by show 2 ≤ sizeLine; decide, fun t ht => ?_⟩
        have i7 : Ink c p (n + 4 + 2 * (i + 1)) H' H7 := ⟨Ext1.trans x6 x7, pen7⟩
        have i8 := i7.new (o := .tup [sg d, .int r]) ht
        have hL7 : upd H7 t (.tup [sg d, .int r]) L = some (.lst acc) := i8.1 _ _ Lp hLl
        have et : upd H7 t (.tup [sg d, .int r]) t = some (.tup [sg d, .int r]) := upd_same
        have hS8 := i8.1 _ _ Sp_ hS2
        have tL : t ≠ L := by
          rintro rfl
          rw [i7.1 _ _ Lp hLl] at ht
          cases ht
        generalize upd H7 t (.tup [sg d, .int r]) = H8 at i8 hL7 et hS8 ⊢
        have keep : ∀ t' c' n', PairAt H' t' c' n' → PairAt (upd H8 L (.lst (acc ++ [.ref t]))) t' c' n' := fun t' c' n' pa => by
          have tp' : t' ≠ p := by
            rintro rfl
            obtain ⟨_, _, _, h1, _⟩ := ink2.2
            have pa1 := pa.1
            rw [h1] at pa1
            cases pa1
          have tl' : t' ≠ L := by
            rintro rfl
            have := pa.1
            rw [hLl] at this
            cases this
          exact ⟨by rw [upd_ne tl']; exact i8.1 _ _ tp' pa.1, pa.2⟩
        refine qq _ H8 hL7 ⟨Ink.putNew ⟨Ext1.trans ink2.1 i8.1, i8.2⟩ i5.2 hL, by rw [upd_ne LS]; exact hS8, es ++ [(d, r)], by rw [List.length_append, le]; rfl, by rw [List.length_append, List.length_append, ps.1]; rfl, fun j e he => ?_⟩
        by_cases lt' : j < es.length
        · rw [List.getElem?_append_left lt'] at he
          obtain ⟨t', h1, h2⟩ := ps.2 j e he
          exact ⟨t', by rw [List.getElem?_append_left (by rw [ps.1]; exact lt')]; exact h1, keep _ _ _ h2⟩
        · rw [List.getElem?_append_right (by omega)] at he
          have j0 : j - es.length = 0 := by
            cases z : j - es.length with
            | zero => rfl
            | succ m => rw [z] at he; simp at he
          rw [j0] at he
          have ee : (d, r) = e := by simpa using he
          subst ee
          refine ⟨t, by rw [List.getElem?_append_right (by rw [ps.1]; omega), ps.1, j0]; rfl, by rw [upd_ne tL]; exact et, all5 d hd, r0, by show r ≤ 9; omega⟩
      · rintro H6 acc hLl hl2 ⟨ink2, _, es, le, ps⟩
        exact k L H6 acc es (i5.freeOf hL) hLl ps (by omega) (by omega) ⟨Ext1.trans i5.1 ink2.1, ink2.2.mono (by omega)⟩
end
end Kx
set_option Elab.async false
set_option maxRecDepth 100000
set_option autoImplicit false
/-! _law_due -/
namespace Kx
open PySem L2 PySem.Spec PyProof.Rows Rg Er Ru Tn
abbrev sDue : Stmt := top 23
/-- a comprehension with a condition, by an invariant -/
theorem lcSel {J : It} {n : Nat} {G : Hp → Prop} {Y : Nat → Hp → V → Hp → Prop} (w : Walk J n G Y) {v : Nat} {tt : TT} {te : TE} {σ : L2.St} {H1 : Hp} {D : Addr} {Qd : Hp → Prop} (Iv : Nat → Hp → List V → Prop) (hn : n < sizeLine)
    (h0 : Iv 0 (upd H1 D (.lst [])) []) (hG : ∀ i H' acc, i ≤ n → Iv i H' acc → G H') (hY : ∀ i H' x H2, Y i H' x H2 → H2 = H')
    (el : ∀ i x H' acc (Q : VK) (Qf : Hp → Prop), i < n → H' D = some (.lst acc) → acc.length ≤ i → Iv i H' acc → Y i H' x H' → (∀ y H4, H4 D = some (.lst acc) → Iv (i + 1) (upd H4 D (.lst (acc ++ [y]))) (acc ++ [y]) → Q y H4) → (∀ H3, H3 D = some (.lst acc) → Iv (i + 1) H3 acc → Qf H3) →
      tt ((wipe σ [v]).set v (some x)) H' fun b H3 => if b = true then te ((wipe σ [v]).set v (some x)) H3 Q else Qf H3)
    (hd : ∀ H' acc, H' D = some (.lst acc) → acc.length ≤ n → Iv n H' acc → Qd H') :
    ∃ W : Nat → Nat → Hp → Prop, (∃ m, W 0 m (upd H1 D (.lst []))) ∧ ∀ i m H, W i m H →
      (J.stop i H ∧ Qd H) ∨ (J.go i H ∧ ∃ Nx : Hp → Prop, (∀ H', Nx H' → ∃ m', m' < m ∧ W (i + 1) m' H') ∧ ∀ x H', J.yld i H x H' → gName v x (wipe σ [v]) H' fun σ2 H2 => wipe σ2 [v] = wipe σ [v] ∧ tt σ2 H2 fun b H3 =>
        if b = true then te σ2 H3 fun y H4 => ∃ acc, H4 D = some (.lst acc) ∧ acc.length < sizeLine ∧ Nx (upd H4 D (.lst (acc ++ [y]))) else Nx H3) := by
  refine lc_it w (fun i H' => ∃ acc, H' D = some (.lst acc) ∧ acc.length ≤ i ∧ Iv i H' acc) ⟨[], upd_same, Nat.le_refl _, h0⟩ (fun i H' hi ⟨acc, _, _, q⟩ => hG i H' acc hi q) ?_ fun H' ⟨acc, q1, q2, q3⟩ => hd H' acc q1 q2 q3
  rintro i x H' H2 hi ⟨acc, ha, hl, iv⟩ y
  obtain rfl := hY _ _ _ _ y
  refine ⟨wipe1 σ v x, ?_⟩
  exact el i x H2 acc _ _ hi ha hl iv y (fun y H4 h4 i4 => ⟨acc, h4, by omega, _, upd_same, by simp; omega, i4⟩) (fun H3 h3 i3 => ⟨acc, h3, by omega, i3⟩)
theorem PairsD.snoc {H H' : Hp} {xs : List V} {es : List (Nat × Int)} {t : Addr} {e : Nat × Int} (h : PairsD H xs es) (keep : ∀ t c n, PairAt H t c n → PairAt H' t c n) (p : PairAt H' t e.1 e.2) : PairsD H' (xs ++ [.ref t]) (es ++ [e]) := by
  refine ⟨by rw [List.length_append, List.length_append, h.1]; rfl, fun j f hf => ?_⟩
  by_cases lt' : j < es.length
  · rw [List.getElem?_append_left lt'] at hf
    obtain ⟨t', h1, h2⟩ := h.2 j f hf
    exact ⟨t', by rw [List.getElem?_append_left (by rw [h.1]; exact lt')]; exact h1, keep _ _ _ h2⟩
  · rw [List.getElem?_append_right (by omega)] at hf
    have j0 : j - es.length = 0 := by
      cases z : j - es.length with
      | zero => rfl
      | succ m => rw [z] at hf; simp at hf
    rw [j0] at hf
    have ee : e = f := by simpa using hf
    subst ee
    exact ⟨t, by rw [List.getElem?_append_right (by rw [h.1]; omega), h.1, j0]; rfl, p⟩
theorem shapedL {es : List (Nat × Int)} (h : ∀ e ∈ es, e.1 ∈ abc.cps.toList) : SeqAt.shaped (.list (es.map dPair)) = true := by
  obtain ⟨a, b⟩ := layPairs h
  show (PyData.canLayAll0 (es.map dPair) && decide (PyData.depthAll (es.map dPair) + 1 ≤ 64)) = true
  rw [a, decide_eq_true (by omega)]
  rfl
theorem eqv_nilP (es : List (Nat × Int)) : PyData.eqv (.list (es.map dPair)) (.list []) = es.isEmpty := by
  cases es with
  | nil => rfl
  | cons a t => rfl
theorem filt_mem {es : List (Nat × Int)} {c : Nat} (h : c ∈ es.map (·.1)) : (!(es.filter fun e => decide (e.1 = c)).isEmpty) = true := by
  obtain ⟨e, he, rfl⟩ := List.mem_map.mp h
  cases z : (es.filter fun f => decide (f.1 = e.1)) with
  | nil =>
    have : e ∈ es.filter fun f => decide (f.1 = e.1) := List.mem_filter.mpr ⟨he, by simp⟩
    rw [z] at this
    cases this
  | cons a t => rfl
theorem filt_not {es : List (Nat × Int)} {c : Nat} (h : c ∉ es.map (·.1)) : (!(es.filter fun e => decide (e.1 = c)).isEmpty) = false := by
  have z : (es.filter fun f => decide (f.1 = c)) = [] := List.filter_eq_nil_iff.mpr fun e he q => h (List.mem_map.mpr ⟨e, he, by simpa using q⟩)
  rw [z]
  rfl
def dueV : Option Nat → V
  | some i => .int (i : Nat)
  | none => .non
def spDue (K : PySem.W.Frag) : Sp := fun vs H Q _ => ∃ (l : Addr) (xs : List V) (os : List (Option (Nat × Int))), vs = [.ref l] ∧ H l = some (.lst xs) ∧ Ents K H xs os ∧ xs.length ≤ 1000 ∧
  (¬ (1 ≤ xs.length ∧ xs.length ≤ 4) → Q (.str "many") H) ∧ (1 ≤ xs.length ∧ xs.length ≤ 4 → ∀ H', Same H H' → Q (dueV (badFrom 0 [] os)) H')
section
variable {P : Program} {w : World} {K : PySem.W.Frag} {mg : Str → Option Value} {base : Heap}
abbrev nDue : List Str := ["_law_listed", "_law_at", "_law_pair", "_law_one"]
theorem scDue : FnScope nDue ["_law_listed"] (defScope sDue) := ⟨rfl, rfl, rfl, by decide +kernel, rfl, by decide +kernel, by decide +kernel⟩
theorem ok_due {f : Addr} {fd : FuncData} (F : L2.Fun K "_law_due" "_law_due" sDue f fd) (T : Txt mg) (mS : mg "str" = none) (mT : mg "tuple" = none) (mB : mg "bool" = none) : FnOk P w K mg base CX0 1 f fd ["_law_listed"] (spDue K) := by
  refine F.ok scDue (fun vs H Q E h => ?_) (fun cdv A outer s H vs Q E hr h => ?_)
  · obtain ⟨l, xs, os, rfl, _⟩ := h
    rfl
  · obtain ⟨l, xs, os, rfl, hl, es, few, many, good⟩ := h
    have nd := scDue.nd
    refine ⟨_, pss_cons (ps_if (pt_not (pt_chain op_le op_le pe_int (bLen (by rfl) T.len (pv 0)) pe_int)) (pss_one (ps_ret pe_str)) pss_nil)
      (pss_cons (ps_for PassesOwn.never rfl (pi_range1 (by rfl) T.range (pa_cons (bLen (by rfl) T.len (pv 0)) pa_nil)) (pg_name (i := 1) nd rfl (Or.inl rfl))
        (pss_cons (ps_set (i := 2) nd rfl (.inr rfl) (bIx (pv 0) (pv 1)))
        (pss_cons (ps_if (PW.pt (pw_or (pt_not (pt_val (bIsi (by rfl) T.isi (pv 2) (pe_bltn (v := .ty "tuple") (by rfl) mT (by decide +kernel) rfl)))) (pw_or (pt_cmpR op_ne (bLen (by rfl) T.len (pv 2)) pe_int (nomark _))
            (pw_or (pt_not (pt_val (bIsi (by rfl) T.isi (bIxT (pv 2) pe_int) (pe_bltn (v := .ty "str") (by rfl) mS (by decide +kernel) rfl)))) (pw_or1 (pt_cmpR op_ne (bLen (by rfl) T.len (bIxT (pv 2) pe_int)) pe_int (nomark _))))))) (pss_one (ps_ret (pv 1))) pss_nil)
        (pss_cons (ps_if (PW.pt (pw_or (pt_cmpR op_notin_str (bIxT (pv 2) pe_int) pe_str rfl) (pw_or (pt_not (pt_val (bIsi (by rfl) T.isi (bIxT (pv 2) pe_int) (pe_bltn (v := .ty "int") (by rfl) T.int (by decide +kernel) rfl)))) (pw_or1 (pt_val (bIsi (by rfl) T.isi (bIxT (pv 2) pe_int) (pe_bltn (v := .ty "bool") (by rfl) mB (by decide +kernel) rfl))))))) (pss_one (ps_ret (pv 1))) pss_nil)
        (pss_one (ps_if (PW.pt (pw_or (pt_not (pt_chain op_le op_le pe_int (bIxT (pv 2) pe_int) pe_int)) (pw_or1 (pt_cmpR (op_neD hr.units) (pe_lc (own := [("_law_one", 3)]) (g := gName 3) (te := tVar 3) (tt := tTest (tOp rEq (tOp (rIxT K) (tVar 3) (tC (.int 0))) (tOp (rIxT K) (tVar 2) (tC (.int 0))))) rfl nd (pi_list (pe_slice sl_list (pv 0) po_none (po_some (pv 1)))) (blkOk_by (N := nDue) (sc := defScope sDue) (by decide +kernel))
            (fun _ _ _ _ _ => pg_name (i := 3) nd rfl (Or.inl rfl)) (fun _ _ _ _ _ => pts_one (pt_cmpR op_eq (bIxT (pv 3) pe_int) (bIxT (pv 2) pe_int) (nomark _))) (fun _ _ _ _ _ => pv 3)) (pe_lst pa_nil) (nomark _))))) (pss_one (ps_ret (pv 1))) pss_nil))))))
      (pss_one (ps_ret pe_non))), ?_⟩
    refine ⟨_, rfl, _, xs.length, rfl, .inl ⟨_, SqL.of hl, rfl⟩, 1, _, rfl, rfl, _, rfl, ?_⟩
    by_cases hc : 1 ≤ xs.length ∧ xs.length ≤ 4
    · rw [decide_eq_true (show (1 : Int) ≤ (xs.length : Int) by omega)]
      refine iteT ⟨_, _, rfl, rfl, _, rfl, ?_⟩
      rw [decide_eq_true (show (xs.length : Int) ≤ 4 by omega)]
      refine iteF ?_
      have good := good hc
      refine ⟨_, rfl, _, xs.length, rfl, .inl ⟨_, SqL.of hl, rfl⟩, (xs.length : Int), rfl, by omega, by omega, ?_⟩
      refine for_it walk_range (fun j σ' H' => ∃ (y1 y2 y3 : Option V) (es : List (Nat × Int)), σ' = [some (.ref l), y1, y2, y3] ∧ Same H H' ∧ es.length = j ∧ badFrom 0 [] os = badFrom j (es.map (·.1)) (os.drop j) ∧ ∀ (i : Nat) (e : Nat × Int), es[i]? = some e → ∃ t, xs[i]? = some (.ref t) ∧ PairAt H t e.1 e.2)
        ⟨none, none, none, [], rfl, Same.refl H, rfl, rfl, fun i c q => by simp at q⟩ (fun _ _ _ _ _ => trivial) ?_ ?_
      · rintro j x σ' H' H2 hj ⟨y1, y2, y3, es', rfl, s0, lj, ej, prs⟩ yy
        obtain ⟨e6, ex⟩ := yy
        subst e6
        subst ex
        have hl0 := es.1
        have hjx : j < xs.length := by simpa using hj
        have hj' : j < os.length := by omega
        obtain ⟨o, ho⟩ : ∃ o, os[j]? = some o := ⟨_, List.getElem?_eq_getElem hj'⟩
        obtain ⟨v, hv, ev⟩ := es.2 j o ho
        have dr : os.drop j = o :: os.drop (j + 1) := by
          rw [List.drop_eq_getElem_cons hj']
          congr 1
          rw [List.getElem?_eq_getElem hj'] at ho
          exact Option.some.inj ho
        have ev3 := ev.same s0
        have hlx := s0 _ _ hl
        have z0 : (V.int (0 + (j : Int))) = .int (j : Nat) := by rw [Int.zero_add]
        have done : badFrom j (es'.map (·.1)) (os.drop j) = some j → ∀ H', Same H2 H' → Q (V.int (0 + (j : Int))) H' := fun q H' s' => by
          rw [ej, q] at good
          rw [z0]
          exact good H' (Same.trans s0 s')
        refine ⟨_, rfl, _, rfl, l, xs, (0 + (j : Int)), v, rfl, rfl, SqL.of hlx, atI_int (by omega) (by rw [show (0 + (j : Int)).toNat = j from by omega]; exact hv), ?_⟩
        rcases ev3 with ⟨t, c, n, rfl, pt, rfl⟩ | ⟨rfl, _, pr⟩
        · have ht := pt.1
          refine ⟨_, rfl, .ref t, .ty "tuple", _, _, true, rfl, .ty "tuple", .base (.tup ht), kit_ty (by decide +kernel), true, rfl, iteF ?_⟩
          refine ⟨_, rfl, _, 2, rfl, .inr ⟨_, SqT.of ht, rfl⟩, rfl, false, rfl, iteF ?_⟩
          refine ⟨_, rfl, t, _, 0, _, rfl, rfl, SqT.of ht, rfl, .str ⟨#[c]⟩, .ty "str", _, _, true, rfl, .ty "str", .base (.str _), kit_ty (by decide +kernel), true, rfl, iteF ?_⟩
          refine ⟨_, rfl, t, _, 0, _, rfl, rfl, SqT.of ht, rfl, _, 1, rfl, ⟨len_small (by show 1 ≤ 1000; decide), rfl⟩, rfl, false, rfl, iteF ?_⟩
          refine ⟨_, rfl, t, _, 0, _, rfl, rfl, SqT.of ht, rfl, _, _, rfl, rfl, _, rfl, ?_⟩
          rw [show (!(!(Builtin.Str.occurrences ("abcdefghijklmnopqrstuvwxyz" : Str) ⟨#[c]⟩ 0 ("abcdefghijklmnopqrstuvwxyz" : Str).length 1).isEmpty)) = false from congrArg Bool.not ((StrLaws.found_one abc c).trans (decide_eq_true pt.2.1))]
          refine iteF ?_
          refine ⟨_, rfl, t, _, 1, _, rfl, rfl, SqT.of ht, rfl, .int n, .ty "int", _, _, true, rfl, .ty "int", .base (.int n), kit_ty (by decide +kernel), true, rfl, iteF ?_⟩
          refine ⟨_, rfl, t, _, 1, _, rfl, rfl, SqT.of ht, rfl, .int n, .ty "bool", _, _, false, rfl, .ty "bool", .base (.int n), kit_ty (by decide +kernel), false, rfl, iteF ?_⟩
          refine ⟨_, rfl, t, _, 1, _, rfl, rfl, SqT.of ht, rfl, 0, n, rfl, rfl, _, rfl, ?_⟩
          rw [decide_eq_true pt.2.2.1]
          refine iteT ⟨n, 9, rfl, rfl, _, rfl, ?_⟩
          rw [decide_eq_true pt.2.2.2]
          refine iteF ?_
          refine ⟨_, rfl, _, rfl, _, rfl, l, xs, rfl, SqL.of hlx, fun S hS => ?_⟩
          have ec : cutV xs none (some (0 + (j : Int))) = xs.take j := by
            unfold cutV
            have h0 : HT.sIx xs.length 0 none = 0 := rfl
            have h1 : HT.sIx xs.length xs.length (some (0 + (j : Int))) = j := by
              show (if (0 + (j : Int)) < 0 then ((0 + (j : Int)) + (xs.length : Int)).toNat else min (0 + (j : Int)).toNat xs.length) = j
              rw [if_neg (by omega)]
              omega
            rw [h0, h1, List.drop_zero]
            rfl
          rw [ec]
          have s1 : Same H2 (upd H2 S (.lst (xs.take j))) := Same.new hS
          have eS : upd H2 S (.lst (xs.take j)) S = some (.lst (xs.take j)) := upd_same
          generalize upd H2 S (.lst (xs.take j)) = H3 at s1 eS ⊢
          have sH3 : Same H H3 := Same.trans s0 s1
          refine ⟨S, rfl, ⟨_, SqL.of eS⟩, fun D hD => ?_⟩
          have tkl : (xs.take j).length = j := by rw [List.length_take]; omega
          refine lcSel (walk_list (xs := xs.take j)) (fun i H' acc => Same H3 H' ∧ PairsD H' acc ((es'.take i).filter fun e => decide (e.1 = c))) (by rw [tkl, sizeLine_eq]; omega) ⟨Same.new hD, rfl, fun i e h => by simp at h⟩ (fun i H' acc _ q => SqL.of (q.1 _ _ eS)) (fun _ _ _ _ y => y.1) ?_ ?_
          · rintro i x H4 acc Q' Qf hi hDl hl' ⟨s4, pd⟩ ⟨_, ex⟩ q qf
            have hij : i < j := by rw [tkl] at hi; exact hi
            rw [List.getElem?_take_of_lt hij] at ex
            obtain ⟨e, he⟩ : ∃ e, es'[i]? = some e := ⟨_, List.getElem?_eq_getElem (by omega)⟩
            obtain ⟨t1, h1, p1⟩ := prs i e he
            rw [h1] at ex
            cases ex
            have p4 := p1.same (Same.trans sH3 s4)
            have pt4 := pt.same (Same.trans s1 s4)
            refine ⟨_, rfl, t1, _, 0, _, rfl, rfl, SqT.of p4.1, rfl, _, rfl, t, _, 0, _, rfl, rfl, SqT.of pt4.1, rfl, rfl, _, rfl, ?_⟩
            have ed : decide (V.str ⟨#[e.1]⟩ = V.str ⟨#[c]⟩) = decide (e.1 = c) := decide_eq_decide.mpr ⟨fun q => by injection q with q; injection q with q; simpa using q, fun q => by rw [q]⟩
            rw [ed]
            have tk1 : es'.take (i + 1) = es'.take i ++ [e] := by rw [List.take_add_one, he]; rfl
            by_cases hc1 : e.1 = c
            · rw [decide_eq_true hc1]
              refine iteT ⟨_, rfl, q _ H4 hDl ⟨Same.putNew hD s4, ?_⟩⟩
              have f1 : ([e].filter fun (f : Nat × Int) => decide (f.1 = c)) = [e] := by simp [hc1]
              rw [tk1, List.filter_append, f1]
              have keep : ∀ t' c' n', PairAt H4 t' c' n' → PairAt (upd H4 D (.lst (acc ++ [.ref t1]))) t' c' n' := fun t' c' n' pa => by
                have tl' : t' ≠ D := by
                  rintro rfl
                  have := pa.1
                  rw [hDl] at this
                  cases this
                exact ⟨by rw [upd_ne tl']; exact pa.1, pa.2⟩
              exact pd.snoc keep (keep _ _ _ p4)
            · rw [decide_eq_false hc1]
              refine iteF (qf H4 hDl ⟨s4, ?_⟩)
              have f1 : ([e].filter fun (f : Nat × Int) => decide (f.1 = c)) = [] := by simp [hc1]
              rw [tk1, List.filter_append, f1, List.append_nil]
              exact pd
          · rintro H5 acc hDl hl' ⟨s5, pd⟩
            rw [tkl, List.take_of_length_le (by omega)] at pd
            refine ⟨Nat.zero_le _, fun q hq => ?_⟩
            have s6 : Same H5 (upd H5 q (.lst [])) := Same.new hq
            have eq0 : upd H5 q (.lst []) q = some (.lst []) := upd_same
            generalize upd H5 q (.lst []) = H6 at s6 eq0 ⊢
            have pd6 := pd.mono fun _ _ _ z => z.same s6
            have s26 : Same H2 H6 := Same.trans s1 (Same.trans s5 s6)
            refine ⟨_, .list [], .lst (SqL.of (s6 _ _ hDl)) (dpAllPairs pd6), .lst (SqL.of eq0) .nil, shapedL pd6.abc, rfl, _, rfl, ?_⟩
            rw [eqv_nilP]
            by_cases hm : c ∈ es'.map (·.1)
            · rw [filt_mem hm]
              refine iteT ⟨_, rfl, done ?_ H6 s26⟩
              rw [dr]
              show (if c ∈ es'.map (·.1) then some j else _) = some j
              rw [if_pos hm]
            · rw [filt_not hm]
              refine iteF ⟨_, _, _, es' ++ [(c, n)], rfl, Same.trans s0 s26, by rw [List.length_append, lj]; rfl, ?_, fun i e he => ?_⟩
              · rw [ej, dr]
                show (if c ∈ es'.map (·.1) then some j else badFrom (j + 1) (es'.map (·.1) ++ [c]) (os.drop (j + 1))) = _
                rw [if_neg hm, List.map_append]
                rfl
              · by_cases lt' : i < es'.length
                · rw [List.getElem?_append_left lt'] at he
                  exact prs i e he
                · rw [List.getElem?_append_right (by omega)] at he
                  have i0 : i - es'.length = 0 := by
                    cases z : i - es'.length with
                    | zero => rfl
                    | succ m => rw [z] at he; simp at he
                  rw [i0] at he
                  have ee : (c, n) = e := by simpa using he
                  have ei : i = j := by omega
                  subst ee ei
                  rcases ev with ⟨t', c', n', e', p', q'⟩ | ⟨q', _⟩
                  · cases e'
                    cases q'
                    exact ⟨t, hv, p'⟩
                  · cases q'
        · have now : Q (V.int (0 + (j : Int))) H2 := done (by rw [dr]; rfl) H2 (Same.refl H2)
          rcases pr H2 (Same.keepT (Same.refl H2)) with ⟨t, u, w', b1, o2, rfl, ht, hu, hw, hb⟩ | ⟨_, ⟨t, ys, rfl, ht, l2⟩ | ⟨ty', ty, no⟩⟩
          · refine ⟨_, rfl, .ref t, .ty "tuple", _, _, true, rfl, .ty "tuple", .base (.tup ht), kit_ty (by decide +kernel), true, rfl, iteF ?_⟩
            refine ⟨_, rfl, _, 2, rfl, .inr ⟨_, SqT.of ht, rfl⟩, rfl, false, rfl, iteF ?_⟩
            rcases hu with ⟨z, rfl, few', rfl⟩ | ⟨rfl, t', ty, no⟩
            · refine ⟨_, rfl, t, _, 0, _, rfl, rfl, SqT.of ht, rfl, .str z, .ty "str", _, _, true, rfl, .ty "str", .base (.str _), kit_ty (by decide +kernel), true, rfl, iteF ?_⟩
              refine ⟨_, rfl, t, _, 0, _, rfl, rfl, SqT.of ht, rfl, _, z.length, rfl, ⟨len_small few', rfl⟩, rfl, _, rfl, ?_⟩
              by_cases l1 : z.length = 1
              · rw [show (!decide (V.int (z.length : Nat) = V.int 1)) = false from by rw [l1]; rfl]
                refine iteF ?_
                obtain ⟨c, rfl⟩ : ∃ c, z = ⟨#[c]⟩ := by
                  obtain ⟨⟨L⟩⟩ := z
                  match L, l1 with
                  | [c], _ => exact ⟨c, rfl⟩
                refine ⟨_, rfl, t, _, 0, _, rfl, rfl, SqT.of ht, rfl, _, _, rfl, rfl, _, rfl, ?_⟩
                rw [show (!(!(Builtin.Str.occurrences ("abcdefghijklmnopqrstuvwxyz" : Str) ⟨#[c]⟩ 0 ("abcdefghijklmnopqrstuvwxyz" : Str).length 1).isEmpty)) = !decide (c ∈ abc.cps.toList) from congrArg Bool.not (StrLaws.found_one abc c)]
                by_cases hm : c ∈ abc.cps.toList
                · rw [decide_eq_true hm]
                  refine iteF ?_
                  have l2 : lt1 (⟨#[c]⟩ : Str) = true := decide_eq_true hm
                  rw [l2, Bool.true_and] at hb
                  rcases hw with ⟨i, rfl, rfl⟩ | ⟨rfl, ⟨b, rfl⟩ | ⟨t', ty, no⟩⟩
                  · refine ⟨_, rfl, t, _, 1, _, rfl, rfl, SqT.of ht, rfl, .int i, .ty "int", _, _, true, rfl, .ty "int", .base (.int i), kit_ty (by decide +kernel), true, rfl, iteF ?_⟩
                    refine ⟨_, rfl, t, _, 1, _, rfl, rfl, SqT.of ht, rfl, .int i, .ty "bool", _, _, false, rfl, .ty "bool", .base (.int i), kit_ty (by decide +kernel), false, rfl, iteF ?_⟩
                    refine ⟨_, rfl, t, _, 1, _, rfl, rfl, SqT.of ht, rfl, 0, i, rfl, rfl, _, rfl, ?_⟩
                    have hb' : false = (decide ((0 : Int) ≤ i) && decide (i ≤ 9)) := hb
                    by_cases h0 : 0 ≤ i
                    · rw [decide_eq_true h0, Bool.true_and] at hb'
                      rw [decide_eq_true h0]
                      refine iteT ⟨i, 9, rfl, rfl, _, rfl, ?_⟩
                      rw [← hb']
                      exact iteT (iteT ⟨_, rfl, now⟩)
                    · rw [decide_eq_false h0]
                      exact iteF ⟨_, rfl, iteT (iteT ⟨_, rfl, now⟩)⟩
                  · refine ⟨_, rfl, t, _, 1, _, rfl, rfl, SqT.of ht, rfl, .bl b, .ty "int", _, _, true, rfl, .ty "int", .base (.bl b), kit_ty (by decide +kernel), true, rfl, iteF ?_⟩
                    exact ⟨_, rfl, t, _, 1, _, rfl, rfl, SqT.of ht, rfl, .bl b, .ty "bool", _, _, true, rfl, .ty "bool", .base (.bl b), kit_ty (by decide +kernel), true, rfl, iteT ⟨_, rfl, now⟩⟩
                  · exact ⟨_, rfl, t, _, 1, _, rfl, rfl, SqT.of ht, rfl, w', .ty "int", _, _, false, rfl, .ty "int", ty, no, false, rfl, iteT (iteT ⟨_, rfl, now⟩)⟩
                · rw [decide_eq_false hm]
                  exact iteT (iteT ⟨_, rfl, now⟩)
              · rw [show (!decide (V.int (z.length : Nat) = V.int 1)) = true from by rw [decide_eq_false (by intro q; injection q with q; omega)]; rfl]
                exact iteT ⟨_, rfl, now⟩
            · exact ⟨_, rfl, t, _, 0, _, rfl, rfl, SqT.of ht, rfl, u, .ty "str", _, _, false, rfl, .ty "str", ty, no, false, rfl, iteT (iteT ⟨_, rfl, now⟩)⟩
          · refine ⟨_, rfl, .ref t, .ty "tuple", _, _, true, rfl, .ty "tuple", .base (.tup ht), kit_ty (by decide +kernel), true, rfl, iteF ?_⟩
            refine ⟨_, rfl, _, ys.length, rfl, .inr ⟨_, SqT.of ht, rfl⟩, rfl, _, rfl, ?_⟩
            rw [show (!decide (V.int (ys.length : Nat) = V.int 2)) = true from by rw [decide_eq_false (by intro q; injection q with q; omega)]; rfl]
            exact iteT (iteT ⟨_, rfl, now⟩)
          · exact ⟨_, rfl, v, .ty "tuple", _, _, false, rfl, .ty "tuple", ty, no, false, rfl, iteT (iteT ⟨_, rfl, now⟩)⟩
      · rintro σ' H' ⟨y1, y2, y3, es', rfl, s0, lj, ej, prs⟩
        have hl0 := es.1
        have dn : os.drop ((xs.length : Int)).toNat = [] := List.drop_eq_nil_of_le (by omega)
        rw [ej, dn] at good
        exact good H' s0
    · have many := many hc
      by_cases h1 : 1 ≤ xs.length
      · rw [decide_eq_true (show (1 : Int) ≤ (xs.length : Int) by omega)]
        refine iteT ⟨_, _, rfl, rfl, _, rfl, ?_⟩
        rw [decide_eq_false (show ¬ (xs.length : Int) ≤ 4 by omega)]
        exact iteT many
      · rw [decide_eq_false (show ¬ (1 : Int) ≤ (xs.length : Int) by omega)]
        exact iteF ⟨_, rfl, iteT many⟩
end
end Kx
set_option Elab.async false
set_option maxRecDepth 100000
set_option autoImplicit false
/-! _law_spoilt -/
namespace Kx
open PySem L2 PySem.Spec PyProof.Rows Rg Er Ru Tn
abbrev sSpoilt : Stmt := top 22
theorem Same.trans' {H H1 H2 : Hp} (a : Same H H1) (b : Same H1 H2) : Same H H2 := Same.trans a b
def spSpoilt (K : PySem.W.Frag) : Sp := fun vs H Q _ => ∃ (c p l : Addr) (n : Nat) (xs : List V) (os : List (Option (Nat × Int))), vs = [.ref p, .ref l] ∧ n ≤ 800000 ∧ PenAt c n H p ∧ l ≠ p ∧ H l = some (.lst xs) ∧ Ents K H xs os ∧ 1 ≤ xs.length ∧ xs.length ≤ 4 ∧
  ∀ L H' ys qs, H L = none → H' L = some (.lst ys) → Ents K H' ys qs → ys.length ≤ 5 → Ink c p (n + 20) H H' → Q (.ref L) H'
section
variable {P : Program} {w : World} {K : PySem.W.Frag} {mg : Str → Option Value} {base : Heap}
abbrev nSpoilt : List Str := ["_law_pen_here", "_law_listed", "_law_odd", "_law_manner", "_law_found", "_law_turn"]
theorem scSpoilt : FnScope nSpoilt ["_law_pen_here", "_law_listed"] (defScope sSpoilt) := ⟨rfl, rfl, rfl, by decide +kernel, rfl, by decide +kernel, by decide +kernel⟩
theorem ok_spoilt {f f1 f2 : Addr} {fd fd1 fd2 : FuncData} (F : L2.Fun K "_law_spoilt" "_law_spoilt" sSpoilt f fd) (T : Txt mg)
    (G1 : FnOk P w K mg base CX0 1 f1 fd1 ["_law_pen_here", "_law_many"] spDraw) (m1 : mg "_law_draw" = some (.ref f1)) (k1 : PySem.W.keepIn K (.ref f1) = true) (b1 : L2.Binds K fd1 ["_law_pen_here", "_law_many"] [])
    (G2 : FnOk P w K mg base CX0 2 f2 fd2 ["_law_pen_here", "_law_things"] spPick) (m2 : mg "_law_pick" = some (.ref f2)) (k2 : PySem.W.keepIn K (.ref f2) = true) (b2 : L2.Binds K fd2 ["_law_pen_here", "_law_things"] []) :
    FnOk P w K mg base CX0 3 f fd ["_law_pen_here", "_law_listed"] (spSpoilt K) := by
  refine F.ok scSpoilt (fun vs H Q E h => ?_) (fun cdv A outer s H vs Q E hr h => ?_)
  · obtain ⟨c, p, l, n, xs, os, rfl, _⟩ := h
    rfl
  · obtain ⟨c, p, l, n, xs, os, rfl, nb, pen, lp, hl, es, l1, l4, k⟩ := h
    have nd := scSpoilt.nd
    have hr1 := hr.mono (show 1 ≤ 2 by decide)
    refine ⟨_, pss_cons (ps_set (i := 2) nd rfl (.inl rfl) (pe_lst (pa_cons (pe_tup (pa_cons (pe_str) (pa_cons (pe_int) (pa_nil)))) (pa_cons (pe_tup (pa_cons (pe_str) (pa_cons (pe_int) (pa_nil)))) (pa_cons (pe_tup (pa_cons (pe_str) (pa_cons (pe_int) (pa_nil)))) (pa_cons (pe_tup (pa_cons (pe_str) (pa_cons (pe_int) (pa_nil)))) (pa_cons (pe_tup (pa_cons (pe_int) (pa_cons (pe_int) (pa_nil)))) (pa_cons (pe_tup (pa_cons (pe_non) (pa_cons (pe_int) (pa_nil)))) (pa_cons (pe_tup (pa_cons (pe_str) (pa_cons (pe_un un_neg pe_int) (pa_nil)))) (pa_cons (pe_tup (pa_cons (pe_str) (pa_cons (pe_int) (pa_nil)))) (pa_cons (pe_tup (pa_cons (pe_str) (pa_cons (pe_bl) (pa_nil)))) (pa_cons (pe_tup (pa_cons (pe_str) (pa_cons (pe_str) (pa_nil)))) (pa_nil)))))))))))))
      (pss_cons (ps_set (i := 2) nd rfl (.inl rfl) (pe_op op_cat (pv 2) (pe_lst (pa_cons (pe_tup (pa_cons (pe_str) (pa_cons (pe_non) (pa_nil)))) (pa_cons (pe_lst (pa_cons (pe_str) (pa_cons (pe_int) (pa_nil)))) (pa_cons (pe_tup (pa_cons (pe_str) (pa_nil))) (pa_cons (pe_tup (pa_cons (pe_str) (pa_cons (pe_int) (pa_cons (pe_int) (pa_nil))))) (pa_cons (pe_str) (pa_cons (pe_non) (pa_cons (pe_tup (pa_cons (pe_lst (pa_cons (pe_str) (pa_nil))) (pa_cons (pe_int) (pa_nil)))) (pa_cons (pe_tup (pa_cons (pe_str) (pa_cons (pe_lst (pa_cons (pe_int) (pa_nil))) (pa_nil)))) (pa_cons (pe_tup (pa_cons (pe_str) (pa_cons (pe_int) (pa_nil)))) (pa_cons (pe_tup (pa_cons (pe_str) (pa_cons (pe_int) (pa_nil)))) (pa_nil))))))))))))))
      (pss_cons (ps_set (i := 3) nd rfl (.inl rfl) (pe_call G1 hr1 (by rfl) m1 k1 b1 .nil pass0 (pa_cons (pv 0) (pa_cons (pe_int) pa_nil))))
      (pss_cons (ps_if (pt_cmpR op_eq (pv 3) pe_int (nomark _)) (pss_one (ps_ret (bIx (pe_lst (pa_cons (pe_lst (pa_nil)) (pa_cons (pe_lst (pa_cons (pe_tup (pa_cons (pe_str) (pa_cons (pe_int) (pa_nil)))) (pa_cons (pe_tup (pa_cons (pe_str) (pa_cons (pe_int) (pa_nil)))) (pa_cons (pe_tup (pa_cons (pe_str) (pa_cons (pe_int) (pa_nil)))) (pa_cons (pe_tup (pa_cons (pe_str) (pa_cons (pe_int) (pa_nil)))) (pa_cons (pe_tup (pa_cons (pe_str) (pa_cons (pe_non) (pa_nil)))) (pa_nil))))))) (pa_nil)))) (pe_call G1 hr1 (by rfl) m1 k1 b1 .nil pass0 (pa_cons (pv 0) (pa_cons (pe_int) pa_nil)))))) pss_nil)
      (pss_cons (ps_set (i := 4) nd rfl (.inl rfl) (bList (by rfl) T.list (pv 1)))
      (pss_cons (ps_for PassesOwn.never rfl (pi_range1 (by rfl) T.range (pa_cons (pe_op op_add pe_int (pe_call G1 hr1 (by rfl) m1 k1 b1 .nil pass0 (pa_cons (pv 0) (pa_cons (pe_int) pa_nil)))) pa_nil)) (pg_name (i := 5) nd rfl (Or.inl rfl))
        (pss_one (ps_asg (pe_call G2 hr (by rfl) m2 k2 b2 .nil pass0 (pa_cons (pv 0) (pa_cons (pv 2) pa_nil))) (pg_sub (pv 4) (pe_call G1 hr1 (by rfl) m1 k1 b1 .nil pass0 (pa_cons (pv 0) (pa_cons (bLen (by rfl) T.len (pv 4)) pa_nil))) set_list))))
      (pss_one (ps_ret (pv 4)))))))), ?_⟩
    have ink : Ink c p n H H := Ink.start pen
    have sall : Same H H := Same.refl H
    refine ⟨by show 2 ≤ sizeLine; decide, fun t1 ht1 => ?_⟩
    have s : Same H (upd H t1 (.tup [.str "xy", .int 1])) := Same.new ht1
    have et1 : upd H t1 (.tup [.str "xy", .int 1]) t1 = some (.tup [.str "xy", .int 1]) := upd_same
    have npt1 : t1 ≠ p := ink.2.ne1 ht1
    have frt1 : H t1 = none := ink.freeOf ht1
    replace ink := ink.new (o := (.tup [.str "xy", .int 1])) ht1
    replace sall := Same.trans sall s
    generalize upd H t1 (.tup [.str "xy", .int 1]) = H1 at s et1 ink sall ⊢
    clear s ht1
    refine ⟨by show 2 ≤ sizeLine; decide, fun t2 ht2 => ?_⟩
    have s : Same H1 (upd H1 t2 (.tup [.str "", .int 1])) := Same.new ht2
    have et2 : upd H1 t2 (.tup [.str "", .int 1]) t2 = some (.tup [.str "", .int 1]) := upd_same
    have npt2 : t2 ≠ p := ink.2.ne1 ht2
    have frt2 : H t2 = none := ink.freeOf ht2
    replace ink := ink.new (o := (.tup [.str "", .int 1])) ht2
    replace sall := Same.trans sall s
    generalize upd H1 t2 (.tup [.str "", .int 1]) = H2 at s et2 ink sall ⊢
    replace et1 := s _ _ et1
    clear s ht2
    refine ⟨by show 2 ≤ sizeLine; decide, fun t3 ht3 => ?_⟩
    have s : Same H2 (upd H2 t3 (.tup [.str "A", .int 1])) := Same.new ht3
    have et3 : upd H2 t3 (.tup [.str "A", .int 1]) t3 = some (.tup [.str "A", .int 1]) := upd_same
    have npt3 : t3 ≠ p := ink.2.ne1 ht3
    have frt3 : H t3 = none := ink.freeOf ht3
    replace ink := ink.new (o := (.tup [.str "A", .int 1])) ht3
    replace sall := Same.trans sall s
    generalize upd H2 t3 (.tup [.str "A", .int 1]) = H3 at s et3 ink sall ⊢
    replace et1 := s _ _ et1
    replace et2 := s _ _ et2
    clear s ht3
    refine ⟨by show 2 ≤ sizeLine; decide, fun t4 ht4 => ?_⟩
    have s : Same H3 (upd H3 t4 (.tup [.str "1", .int 1])) := Same.new ht4
    have et4 : upd H3 t4 (.tup [.str "1", .int 1]) t4 = some (.tup [.str "1", .int 1]) := upd_same
    have npt4 : t4 ≠ p := ink.2.ne1 ht4
    have frt4 : H t4 = none := ink.freeOf ht4
    replace ink := ink.new (o := (.tup [.str "1", .int 1])) ht4
    replace sall := Same.trans sall s
    generalize upd H3 t4 (.tup [.str "1", .int 1]) = H4 at s et4 ink sall ⊢
    replace et1 := s _ _ et1
    replace et2 := s _ _ et2
    replace et3 := s _ _ et3
    clear s ht4
    refine ⟨by show 2 ≤ sizeLine; decide, fun t5 ht5 => ?_⟩
    have s : Same H4 (upd H4 t5 (.tup [.int 3, .int 1])) := Same.new ht5
    have et5 : upd H4 t5 (.tup [.int 3, .int 1]) t5 = some (.tup [.int 3, .int 1]) := upd_same
    have npt5 : t5 ≠ p := ink.2.ne1 ht5
    have frt5 : H t5 = none := ink.freeOf ht5
    replace ink := ink.new (o := (.tup [.int 3, .int 1])) ht5
    replace sall := Same.trans sall s
    generalize upd H4 t5 (.tup [.int 3, .int 1]) = H5 at s et5 ink sall ⊢
    replace et1 := s _ _ et1
    replace et2 := s _ _ et2
    replace et3 := s _ _ et3
    replace et4 := s _ _ et4
    clear s ht5
    refine ⟨by show 2 ≤ sizeLine; decide, fun t6 ht6 => ?_⟩
    have s : Same H5 (upd H5 t6 (.tup [.non, .int 0])) := Same.new ht6
    have et6 : upd H5 t6 (.tup [.non, .int 0]) t6 = some (.tup [.non, .int 0]) := upd_same
    have npt6 : t6 ≠ p := ink.2.ne1 ht6
    have frt6 : H t6 = none := ink.freeOf ht6
    replace ink := ink.new (o := (.tup [.non, .int 0])) ht6
    replace sall := Same.trans sall s
    generalize upd H5 t6 (.tup [.non, .int 0]) = H6 at s et6 ink sall ⊢
    replace et1 := s _ _ et1
    replace et2 := s _ _ et2
    replace et3 := s _ _ et3
    replace et4 := s _ _ et4
    replace et5 := s _ _ et5
    clear s ht6
    refine ⟨1, rfl, ?_⟩
    refine ⟨by show 2 ≤ sizeLine; decide, fun t7 ht7 => ?_⟩
    have s : Same H6 (upd H6 t7 (.tup [.str "q", .int (-1)])) := Same.new ht7
    have et7 : upd H6 t7 (.tup [.str "q", .int (-1)]) t7 = some (.tup [.str "q", .int (-1)]) := upd_same
    have npt7 : t7 ≠ p := ink.2.ne1 ht7
    have frt7 : H t7 = none := ink.freeOf ht7
    replace ink := ink.new (o := (.tup [.str "q", .int (-1)])) ht7
    replace sall := Same.trans sall s
    generalize upd H6 t7 (.tup [.str "q", .int (-1)]) = H7 at s et7 ink sall ⊢
    replace et1 := s _ _ et1
    replace et2 := s _ _ et2
    replace et3 := s _ _ et3
    replace et4 := s _ _ et4
    replace et5 := s _ _ et5
    replace et6 := s _ _ et6
    clear s ht7
    refine ⟨by show 2 ≤ sizeLine; decide, fun t8 ht8 => ?_⟩
    have s : Same H7 (upd H7 t8 (.tup [.str "q", .int 10])) := Same.new ht8
    have et8 : upd H7 t8 (.tup [.str "q", .int 10]) t8 = some (.tup [.str "q", .int 10]) := upd_same
    have npt8 : t8 ≠ p := ink.2.ne1 ht8
    have frt8 : H t8 = none := ink.freeOf ht8
    replace ink := ink.new (o := (.tup [.str "q", .int 10])) ht8
    replace sall := Same.trans sall s
    generalize upd H7 t8 (.tup [.str "q", .int 10]) = H8 at s et8 ink sall ⊢
    replace et1 := s _ _ et1
    replace et2 := s _ _ et2
    replace et3 := s _ _ et3
    replace et4 := s _ _ et4
    replace et5 := s _ _ et5
    replace et6 := s _ _ et6
    replace et7 := s _ _ et7
    clear s ht8
    refine ⟨by show 2 ≤ sizeLine; decide, fun t9 ht9 => ?_⟩
    have s : Same H8 (upd H8 t9 (.tup [.str "q", .bl true])) := Same.new ht9
    have et9 : upd H8 t9 (.tup [.str "q", .bl true]) t9 = some (.tup [.str "q", .bl true]) := upd_same
    have npt9 : t9 ≠ p := ink.2.ne1 ht9
    have frt9 : H t9 = none := ink.freeOf ht9
    replace ink := ink.new (o := (.tup [.str "q", .bl true])) ht9
    replace sall := Same.trans sall s
    generalize upd H8 t9 (.tup [.str "q", .bl true]) = H9 at s et9 ink sall ⊢
    replace et1 := s _ _ et1
    replace et2 := s _ _ et2
    replace et3 := s _ _ et3
    replace et4 := s _ _ et4
    replace et5 := s _ _ et5
    replace et6 := s _ _ et6
    replace et7 := s _ _ et7
    replace et8 := s _ _ et8
    clear s ht9
    refine ⟨by show 2 ≤ sizeLine; decide, fun t10 ht10 => ?_⟩
    have s : Same H9 (upd H9 t10 (.tup [.str "q", .str "1"])) := Same.new ht10
    have et10 : upd H9 t10 (.tup [.str "q", .str "1"]) t10 = some (.tup [.str "q", .str "1"]) := upd_same
    have npt10 : t10 ≠ p := ink.2.ne1 ht10
    have frt10 : H t10 = none := ink.freeOf ht10
    replace ink := ink.new (o := (.tup [.str "q", .str "1"])) ht10
    replace sall := Same.trans sall s
    generalize upd H9 t10 (.tup [.str "q", .str "1"]) = H10 at s et10 ink sall ⊢
    replace et1 := s _ _ et1
    replace et2 := s _ _ et2
    replace et3 := s _ _ et3
    replace et4 := s _ _ et4
    replace et5 := s _ _ et5
    replace et6 := s _ _ et6
    replace et7 := s _ _ et7
    replace et8 := s _ _ et8
    replace et9 := s _ _ et9
    clear s ht10
    refine ⟨by show 10 ≤ sizeLine; decide, fun t11 ht11 => ?_⟩
    have s : Same H10 (upd H10 t11 (.lst [.ref t1, .ref t2, .ref t3, .ref t4, .ref t5, .ref t6, .ref t7, .ref t8, .ref t9, .ref t10])) := Same.new ht11
    have et11 : upd H10 t11 (.lst [.ref t1, .ref t2, .ref t3, .ref t4, .ref t5, .ref t6, .ref t7, .ref t8, .ref t9, .ref t10]) t11 = some (.lst [.ref t1, .ref t2, .ref t3, .ref t4, .ref t5, .ref t6, .ref t7, .ref t8, .ref t9, .ref t10]) := upd_same
    have npt11 : t11 ≠ p := ink.2.ne1 ht11
    have frt11 : H t11 = none := ink.freeOf ht11
    replace ink := ink.new (o := (.lst [.ref t1, .ref t2, .ref t3, .ref t4, .ref t5, .ref t6, .ref t7, .ref t8, .ref t9, .ref t10])) ht11
    replace sall := Same.trans sall s
    generalize upd H10 t11 (.lst [.ref t1, .ref t2, .ref t3, .ref t4, .ref t5, .ref t6, .ref t7, .ref t8, .ref t9, .ref t10]) = H11 at s et11 ink sall ⊢
    replace et1 := s _ _ et1
    replace et2 := s _ _ et2
    replace et3 := s _ _ et3
    replace et4 := s _ _ et4
    replace et5 := s _ _ et5
    replace et6 := s _ _ et6
    replace et7 := s _ _ et7
    replace et8 := s _ _ et8
    replace et9 := s _ _ et9
    replace et10 := s _ _ et10
    clear s ht11
    refine ⟨_, rfl, ?_⟩
    refine ⟨by show 2 ≤ sizeLine; decide, fun t12 ht12 => ?_⟩
    have s : Same H11 (upd H11 t12 (.tup [.str "q", .non])) := Same.new ht12
    have et12 : upd H11 t12 (.tup [.str "q", .non]) t12 = some (.tup [.str "q", .non]) := upd_same
    have npt12 : t12 ≠ p := ink.2.ne1 ht12
    have frt12 : H t12 = none := ink.freeOf ht12
    replace ink := ink.new (o := (.tup [.str "q", .non])) ht12
    replace sall := Same.trans sall s
    generalize upd H11 t12 (.tup [.str "q", .non]) = H12 at s et12 ink sall ⊢
    replace et1 := s _ _ et1
    replace et2 := s _ _ et2
    replace et3 := s _ _ et3
    replace et4 := s _ _ et4
    replace et5 := s _ _ et5
    replace et6 := s _ _ et6
    replace et7 := s _ _ et7
    replace et8 := s _ _ et8
    replace et9 := s _ _ et9
    replace et10 := s _ _ et10
    replace et11 := s _ _ et11
    clear s ht12
    refine ⟨by show 2 ≤ sizeLine; decide, fun t13 ht13 => ?_⟩
    have s : Same H12 (upd H12 t13 (.lst [.str "q", .int 1])) := Same.new ht13
    have et13 : upd H12 t13 (.lst [.str "q", .int 1]) t13 = some (.lst [.str "q", .int 1]) := upd_same
    have npt13 : t13 ≠ p := ink.2.ne1 ht13
    have frt13 : H t13 = none := ink.freeOf ht13
    replace ink := ink.new (o := (.lst [.str "q", .int 1])) ht13
    replace sall := Same.trans sall s
    generalize upd H12 t13 (.lst [.str "q", .int 1]) = H13 at s et13 ink sall ⊢
    replace et1 := s _ _ et1
    replace et2 := s _ _ et2
    replace et3 := s _ _ et3
    replace et4 := s _ _ et4
    replace et5 := s _ _ et5
    replace et6 := s _ _ et6
    replace et7 := s _ _ et7
    replace et8 := s _ _ et8
    replace et9 := s _ _ et9
    replace et10 := s _ _ et10
    replace et11 := s _ _ et11
    replace et12 := s _ _ et12
    clear s ht13
    refine ⟨by show 1 ≤ sizeLine; decide, fun t14 ht14 => ?_⟩
    have s : Same H13 (upd H13 t14 (.tup [.str "q"])) := Same.new ht14
    have et14 : upd H13 t14 (.tup [.str "q"]) t14 = some (.tup [.str "q"]) := upd_same
    have npt14 : t14 ≠ p := ink.2.ne1 ht14
    have frt14 : H t14 = none := ink.freeOf ht14
    replace ink := ink.new (o := (.tup [.str "q"])) ht14
    replace sall := Same.trans sall s
    generalize upd H13 t14 (.tup [.str "q"]) = H14 at s et14 ink sall ⊢
    replace et1 := s _ _ et1
    replace et2 := s _ _ et2
    replace et3 := s _ _ et3
    replace et4 := s _ _ et4
    replace et5 := s _ _ et5
    replace et6 := s _ _ et6
    replace et7 := s _ _ et7
    replace et8 := s _ _ et8
    replace et9 := s _ _ et9
    replace et10 := s _ _ et10
    replace et11 := s _ _ et11
    replace et12 := s _ _ et12
    replace et13 := s _ _ et13
    clear s ht14
    refine ⟨by show 3 ≤ sizeLine; decide, fun t15 ht15 => ?_⟩
    have s : Same H14 (upd H14 t15 (.tup [.str "q", .int 1, .int 1])) := Same.new ht15
    have et15 : upd H14 t15 (.tup [.str "q", .int 1, .int 1]) t15 = some (.tup [.str "q", .int 1, .int 1]) := upd_same
    have npt15 : t15 ≠ p := ink.2.ne1 ht15
    have frt15 : H t15 = none := ink.freeOf ht15
    replace ink := ink.new (o := (.tup [.str "q", .int 1, .int 1])) ht15
    replace sall := Same.trans sall s
    generalize upd H14 t15 (.tup [.str "q", .int 1, .int 1]) = H15 at s et15 ink sall ⊢
    replace et1 := s _ _ et1
    replace et2 := s _ _ et2
    replace et3 := s _ _ et3
    replace et4 := s _ _ et4
    replace et5 := s _ _ et5
    replace et6 := s _ _ et6
    replace et7 := s _ _ et7
    replace et8 := s _ _ et8
    replace et9 := s _ _ et9
    replace et10 := s _ _ et10
    replace et11 := s _ _ et11
    replace et12 := s _ _ et12
    replace et13 := s _ _ et13
    replace et14 := s _ _ et14
    clear s ht15
    refine ⟨by show 1 ≤ sizeLine; decide, fun t16 ht16 => ?_⟩
    have s : Same H15 (upd H15 t16 (.lst [.str "q"])) := Same.new ht16
    have et16 : upd H15 t16 (.lst [.str "q"]) t16 = some (.lst [.str "q"]) := upd_same
    have npt16 : t16 ≠ p := ink.2.ne1 ht16
    have frt16 : H t16 = none := ink.freeOf ht16
    replace ink := ink.new (o := (.lst [.str "q"])) ht16
    replace sall := Same.trans sall s
    generalize upd H15 t16 (.lst [.str "q"]) = H16 at s et16 ink sall ⊢
    replace et1 := s _ _ et1
    replace et2 := s _ _ et2
    replace et3 := s _ _ et3
    replace et4 := s _ _ et4
    replace et5 := s _ _ et5
    replace et6 := s _ _ et6
    replace et7 := s _ _ et7
    replace et8 := s _ _ et8
    replace et9 := s _ _ et9
    replace et10 := s _ _ et10
    replace et11 := s _ _ et11
    replace et12 := s _ _ et12
    replace et13 := s _ _ et13
    replace et14 := s _ _ et14
    replace et15 := s _ _ et15
    clear s ht16
    refine ⟨by show 2 ≤ sizeLine; decide, fun t17 ht17 => ?_⟩
    have s : Same H16 (upd H16 t17 (.tup [.ref t16, .int 1])) := Same.new ht17
    have et17 : upd H16 t17 (.tup [.ref t16, .int 1]) t17 = some (.tup [.ref t16, .int 1]) := upd_same
    have npt17 : t17 ≠ p := ink.2.ne1 ht17
    have frt17 : H t17 = none := ink.freeOf ht17
    replace ink := ink.new (o := (.tup [.ref t16, .int 1])) ht17
    replace sall := Same.trans sall s
    generalize upd H16 t17 (.tup [.ref t16, .int 1]) = H17 at s et17 ink sall ⊢
    replace et1 := s _ _ et1
    replace et2 := s _ _ et2
    replace et3 := s _ _ et3
    replace et4 := s _ _ et4
    replace et5 := s _ _ et5
    replace et6 := s _ _ et6
    replace et7 := s _ _ et7
    replace et8 := s _ _ et8
    replace et9 := s _ _ et9
    replace et10 := s _ _ et10
    replace et11 := s _ _ et11
    replace et12 := s _ _ et12
    replace et13 := s _ _ et13
    replace et14 := s _ _ et14
    replace et15 := s _ _ et15
    replace et16 := s _ _ et16
    clear s ht17
    refine ⟨by show 1 ≤ sizeLine; decide, fun t18 ht18 => ?_⟩
    have s : Same H17 (upd H17 t18 (.lst [.int 1])) := Same.new ht18
    have et18 : upd H17 t18 (.lst [.int 1]) t18 = some (.lst [.int 1]) := upd_same
    have npt18 : t18 ≠ p := ink.2.ne1 ht18
    have frt18 : H t18 = none := ink.freeOf ht18
    replace ink := ink.new (o := (.lst [.int 1])) ht18
    replace sall := Same.trans sall s
    generalize upd H17 t18 (.lst [.int 1]) = H18 at s et18 ink sall ⊢
    replace et1 := s _ _ et1
    replace et2 := s _ _ et2
    replace et3 := s _ _ et3
    replace et4 := s _ _ et4
    replace et5 := s _ _ et5
    replace et6 := s _ _ et6
    replace et7 := s _ _ et7
    replace et8 := s _ _ et8
    replace et9 := s _ _ et9
    replace et10 := s _ _ et10
    replace et11 := s _ _ et11
    replace et12 := s _ _ et12
    replace et13 := s _ _ et13
    replace et14 := s _ _ et14
    replace et15 := s _ _ et15
    replace et16 := s _ _ et16
    replace et17 := s _ _ et17
    clear s ht18
    refine ⟨by show 2 ≤ sizeLine; decide, fun t19 ht19 => ?_⟩
    have s : Same H18 (upd H18 t19 (.tup [.str "q", .ref t18])) := Same.new ht19
    have et19 : upd H18 t19 (.tup [.str "q", .ref t18]) t19 = some (.tup [.str "q", .ref t18]) := upd_same
    have npt19 : t19 ≠ p := ink.2.ne1 ht19
    have frt19 : H t19 = none := ink.freeOf ht19
    replace ink := ink.new (o := (.tup [.str "q", .ref t18])) ht19
    replace sall := Same.trans sall s
    generalize upd H18 t19 (.tup [.str "q", .ref t18]) = H19 at s et19 ink sall ⊢
    replace et1 := s _ _ et1
    replace et2 := s _ _ et2
    replace et3 := s _ _ et3
    replace et4 := s _ _ et4
    replace et5 := s _ _ et5
    replace et6 := s _ _ et6
    replace et7 := s _ _ et7
    replace et8 := s _ _ et8
    replace et9 := s _ _ et9
    replace et10 := s _ _ et10
    replace et11 := s _ _ et11
    replace et12 := s _ _ et12
    replace et13 := s _ _ et13
    replace et14 := s _ _ et14
    replace et15 := s _ _ et15
    replace et16 := s _ _ et16
    replace et17 := s _ _ et17
    replace et18 := s _ _ et18
    clear s ht19
    refine ⟨by show 2 ≤ sizeLine; decide, fun t20 ht20 => ?_⟩
    have s : Same H19 (upd H19 t20 (.tup [.str "q", .int 9])) := Same.new ht20
    have et20 : upd H19 t20 (.tup [.str "q", .int 9]) t20 = some (.tup [.str "q", .int 9]) := upd_same
    have npt20 : t20 ≠ p := ink.2.ne1 ht20
    have frt20 : H t20 = none := ink.freeOf ht20
    replace ink := ink.new (o := (.tup [.str "q", .int 9])) ht20
    replace sall := Same.trans sall s
    generalize upd H19 t20 (.tup [.str "q", .int 9]) = H20 at s et20 ink sall ⊢
    replace et1 := s _ _ et1
    replace et2 := s _ _ et2
    replace et3 := s _ _ et3
    replace et4 := s _ _ et4
    replace et5 := s _ _ et5
    replace et6 := s _ _ et6
    replace et7 := s _ _ et7
    replace et8 := s _ _ et8
    replace et9 := s _ _ et9
    replace et10 := s _ _ et10
    replace et11 := s _ _ et11
    replace et12 := s _ _ et12
    replace et13 := s _ _ et13
    replace et14 := s _ _ et14
    replace et15 := s _ _ et15
    replace et16 := s _ _ et16
    replace et17 := s _ _ et17
    replace et18 := s _ _ et18
    replace et19 := s _ _ et19
    clear s ht20
    refine ⟨by show 2 ≤ sizeLine; decide, fun t21 ht21 => ?_⟩
    have s : Same H20 (upd H20 t21 (.tup [.str "z", .int 0])) := Same.new ht21
    have et21 : upd H20 t21 (.tup [.str "z", .int 0]) t21 = some (.tup [.str "z", .int 0]) := upd_same
    have npt21 : t21 ≠ p := ink.2.ne1 ht21
    have frt21 : H t21 = none := ink.freeOf ht21
    replace ink := ink.new (o := (.tup [.str "z", .int 0])) ht21
    replace sall := Same.trans sall s
    generalize upd H20 t21 (.tup [.str "z", .int 0]) = H21 at s et21 ink sall ⊢
    replace et1 := s _ _ et1
    replace et2 := s _ _ et2
    replace et3 := s _ _ et3
    replace et4 := s _ _ et4
    replace et5 := s _ _ et5
    replace et6 := s _ _ et6
    replace et7 := s _ _ et7
    replace et8 := s _ _ et8
    replace et9 := s _ _ et9
    replace et10 := s _ _ et10
    replace et11 := s _ _ et11
    replace et12 := s _ _ et12
    replace et13 := s _ _ et13
    replace et14 := s _ _ et14
    replace et15 := s _ _ et15
    replace et16 := s _ _ et16
    replace et17 := s _ _ et17
    replace et18 := s _ _ et18
    replace et19 := s _ _ et19
    replace et20 := s _ _ et20
    clear s ht21
    refine ⟨by show 10 ≤ sizeLine; decide, fun t22 ht22 => ?_⟩
    have s : Same H21 (upd H21 t22 (.lst [.ref t12, .ref t13, .ref t14, .ref t15, .str "q1", .non, .ref t17, .ref t19, .ref t20, .ref t21])) := Same.new ht22
    have et22 : upd H21 t22 (.lst [.ref t12, .ref t13, .ref t14, .ref t15, .str "q1", .non, .ref t17, .ref t19, .ref t20, .ref t21]) t22 = some (.lst [.ref t12, .ref t13, .ref t14, .ref t15, .str "q1", .non, .ref t17, .ref t19, .ref t20, .ref t21]) := upd_same
    have npt22 : t22 ≠ p := ink.2.ne1 ht22
    have frt22 : H t22 = none := ink.freeOf ht22
    replace ink := ink.new (o := (.lst [.ref t12, .ref t13, .ref t14, .ref t15, .str "q1", .non, .ref t17, .ref t19, .ref t20, .ref t21])) ht22
    replace sall := Same.trans sall s
    generalize upd H21 t22 (.lst [.ref t12, .ref t13, .ref t14, .ref t15, .str "q1", .non, .ref t17, .ref t19, .ref t20, .ref t21]) = H22 at s et22 ink sall ⊢
    replace et1 := s _ _ et1
    replace et2 := s _ _ et2
    replace et3 := s _ _ et3
    replace et4 := s _ _ et4
    replace et5 := s _ _ et5
    replace et6 := s _ _ et6
    replace et7 := s _ _ et7
    replace et8 := s _ _ et8
    replace et9 := s _ _ et9
    replace et10 := s _ _ et10
    replace et11 := s _ _ et11
    replace et12 := s _ _ et12
    replace et13 := s _ _ et13
    replace et14 := s _ _ et14
    replace et15 := s _ _ et15
    replace et16 := s _ _ et16
    replace et17 := s _ _ et17
    replace et18 := s _ _ et18
    replace et19 := s _ _ et19
    replace et20 := s _ _ et20
    replace et21 := s _ _ et21
    clear s ht22
    refine ⟨t11, t22, _, _, rfl, rfl, et11, et22, by show 10 + 10 ≤ sizeLine; decide, fun S hS => ?_⟩
    have sS : Same H22 (upd H22 S (.lst ([.ref t1, .ref t2, .ref t3, .ref t4, .ref t5, .ref t6, .ref t7, .ref t8, .ref t9, .ref t10] ++ [.ref t12, .ref t13, .ref t14, .ref t15, .str "q1", .non, .ref t17, .ref t19, .ref t20, .ref t21]))) := Same.new hS
    have eS : upd H22 S (.lst ([.ref t1, .ref t2, .ref t3, .ref t4, .ref t5, .ref t6, .ref t7, .ref t8, .ref t9, .ref t10] ++ [.ref t12, .ref t13, .ref t14, .ref t15, .str "q1", .non, .ref t17, .ref t19, .ref t20, .ref t21])) S = some (.lst [.ref t1, .ref t2, .ref t3, .ref t4, .ref t5, .ref t6, .ref t7, .ref t8, .ref t9, .ref t10, .ref t12, .ref t13, .ref t14, .ref t15, .str "q1", .non, .ref t17, .ref t19, .ref t20, .ref t21]) := upd_same
    have npS : S ≠ p := ink.2.ne1 hS
    replace ink := ink.new (o := .lst ([.ref t1, .ref t2, .ref t3, .ref t4, .ref t5, .ref t6, .ref t7, .ref t8, .ref t9, .ref t10] ++ [.ref t12, .ref t13, .ref t14, .ref t15, .str "q1", .non, .ref t17, .ref t19, .ref t20, .ref t21])) hS
    generalize upd H22 S (.lst ([.ref t1, .ref t2, .ref t3, .ref t4, .ref t5, .ref t6, .ref t7, .ref t8, .ref t9, .ref t10] ++ [.ref t12, .ref t13, .ref t14, .ref t15, .str "q1", .non, .ref t17, .ref t19, .ref t20, .ref t21])) = HS at sS eS ink ⊢
    replace et1 := sS _ _ et1
    replace et2 := sS _ _ et2
    replace et3 := sS _ _ et3
    replace et4 := sS _ _ et4
    replace et5 := sS _ _ et5
    replace et6 := sS _ _ et6
    replace et7 := sS _ _ et7
    replace et8 := sS _ _ et8
    replace et9 := sS _ _ et9
    replace et10 := sS _ _ et10
    replace et11 := sS _ _ et11
    replace et12 := sS _ _ et12
    replace et13 := sS _ _ et13
    replace et14 := sS _ _ et14
    replace et15 := sS _ _ et15
    replace et16 := sS _ _ et16
    replace et17 := sS _ _ et17
    replace et18 := sS _ _ et18
    replace et19 := sS _ _ et19
    replace et20 := sS _ _ et20
    replace et21 := sS _ _ et21
    replace et22 := sS _ _ et22
    have od : ∀ v ∈ ([.ref t1, .ref t2, .ref t3, .ref t4, .ref t5, .ref t6, .ref t7, .ref t8, .ref t9, .ref t10, .ref t12, .ref t13, .ref t14, .ref t15, .str "q1", .non, .ref t17, .ref t19, .ref t20, .ref t21] : List V), ∃ o, EntX K HS v o := by
      intro v hv
      simp only [List.mem_cons, List.not_mem_nil, or_false] at hv
      rcases hv with rfl | rfl | rfl | rfl | rfl | rfl | rfl | rfl | rfl | rfl | rfl | rfl | rfl | rfl | rfl | rfl | rfl | rfl | rfl | rfl
      · exact ⟨none, .inr ⟨rfl, .inr ⟨_, rfl⟩, fun H' kt => .inl ⟨_, _, _, _, _, rfl, kt.t _ _ et1, .inl ⟨"xy", rfl, by decide, rfl⟩, .inl ⟨_, rfl, rfl⟩, by decide +kernel⟩⟩⟩
      · exact ⟨none, .inr ⟨rfl, .inr ⟨_, rfl⟩, fun H' kt => .inl ⟨_, _, _, _, _, rfl, kt.t _ _ et2, .inl ⟨"", rfl, by decide, rfl⟩, .inl ⟨_, rfl, rfl⟩, by decide +kernel⟩⟩⟩
      · exact ⟨none, .inr ⟨rfl, .inr ⟨_, rfl⟩, fun H' kt => .inl ⟨_, _, _, _, _, rfl, kt.t _ _ et3, .inl ⟨"A", rfl, by decide, rfl⟩, .inl ⟨_, rfl, rfl⟩, by decide +kernel⟩⟩⟩
      · exact ⟨none, .inr ⟨rfl, .inr ⟨_, rfl⟩, fun H' kt => .inl ⟨_, _, _, _, _, rfl, kt.t _ _ et4, .inl ⟨"1", rfl, by decide, rfl⟩, .inl ⟨_, rfl, rfl⟩, by decide +kernel⟩⟩⟩
      · exact ⟨none, .inr ⟨rfl, .inr ⟨_, rfl⟩, fun H' kt => .inl ⟨_, _, _, _, _, rfl, kt.t _ _ et5, .inr ⟨rfl, _, .base (.int _), kit_ty (by decide +kernel)⟩, .inl ⟨_, rfl, rfl⟩, by decide +kernel⟩⟩⟩
      · exact ⟨none, .inr ⟨rfl, .inr ⟨_, rfl⟩, fun H' kt => .inl ⟨_, _, _, _, _, rfl, kt.t _ _ et6, .inr ⟨rfl, _, .base .non, kit_ty (by decide +kernel)⟩, .inl ⟨_, rfl, rfl⟩, by decide +kernel⟩⟩⟩
      · exact ⟨none, .inr ⟨rfl, .inr ⟨_, rfl⟩, fun H' kt => .inl ⟨_, _, _, _, _, rfl, kt.t _ _ et7, .inl ⟨"q", rfl, by decide, rfl⟩, .inl ⟨_, rfl, rfl⟩, by decide +kernel⟩⟩⟩
      · exact ⟨none, .inr ⟨rfl, .inr ⟨_, rfl⟩, fun H' kt => .inl ⟨_, _, _, _, _, rfl, kt.t _ _ et8, .inl ⟨"q", rfl, by decide, rfl⟩, .inl ⟨_, rfl, rfl⟩, by decide +kernel⟩⟩⟩
      · exact ⟨none, .inr ⟨rfl, .inr ⟨_, rfl⟩, fun H' kt => .inl ⟨_, _, _, _, _, rfl, kt.t _ _ et9, .inl ⟨"q", rfl, by decide, rfl⟩, .inr ⟨rfl, .inl ⟨_, rfl⟩⟩, by decide +kernel⟩⟩⟩
      · exact ⟨none, .inr ⟨rfl, .inr ⟨_, rfl⟩, fun H' kt => .inl ⟨_, _, _, _, _, rfl, kt.t _ _ et10, .inl ⟨"q", rfl, by decide, rfl⟩, .inr ⟨rfl, .inr ⟨_, .base (.str _), kit_ty (by decide +kernel)⟩⟩, by decide +kernel⟩⟩⟩
      · exact ⟨none, .inr ⟨rfl, .inr ⟨_, rfl⟩, fun H' kt => .inl ⟨_, _, _, _, _, rfl, kt.t _ _ et12, .inl ⟨"q", rfl, by decide, rfl⟩, .inr ⟨rfl, .inr ⟨_, .base .non, kit_ty (by decide +kernel)⟩⟩, by decide +kernel⟩⟩⟩
      · exact ⟨none, .inr ⟨rfl, .inr ⟨_, rfl⟩, fun H' kt => let ⟨_, hh⟩ := kt.l _ _ et13; .inr ⟨rfl, .inr ⟨_, .base (.lst hh), kit_ty (by decide +kernel)⟩⟩⟩⟩
      · exact ⟨none, .inr ⟨rfl, .inr ⟨_, rfl⟩, fun H' kt => .inr ⟨rfl, .inl ⟨_, _, rfl, kt.t _ _ et14, by decide⟩⟩⟩⟩
      · exact ⟨none, .inr ⟨rfl, .inr ⟨_, rfl⟩, fun H' kt => .inr ⟨rfl, .inl ⟨_, _, rfl, kt.t _ _ et15, by decide⟩⟩⟩⟩
      · exact ⟨none, .inr ⟨rfl, .inl rfl, fun H' kt => .inr ⟨rfl, .inr ⟨_, .base (.str _), kit_ty (by decide +kernel)⟩⟩⟩⟩
      · exact ⟨none, .inr ⟨rfl, .inl rfl, fun H' kt => .inr ⟨rfl, .inr ⟨_, .base .non, kit_ty (by decide +kernel)⟩⟩⟩⟩
      · exact ⟨none, .inr ⟨rfl, .inr ⟨_, rfl⟩, fun H' kt => let ⟨_, hh⟩ := kt.l _ _ et16; .inl ⟨_, _, _, _, _, rfl, kt.t _ _ et17, .inr ⟨rfl, _, .base (.lst hh), kit_ty (by decide +kernel)⟩, .inl ⟨_, rfl, rfl⟩, by decide +kernel⟩⟩⟩
      · exact ⟨none, .inr ⟨rfl, .inr ⟨_, rfl⟩, fun H' kt => let ⟨_, hh⟩ := kt.l _ _ et18; .inl ⟨_, _, _, _, _, rfl, kt.t _ _ et19, .inl ⟨"q", rfl, by decide, rfl⟩, .inr ⟨rfl, .inr ⟨_, .base (.lst hh), kit_ty (by decide +kernel)⟩⟩, by decide +kernel⟩⟩⟩
      · exact ⟨some (113, 9), .inl ⟨_, _, _, rfl, ⟨et20, by decide +kernel, by decide, by decide⟩, rfl⟩⟩
      · exact ⟨some (122, 0), .inl ⟨_, _, _, rfl, ⟨et21, by decide +kernel, by decide, by decide⟩, rfl⟩⟩
    clear et1 npt1 frt1 et2 npt2 frt2 et3 npt3 frt3 et4 npt4 frt4 et5 npt5 frt5 et6 npt6 frt6 et7 npt7 frt7 et8 npt8 frt8 et9 npt9 frt9 et10 npt10 frt10 et11 npt11 frt11 et12 npt12 frt12 et13 npt13 frt13 et14 npt14 frt14 et15 npt15 frt15 et16 npt16 frt16 et17 npt17 frt17 et18 npt18 frt18 et19 npt19 frt19 et20 npt20 frt20 et21 npt21 frt21 et22 npt22 frt22 sS sall
    have lA : ([.ref t1, .ref t2, .ref t3, .ref t4, .ref t5, .ref t6, .ref t7, .ref t8, .ref t9, .ref t10, .ref t12, .ref t13, .ref t14, .ref t15, .str "q1", .non, .ref t17, .ref t19, .ref t20, .ref t21] : List V).length = 20 := rfl
    generalize ([.ref t1, .ref t2, .ref t3, .ref t4, .ref t5, .ref t6, .ref t7, .ref t8, .ref t9, .ref t10, .ref t12, .ref t13, .ref t14, .ref t15, .str "q1", .non, .ref t17, .ref t19, .ref t20, .ref t21] : List V) = AA at eS od lA
    have hlS : HS l = some (.lst xs) := ink.1 _ _ lp hl
    have esS := es.keep (Ink.keepT pen ink)
    refine ⟨_, rfl, c, p, 6, n, rfl, by decide, by decide, by omega, ink.2, fun r Hd r0 r6 pend xd => ?_⟩
    have kd : KeepT HS Hd := Ink.keepT (n := n + 1) ink.2 ⟨xd, pend⟩
    have eSd := xd _ _ npS eS
    have odd_ : ∀ v ∈ AA, ∃ o, EntX K Hd v o := fun v hv => let ⟨o, e⟩ := od v hv; ⟨o, e.keep kd⟩
    have hld := xd _ _ lp hlS
    have esd := esS.keep kd
    have inkd : Ink c p (n + 1) H Hd := ⟨Ext1.trans ink.1 xd, pend⟩
    clear kd od eS hlS esS
    refine ⟨_, rfl, rfl, _, rfl, ?_⟩
    by_cases hr0 : r = 0
    · subst hr0
      rw [eqSame]
      refine iteT ?_
      replace ink := inkd
      have sall : Same Hd Hd := Same.refl Hd
      refine ⟨by show 0 ≤ sizeLine; decide, fun t23 ht23 => ?_⟩
      have s : Same Hd (upd Hd t23 (.lst [])) := Same.new ht23
      have et23 : upd Hd t23 (.lst []) t23 = some (.lst []) := upd_same
      have npt23 : t23 ≠ p := ink.2.ne1 ht23
      have frt23 : H t23 = none := ink.freeOf ht23
      replace ink := ink.new (o := (.lst [])) ht23
      replace sall := Same.trans sall s
      generalize upd Hd t23 (.lst []) = H23 at s et23 ink sall ⊢
      clear s ht23
      refine ⟨by show 2 ≤ sizeLine; decide, fun t24 ht24 => ?_⟩
      have s : Same H23 (upd H23 t24 (.tup [.str "a", .int 1])) := Same.new ht24
      have et24 : upd H23 t24 (.tup [.str "a", .int 1]) t24 = some (.tup [.str "a", .int 1]) := upd_same
      have npt24 : t24 ≠ p := ink.2.ne1 ht24
      have frt24 : H t24 = none := ink.freeOf ht24
      replace ink := ink.new (o := (.tup [.str "a", .int 1])) ht24
      replace sall := Same.trans sall s
      generalize upd H23 t24 (.tup [.str "a", .int 1]) = H24 at s et24 ink sall ⊢
      replace et23 := s _ _ et23
      clear s ht24
      refine ⟨by show 2 ≤ sizeLine; decide, fun t25 ht25 => ?_⟩
      have s : Same H24 (upd H24 t25 (.tup [.str "b", .int 1])) := Same.new ht25
      have et25 : upd H24 t25 (.tup [.str "b", .int 1]) t25 = some (.tup [.str "b", .int 1]) := upd_same
      have npt25 : t25 ≠ p := ink.2.ne1 ht25
      have frt25 : H t25 = none := ink.freeOf ht25
      replace ink := ink.new (o := (.tup [.str "b", .int 1])) ht25
      replace sall := Same.trans sall s
      generalize upd H24 t25 (.tup [.str "b", .int 1]) = H25 at s et25 ink sall ⊢
      replace et23 := s _ _ et23
      replace et24 := s _ _ et24
      clear s ht25
      refine ⟨by show 2 ≤ sizeLine; decide, fun t26 ht26 => ?_⟩
      have s : Same H25 (upd H25 t26 (.tup [.str "c", .int 1])) := Same.new ht26
      have et26 : upd H25 t26 (.tup [.str "c", .int 1]) t26 = some (.tup [.str "c", .int 1]) := upd_same
      have npt26 : t26 ≠ p := ink.2.ne1 ht26
      have frt26 : H t26 = none := ink.freeOf ht26
      replace ink := ink.new (o := (.tup [.str "c", .int 1])) ht26
      replace sall := Same.trans sall s
      generalize upd H25 t26 (.tup [.str "c", .int 1]) = H26 at s et26 ink sall ⊢
      replace et23 := s _ _ et23
      replace et24 := s _ _ et24
      replace et25 := s _ _ et25
      clear s ht26
      refine ⟨by show 2 ≤ sizeLine; decide, fun t27 ht27 => ?_⟩
      have s : Same H26 (upd H26 t27 (.tup [.str "d", .int 1])) := Same.new ht27
      have et27 : upd H26 t27 (.tup [.str "d", .int 1]) t27 = some (.tup [.str "d", .int 1]) := upd_same
      have npt27 : t27 ≠ p := ink.2.ne1 ht27
      have frt27 : H t27 = none := ink.freeOf ht27
      replace ink := ink.new (o := (.tup [.str "d", .int 1])) ht27
      replace sall := Same.trans sall s
      generalize upd H26 t27 (.tup [.str "d", .int 1]) = H27 at s et27 ink sall ⊢
      replace et23 := s _ _ et23
      replace et24 := s _ _ et24
      replace et25 := s _ _ et25
      replace et26 := s _ _ et26
      clear s ht27
      refine ⟨by show 2 ≤ sizeLine; decide, fun t28 ht28 => ?_⟩
      have s : Same H27 (upd H27 t28 (.tup [.str "e", .non])) := Same.new ht28
      have et28 : upd H27 t28 (.tup [.str "e", .non]) t28 = some (.tup [.str "e", .non]) := upd_same
      have npt28 : t28 ≠ p := ink.2.ne1 ht28
      have frt28 : H t28 = none := ink.freeOf ht28
      replace ink := ink.new (o := (.tup [.str "e", .non])) ht28
      replace sall := Same.trans sall s
      generalize upd H27 t28 (.tup [.str "e", .non]) = H28 at s et28 ink sall ⊢
      replace et23 := s _ _ et23
      replace et24 := s _ _ et24
      replace et25 := s _ _ et25
      replace et26 := s _ _ et26
      replace et27 := s _ _ et27
      clear s ht28
      refine ⟨by show 5 ≤ sizeLine; decide, fun t29 ht29 => ?_⟩
      have s : Same H28 (upd H28 t29 (.lst [.ref t24, .ref t25, .ref t26, .ref t27, .ref t28])) := Same.new ht29
      have et29 : upd H28 t29 (.lst [.ref t24, .ref t25, .ref t26, .ref t27, .ref t28]) t29 = some (.lst [.ref t24, .ref t25, .ref t26, .ref t27, .ref t28]) := upd_same
      have npt29 : t29 ≠ p := ink.2.ne1 ht29
      have frt29 : H t29 = none := ink.freeOf ht29
      replace ink := ink.new (o := (.lst [.ref t24, .ref t25, .ref t26, .ref t27, .ref t28])) ht29
      replace sall := Same.trans sall s
      generalize upd H28 t29 (.lst [.ref t24, .ref t25, .ref t26, .ref t27, .ref t28]) = H29 at s et29 ink sall ⊢
      replace et23 := s _ _ et23
      replace et24 := s _ _ et24
      replace et25 := s _ _ et25
      replace et26 := s _ _ et26
      replace et27 := s _ _ et27
      replace et28 := s _ _ et28
      clear s ht29
      refine ⟨by show 2 ≤ sizeLine; decide, fun t30 ht30 => ?_⟩
      have s : Same H29 (upd H29 t30 (.lst [.ref t23, .ref t29])) := Same.new ht30
      have et30 : upd H29 t30 (.lst [.ref t23, .ref t29]) t30 = some (.lst [.ref t23, .ref t29]) := upd_same
      have npt30 : t30 ≠ p := ink.2.ne1 ht30
      have frt30 : H t30 = none := ink.freeOf ht30
      replace ink := ink.new (o := (.lst [.ref t23, .ref t29])) ht30
      replace sall := Same.trans sall s
      generalize upd H29 t30 (.lst [.ref t23, .ref t29]) = H30 at s et30 ink sall ⊢
      replace et23 := s _ _ et23
      replace et24 := s _ _ et24
      replace et25 := s _ _ et25
      replace et26 := s _ _ et26
      replace et27 := s _ _ et27
      replace et28 := s _ _ et28
      replace et29 := s _ _ et29
      clear s ht30
      refine ⟨_, rfl, c, p, 2, n + 1, rfl, by decide, by decide, by omega, ink.2, fun r2 He q0 q2 pene xe => ?_⟩
      have ke : KeepT H30 He := Ink.keepT (n := n + 2) ink.2 ⟨xe, pene⟩
      have inke : Ink c p (n + 20) H He := ⟨Ext1.trans ink.1 xe, pene.mono (by omega)⟩
      have r2' : r2 = 0 ∨ r2 = 1 := by omega
      rcases r2' with rfl | rfl
      · refine ⟨t30, _, 0, .ref t23, rfl, rfl, SqL.of (xe _ _ npt30 et30), rfl, ?_⟩
        exact k t23 He [] [] frt23 (xe _ _ npt23 et23) ⟨rfl, fun i o h => by simp at h⟩ (by decide) inke
      · refine ⟨t30, _, 1, .ref t29, rfl, rfl, SqL.of (xe _ _ npt30 et30), rfl, ?_⟩
        refine k t29 He _ [some (97, 1), some (98, 1), some (99, 1), some (100, 1), none] frt29 (xe _ _ npt29 et29) ⟨rfl, fun i o h => ?_⟩ (by show 5 ≤ 5; decide) inke
        match i, h with
        | 0, h => cases h; exact ⟨_, rfl, .inl ⟨_, _, _, rfl, ⟨ke.t _ _ et24, by decide +kernel, by decide, by decide⟩, rfl⟩⟩
        | 1, h => cases h; exact ⟨_, rfl, .inl ⟨_, _, _, rfl, ⟨ke.t _ _ et25, by decide +kernel, by decide, by decide⟩, rfl⟩⟩
        | 2, h => cases h; exact ⟨_, rfl, .inl ⟨_, _, _, rfl, ⟨ke.t _ _ et26, by decide +kernel, by decide, by decide⟩, rfl⟩⟩
        | 3, h => cases h; exact ⟨_, rfl, .inl ⟨_, _, _, rfl, ⟨ke.t _ _ et27, by decide +kernel, by decide, by decide⟩, rfl⟩⟩
        | 4, h => cases h; exact ⟨_, rfl, .inr ⟨rfl, .inr ⟨_, rfl⟩, fun H' kt => .inl ⟨_, _, _, _, _, rfl, kt.t _ _ (ke.t _ _ et28), .inl ⟨"e", rfl, by decide, rfl⟩, .inr ⟨rfl, .inr ⟨_, .base .non, kit_ty (by decide +kernel)⟩⟩, by decide +kernel⟩⟩⟩
    · rw [decide_eq_false (fun q => hr0 (by injection q))]
      refine iteF ⟨_, rfl, l, _, rfl, .inl (SqL.of hld), fun D hD => ?_⟩
      have frD : H D = none := inkd.freeOf hD
      have Dp := inkd.2.ne1 hD
      have DS : S ≠ D := ne_of_none eSd hD
      have s1 : Same Hd (upd Hd D (.lst xs)) := Same.new hD
      have eD : upd Hd D (.lst xs) D = some (.lst xs) := upd_same
      have i1 := inkd.new (o := .lst xs) hD
      generalize upd Hd D (.lst xs) = H1 at s1 eD i1 ⊢
      have eS1 := s1 _ _ eSd
      have od1 : ∀ v ∈ AA, ∃ o, EntX K H1 v o := fun v hv => let ⟨o, e⟩ := odd_ v hv; ⟨o, e.same s1⟩
      have es1 := esd.same s1
      refine ⟨_, rfl, c, p, 2, n + 1, rfl, by decide, by decide, by omega, i1.2, fun r3 H2 q0 q2 pen2 x2 => ?_⟩
      have k2' : KeepT H1 H2 := Ink.keepT (n := n + 2) i1.2 ⟨x2, pen2⟩
      have i2 : Ink c p (n + 2) H H2 := ⟨Ext1.trans i1.1 x2, pen2⟩
      refine ⟨_, _, rfl, rfl, 1 + r3, rfl, by omega, by omega, for_it walk_range (fun i σ' H' => ∃ y3 y5 ys qs, σ' = [some (.ref p), some (.ref l), some (.ref S), y3, some (.ref D), y5] ∧ H' D = some (.lst ys) ∧ Ents K H' ys qs ∧ ys.length = xs.length ∧ H' S = some (.lst AA) ∧ (∀ v ∈ AA, ∃ o, EntX K H' v o) ∧ Ink c p (n + 2 + 2 * i) H H')
        ⟨_, _, xs, os, rfl, x2 _ _ Dp eD, es1.keep k2', rfl, x2 _ _ npS eS1, fun v hv => let ⟨o, e⟩ := od1 v hv; ⟨o, e.keep k2'⟩, i2⟩ (fun _ _ _ _ _ => trivial) ?_ ?_⟩
      · rintro i xx σ' H' H'' hi ⟨y3, y5, ys, qs, rfl, eD', es', ly, eS', od', ink'⟩ yy
        obtain ⟨e6, ex⟩ := yy
        subst e6
        subst ex
        have hi2 : i < 2 := by omega
        refine ⟨_, rfl, _, rfl, c, p, n + 2 + 2 * i, by omega, ink'.2, .inl ⟨S, _, rfl, npS, eS', by omega, by omega, fun v H6 hv pen6 x6 => ?_⟩⟩
        have k6 : KeepT H'' H6 := Ink.keepT (n := n + 2 + 2 * i + 1) ink'.2 ⟨x6, pen6⟩
        have ink6 : Ink c p (n + 2 + 2 * i + 1) H H6 := ⟨Ext1.trans ink'.1 x6, pen6⟩
        have eD6 := x6 _ _ Dp eD'
        obtain ⟨o', ev⟩ := od' v hv
        refine ⟨_, rfl, _, rfl, _, rfl, _, ys.length, rfl, .inl ⟨_, SqL.of eD6, rfl⟩, c, p, (ys.length : Int), n + 2 + 2 * i + 1, rfl, by omega, by omega, by omega, pen6, fun r4 H7 t0 t1 pen7 x7 => ?_⟩
        have eD7 := x7 _ _ Dp eD6
        have k7 : KeepT H6 H7 := Ink.keepT (n := n + 2 + 2 * i + 2) pen6 ⟨x7, pen7⟩
        have ink7 : Ink c p (n + 2 + 2 * i + 2) H H7 := ⟨Ext1.trans ink6.1 x7, pen7⟩
        have rl : r4.toNat < ys.length := by omega
        refine ⟨D, ys, r4, r4.toNat, rfl, rfl, eD7, ?_, ?_⟩
        · unfold ixN
          rw [if_pos t0, if_pos t1]
        have kp : KeepT H7 (upd H7 D (.lst (ys.set r4.toNat v))) := KeepT.put eD7
        have kall : KeepT H'' (upd H7 D (.lst (ys.set r4.toNat v))) := (k6.trans k7).trans kp
        refine ⟨_, _, _, qs.set r4.toNat o', rfl, upd_same, ⟨by rw [List.length_set, List.length_set]; exact es'.1, fun j q h => ?_⟩, by rw [List.length_set]; exact ly, by rw [upd_ne DS]; exact x7 _ _ npS (x6 _ _ npS eS'), fun v' hv' => let ⟨o2, e2⟩ := od' v' hv'; ⟨o2, e2.keep kall⟩, Ink.putNew (n := n + 2 + 2 * (i + 1)) ink7 pen frD⟩
        by_cases ej : r4.toNat = j
        · subst ej
          have lq : r4.toNat < qs.length := by rw [← es'.1]; exact rl
          rw [List.getElem?_set_self lq] at h
          cases h
          exact ⟨v, List.getElem?_set_self rl, ev.keep kall⟩
        · rw [List.getElem?_set_ne ej] at h
          obtain ⟨w2, h1, h2⟩ := es'.2 j q h
          exact ⟨w2, by rw [List.getElem?_set_ne ej]; exact h1, h2.keep kall⟩
      · rintro σ' H' ⟨y3, y5, ys, qs, rfl, eD', es', ly, eS', od', ink'⟩
        exact ⟨_, rfl, k D H' ys qs frD eD' es' (by omega) (ink'.mono (by omega))⟩
end
end Kx
set_option Elab.async false
set_option maxRecDepth 100000
set_option autoImplicit false
/-! xs != ys of the same items; _law_heard -/
namespace Kx
open PySem L2 PySem.Spec PyProof.Rows Rg Er Ru LamX
section
variable {X : Cx}
theorem sm_run {P : Program} {w : World} {A : Around} {s : Shared} : ∀ {xs : List V}, (∀ v ∈ xs, Sm v) → ∀ {us ws : List Value}, Vals xs us → Vals xs ws → ∀ j (h1 : j < us.length) (h2 : j < ws.length), SeqAt.EqAt A s us[j] ws[j] true := by
  intro xs
  induction xs with
  | nil =>
    intro _ us ws r1 r2 j h1 h2
    cases r1
    exact absurd h1 (Nat.not_lt_zero j)
  | cons x xs ih =>
    intro hs us ws r1 r2 j h1 h2
    cases r1 with
    | cons a1 b1 =>
      cases r2 with
      | cons a2 b2 =>
        cases j with
        | zero =>
          rcases hs x List.mem_cons_self with f | ⟨c, rfl⟩
          · exact eqAt_same a1 a2 f
          · cases a1; cases a2
            exact SeqAt.EqAt.same _
        | succ j => exact ih (fun v hv => hs v (List.mem_cons_of_mem _ hv)) b1 b2 j (Nat.lt_of_succ_lt_succ h1) (Nat.lt_of_succ_lt_succ h2)
/-- xs != ys, two lists of the same items -/
def rNeS (K : PySem.W.Frag) : R2 := fun x y H Q => ∃ a b xs, x = .ref a ∧ y = .ref b ∧ SqL K H a xs ∧ SqL K H b xs ∧ (∀ v ∈ xs, Sm v) ∧ Q (.bl false) H
theorem op_neS (hu : X.A.units + 64 < cLine) : OpR X (compareOp .NotEq) (rNeS X.K) := by
  intro pins s σ H x y v u Q I rx ry h
  obtain ⟨a, b, xs, rfl, rfl, ha, hb, hs, q⟩ := h
  cases (show v = Value.ref a from rx)
  cases (show u = Value.ref b from ry)
  obtain ⟨us, r1, p1, _⟩ := I.list ha
  obtain ⟨ws, r2, p2, _⟩ := I.list hb
  have hsz : us.toArray.size = ws.toArray.size := by
    rw [List.size_toArray, List.size_toArray, ← r1.length, ← r2.length]
  have k := SeqAt.RcNeAt.lists (A := X.A) (e := fun _ => true) p1.isList p2.isList hsz (by omega) (fun j h1 h2 => by
    have := sm_run (A := X.A.in1) (s := s) (P := X.prog) (w := X.w) hs r1 r2 j (by simpa using h1) (by simpa using h2)
    simpa using this)
  rw [show ((List.range us.toArray.size).all fun _ => true) = true from List.all_eq_true.mpr fun _ _ => rfl] at k
  exact k X.prog X.w _ _ ⟨.bl false, H, I, rfl, q⟩
end
abbrev sHeard : Stmt := top 24
abbrev nHeard : List Str := ["_law_asking", "_law_found", "_law_part", "error"]
theorem scHeard : FnScope nHeard ["_law_asking"] (defScope sHeard) := ⟨rfl, rfl, rfl, by decide +kernel, rfl, by decide +kernel, by decide +kernel⟩
structure HearP (K : PySem.W.Frag) (mg : Str → Option Value) (x f : Str) (C : Addr) : Prop where
  g : mg x = some (.ref C)
  xf : XfC K C
  em : PySem.W.exmOne K (.ref C) (.ref C) = some true
  no : PySem.W.findIn K (.ref C) f = some none
/-- the error that is heard: [its field] is told -/
def hears (G : Addr) (fld : Str) (Q : VK) : XK := fun cls d H' => ∃ dd v, cls = .ref G ∧ d = some dd ∧ H' dd = some (.xd [(fld, v)]) ∧ ∀ q H'', Same H' H'' → H'' q = some (.lst [v]) → Q (.ref q) H''
def TTheard (G : Addr) (fld : Str) : (XK → Hp → VK → Prop) → Hp → VK → Prop := fun tl H Q => ∀ (H1 : Hp) (Q' : VK), Same H H1 → (∀ v H', Q v H' → Q' v H') → tl (hears G fld Q) H1 Q'
section
variable {X : Cx}
theorem heard_gives {g : Addr} {cdg : Value} {q : Str} {G : Addr} (T : HearP X.K X.mg "BadSigns" "part" G) : GivesTo X nHeard "_law_heard" (defScope sHeard) g cdg (defBody sHeard) "_law_asking" q (TTheard G "part") := by
  intro f c' s H Q tl act hc h
  have nd := scHeard.nd
  refine ⟨_, pss_cons (ps_asg (pe_tup (pa_cons pe_non (pa_cons pe_non pa_nil))) (pg_tup rfl (pgs_cons (pg_name (i := 1) nd rfl (Or.inl rfl)) (pgs_cons (pg_name (i := 2) nd rfl (Or.inl rfl)) pgs_nil))))
    (pss_cons (ps_try_val (i := 3) (j := 2) (c := .ref G) (Wout := fun _ _ _ _ => False) (te := fun a cls d => tLst (tCons (tXf a cls d G "part" (tVar 3)) tNil))
      (tb := fun W D σ H => ∃ Ech : XK, (∀ cls d σ' H', Ech cls d H' → W cls d σ' H') ∧ σ[0]? = some (some (.ref f)) ∧ H c' = some (CodeO c' q) ∧ tl Ech H (fun v H' => D.nx (σ.set 1 (some v)) H'))
      rfl rfl rfl nd rfl rfl rfl rfl ⟨rfl, by decide, .inl T.g⟩ L2.takes0 rfl (fun a oe cls d pn hz hf => pe_lst (pa_cons (pe_xf T.xf T.no hz hf (pv 3)) pa_nil)) (fun W pn xe tk _ => ?_))
    (pss_one (ps_ret (pe_ifExp (pt_cmp (pc_isN (pv 2))) (pv 1) (pv 2))))), ?_⟩
  · refine ⟨fun pins s' σ H' D I h' => ?_⟩
    obtain ⟨Ech, hW, h1, h2, h3⟩ := h'
    exact (pss_one (ps_set (i := 1) nd rfl (.inl rfl) (act W pn xe Ech _ _ tk hW))).run pins s' σ H' D I ⟨h1, h2, h3⟩
  · refine ⟨by show 2 ≤ sizeLine; decide, fun t ht => ?_⟩
    refine ⟨t, _, rfl, SqT.of upd_same, rfl, _, _, rfl, _, _, rfl, rfl, ?_⟩
    have s1 : Same H (upd H t (.tup [.non, .non])) := Same.new ht
    generalize upd H t (.tup [.non, .non]) = H1 at s1 ⊢
    refine ⟨hears G "part" Q, ?_, rfl, s1 _ _ hc, h _ _ s1 fun v H' qv => ⟨_, rfl, true, rfl, iteT ⟨_, rfl, qv⟩⟩⟩
    rintro cls d σ' H' ⟨dd, v, rfl, rfl, hd, k⟩
    refine ⟨true, T.em, fun _ hlen a' na => ?_, fun z => nomatch z⟩
    obtain ⟨x0, x1, x2, x3, rfl⟩ : ∃ x0 x1 x2 x3, σ' = [x0, x1, x2, x3] := by
      match σ', hlen with
      | [x0, x1, x2, x3], _ => exact ⟨x0, x1, x2, x3, rfl⟩
    refine ⟨_, rfl, rfl, rfl, dd, _, v, rfl, hd, rfl, by show 1 ≤ sizeLine; decide, fun q hq => ?_⟩
    exact ⟨_, rfl, false, rfl, iteF ⟨_, rfl, k q _ (Same.new hq) upd_same⟩⟩
end
end Kx
set_option Elab.async false
set_option maxRecDepth 100000
set_option autoImplicit false
/-! len(set(xs)), xs a list of few texts -/
namespace Rg
open PySem L2 PySem.Spec PyProof.Rows
/-- how many different ones are among the first i -/
def dn (zs : List Str) : Nat → Nat
  | 0 => 0
  | i + 1 => if (zs.take i).any (· == zs.getD i Str.empty) = true then dn zs i else dn zs i + 1
theorem dn_le (zs : List Str) : ∀ i, dn zs i ≤ i
  | 0 => Nat.le_refl 0
  | i + 1 => by
    have := dn_le zs i
    unfold dn
    split <;> omega
theorem dn_nodup {zs : List Str} (nd : zs.Nodup) : ∀ i, i ≤ zs.length → dn zs i = i
  | 0, _ => rfl
  | i + 1, h => by
    have e : zs[i]? = some zs[i] := List.getElem?_eq_getElem (by omega)
    unfold dn
    rw [show zs.getD i Str.empty = zs[i] from by rw [List.getD_eq_getElem?_getD, e]; rfl, take_no nd e, if_neg Bool.false_ne_true, dn_nodup nd i (by omega)]
theorem dn_step (zs : List Str) (i : Nat) : dn zs (i + 1) ≤ dn zs i + 1 := by
  rw [dn]
  split <;> omega
theorem dn_mono (zs : List Str) : ∀ (i d : Nat), dn zs (i + d) ≤ dn zs i + d
  | _, 0 => Nat.le_refl _
  | i, d + 1 => by
    have h1 := dn_mono zs i d
    have h2 := dn_step zs (i + d)
    rw [← Nat.add_assoc]
    omega
theorem dn_dup {zs : List Str} (nd : ¬ zs.Nodup) : dn zs zs.length < zs.length := by
  have : ∃ i j, i < j ∧ j < zs.length ∧ zs[i]? = zs[j]? := by
    refine Classical.byContradiction fun no => nd ?_
    rw [List.Nodup, List.pairwise_iff_getElem]
    intro i j hi hj lt e
    refine no ⟨i, j, lt, hj, ?_⟩
    rw [List.getElem?_eq_getElem hi, List.getElem?_eq_getElem hj, e]
  obtain ⟨i, j, lt, hj, e⟩ := this
  have ej : zs[j]? = some zs[j] := List.getElem?_eq_getElem hj
  have hit : dn zs (j + 1) = dn zs j := by
    rw [dn, if_pos]
    rw [show zs.getD j Str.empty = zs[j] from by rw [List.getD_eq_getElem?_getD, ej]; rfl]
    refine List.any_eq_true.mpr ⟨zs[j], ?_, by simp⟩
    refine List.mem_of_getElem? (i := i) ?_
    rw [List.getElem?_take_of_lt lt, e, ej]
  have h1 := dn_le zs j
  have h2 := dn_mono zs (j + 1) (zs.length - (j + 1))
  rw [show j + 1 + (zs.length - (j + 1)) = zs.length from by omega] at h2
  omega
section
variable {prog : Program} {w : World} {A : Around}
theorem fill2 {R : Result → Shared → Prop} {it S : Addr} {fp wr : List Addr} {G : Array GenState → Array GenState → Prop} {n : Nat} {P : Nat → Value → Prop} {St : Nat → Shared → Prop}
    (W : WalksS prog w A.in1 it fp wr G n P St) (far : S ∉ fp) (zs : List Str) (zn : zs.length = n) (few : n + 1 < scanBound) (val : ∀ i v, P i v → ∃ z t, zs[i]? = some z ∧ v = .str z t) (j : Nat) :
    ∀ (i : Nat) (s : Shared), i + j = n → St i s → s.heap.SetOf (PySem.strKind prog w) S (fun k => (zs.take i).any (· == k)) (dn zs i) →
      (∀ s', Moved (S :: wr) G s s' → s'.heap.SetOf (PySem.strKind prog w) S (fun k => (zs.take n).any (· == k)) (dn zs n) → R (.ok (.ret .none)) s') →
      codeAny (model prog w) A (.builtin "set.update.loop" ⟨[.ref S, .ref it], []⟩) R s := by
  have far' : S ∉ wr := fun q => far (W.sub _ q)
  have more : ∀ b ∈ wr, b ∈ S :: wr := fun _ q => List.mem_cons_of_mem _ q
  have keepS : ∀ {s s' : Shared} {f : Str → Bool} {m : Nat}, Moved wr G s s' → s.heap.SetOf (PySem.strKind prog w) S f m → s'.heap.SetOf (PySem.strKind prog w) S f m :=
    fun mv ⟨o, es, ep, t, ho, r⟩ => ⟨o, es, ep, t, mv.heap S _ far' ho, r⟩
  induction j with
  | zero =>
    intro i s hi st hS out
    obtain rfl : i = n := by omega
    refine codeAny_builtin PyProof.Rows.F.entry_set_update_loop ?_; rw [Around.under_plainId PyProof.Rows.F.plain_set_update_loop _]
    show wpAny _ A.in1 (pyNext (.ref it) >>= _) _ _ s; refine wpAny_bind (W.done s _ _ st fun s' mv => ?_)
    exact wpAny_pure (out s' (mv.mono more) (keepS mv hS))
  | succ j ih =>
    intro i s hi st hS out
    refine codeAny_builtin PyProof.Rows.F.entry_set_update_loop ?_; rw [Around.under_plainId PyProof.Rows.F.plain_set_update_loop _]
    show wpAny _ A.in1 (pyNext (.ref it) >>= _) _ _ s; refine wpAny_bind (W.item i s _ _ (by omega) st fun v s' hP st' mv => ?_)
    obtain ⟨z, t, ez, rfl⟩ := val i v hP
    have hS' := keepS mv hS
    have le := dn_le zs i
    show wpAny _ A.in1 (holding [Value.str z t] (setAdd S (.str z t)) >>= _) _ _ s'
    refine wpAny_bind (wpAny_holding ?_); unfold setAdd; refine wpAny_holding (wpAny_bind ((PySem.strKind prog w).pyHash (k := z) (strKind_is _ _ _ _) ?_))
    refine wpAny_setAddHashed_of (knd := PySem.strKind prog w) (s := { s' with toks := s'.toks + 1 }) (strKind_is _ _ _ _) rfl hS' (by omega) fun h' same new => ?_
    have new' : h'.SetOf (PySem.strKind prog w) S (fun k => (zs.take (i + 1)).any (· == k)) (dn zs (i + 1)) :=
      SetOf_congr new (fun k => take_has ez k) (by rw [dn, show zs.getD i Str.empty = z from by rw [List.getD_eq_getElem?_getD, ez]; rfl])
    have other : ∀ b, b ≠ S → ∀ o, s'.heap.get? b = some o → h'.get? b = some o := fun b hb o e => (same.2 b hb).trans e
    refine wpAny_pure ⟨plainId_quiet PyProof.Rows.F.plain_set_update_loop _, ih (i + 1) _ (by omega) (W.frame _ s' _ _ st' (Nat.le_succ _) fun b hb o e => other b (fun q => far (q ▸ hb)) o e) new' fun s2 mv2 hS2 => ?_⟩
    exact out s2 (Moved.trans W.gtrans ((mv.mono more).then_heap (Nat.le_succ _) fun b o hb e => other b (fun q => hb (q ▸ List.mem_cons_self)) o e) mv2) hS2
end
section
variable {prog : Program} {w : World} {A : Around} {E : Value → Shared → Prop} {s : Shared}
set_option maxHeartbeats 3200000 in
theorem set_listD {l : Addr} {items : Array Value} {xs : List Str} {Q : Value → Shared → Prop} (calm : A.handled = none) (hl : s.heap.IsList l items) (hi : ∀ (i : Nat) (v : Value), items[i]? = some v → ∃ z t, xs[i]? = some z ∧ v = .str z t) (hsz : xs.length = items.size)
    (few : items.size + 1 < scanBound)
    (out : ∀ (h' : Heap) (tk : Nat), h'.SetOf (PySem.strKind prog w) s.heap.objs.size (fun k => (xs.take items.size).any (· == k)) (dn xs items.size) →
      (∀ b o, s.heap.get? b = some o → h'.get? b = some o) → Q (.ref s.heap.objs.size) { s with heap := h', toks := tk }) :
    wpAny (model prog w) A (call (.type "set") [.ref l]) Q E s := by
  obtain ⟨c, tl, hmro⟩ := PySem.F.called_set.mro
  have hmade := PySem.F.called_set.made
  have hsub := PySem.F.called_set.sub
  refine wpAny_call (codeAny_of_tree ?_); show wpAny _ _ (callAny (.type "set") _) _ _ _
  refine wpAny_pure ⟨Code.quiet_builtin _ (by decide +kernel), codeAny_builtin PySem.F.entry_type_call ?_⟩
  rw [Around.under_plain (weight_type_call_type "set" [.ref l] []) rfl]
  have h1 := PySem.F.called_set.notType
  have h2 := PySem.F.called_set.canCreate
  have hct := PySem.F.typeCall_set_1 (.ref l)
  repeat (any_goals (first | assumption | wp_step))
  refine codeAny_mono (code_set_new_1 (.ref l) (E := E) (Q₁ := fun v s1 => ∃ led : Bool, v = .ref s.heap.objs.size ∧ s1 = { s with heap := s.heap.push (bare led) }) fun led => ⟨led, rfl, rfl⟩) fun r s1 got => ?_
  rcases r with e | fl
  · exact got
  cases fl <;> first | exact got.elim | skip
  obtain ⟨led, rfl, rfl⟩ := got
  have hS : (s.heap.push (bare led)).get? s.heap.objs.size = some (bare led) := Heap.get?_push_size _ rfl
  have hT : Shared.TypeIs { s with heap := s.heap.push (bare led) } (.ref s.heap.objs.size) "set" := ⟨_, hS, rfl⟩
  have hli := PySem.F.called_set.init.lookup
  have hbi := PySem.F.called_set.init.bind (.ref s.heap.objs.size)
  repeat (any_goals (first | assumption | wp_step))
  refine codeAny_mono (codeAny_call_builtin (R := wants (fun r s2 => r = .none ∧ ∃ h' tk, s2 = { s with heap := h', toks := tk } ∧ h'.SetOf (PySem.strKind prog w) s.heap.objs.size (fun k => (xs.take items.size).any (· == k)) (dn xs items.size) ∧
      (∀ b o, s.heap.get? b = some o → h'.get? b = some o)) E) PySem.F.called_set.init.plain PySem.F.entry_set_init (check_set_init_1 hT ?_)) fun r2 s2 got2 => ?_
  · obtain ⟨ol, hol, hcl, nl, hdl⟩ := hl
    obtain ⟨ocls, odict, odata, oslots⟩ := ol
    simp only at hcl hdl
    subst hcl; subst hdl
    have hol' : (s.heap.push (bare led)).get? l = some { cls := .type "list", dict := odict, data := .seq items nl, slots := oslots } := Heap.get?_push_of_some _ hol
    have hsls := PySem.F.sub_list_set
    have hslf := PySem.F.sub_list_frozenset
    have hne : (Value.type "list" == Value.type "dict") = false := by decide
    have hl1 : (s.heap.push (bare led)).IsList l items := ⟨_, hol', rfl, nl, rfl⟩
    unfold Builtin.«set.__init__» noKeywords Builtin.Frozenset.updateFrom
    generalize hPI : pyIter = PI
    wp_walk
    subst hPI
    refine wpAny_pyIter_list hl1 (wpAny_bind (wpAny_runValue ?_))
    have lt : s.heap.objs.size < (s.heap.push (bare led)).objs.size := by rw [Heap.size_push]; exact Nat.lt_succ_self _
    have hlS : l < s.heap.objs.size := Heap.lt_size hol
    have hneI : l ≠ (s.heap.push (bare led)).objs.size := Nat.ne_of_lt (Nat.lt_trans hlS lt)
    have apart : s.heap.objs.size ∉ [(s.heap.push (bare led)).objs.size, l] := by
      simp only [List.mem_cons, List.not_mem_nil, or_false, not_or]
      exact ⟨Nat.ne_of_lt lt, Nat.ne_of_gt hlS⟩
    have hh3 : A.in1.in1.in1.handled = none := by simp [calm]
    refine fill2 ((Walks.list hh3 _ l hneI items).toS) apart xs hsz few (fun i v q => hi i v q) items.size 0 _ (Nat.zero_add _) ⟨⟨_, Heap.get?_push_size _ rfl, rfl, rfl⟩, (hl1.push _)⟩ ?_ ?_
    · exact SetOf_congr ((setObjOf_fresh (knd := PySem.strKind prog w) led).setOf (Heap.get?_push_of_some _ hS) (by unfold scanBound; omega)) (fun _ => rfl) rfl
    · rintro ⟨h', g', d', tk', os'⟩ mv hS'
      obtain rfl : g' = s.gens := mv.gens
      obtain rfl : d' = s.drawn := mv.drawn
      obtain rfl : os' = s.os := mv.os
      refine wpAny_pure (wpAny_pure ⟨rfl, h', tk', rfl, hS', fun b o q => ?_⟩)
      have nb : b < s.heap.objs.size := Heap.lt_size q
      refine mv.heap b o ?_ (Heap.get?_push_of_some _ (Heap.get?_push_of_some _ q))
      intro m
      rcases List.mem_cons.mp m with e | m
      · exact absurd e (Nat.ne_of_lt nb)
      · exact absurd (List.mem_singleton.mp m) (Nat.ne_of_lt (Nat.lt_trans nb lt))
  · rcases r2 with e | fl2
    · exact got2
    cases fl2 <;> first | exact got2.elim | skip
    obtain ⟨rfl, h', tk, rfl, hS', keep⟩ := got2
    repeat (any_goals (first | assumption | wp_step))
    exact out _ _ hS' keep
end
section
variable {X : Cx}
/-- len(set(xs)), xs a list of few texts -/
def tLenSetL (K : PySem.W.Frag) (ta : TE) : TE := fun σ H Q => ta σ H fun v H1 => ∃ (l : Addr) (xs : List Str), v = .ref l ∧ SqL K H1 l (xs.map V.str) ∧ xs.length ≤ 100 ∧ Q (.int (dn xs xs.length : Nat)) H1
theorem vals_strs_at : ∀ {xs : List Str} {us : List Value}, Vals (xs.map V.str) us → ∀ (i : Nat) (v : Value), us[i]? = some v → ∃ z t, xs[i]? = some z ∧ v = .str z t
  | [], _, .nil, i, v, e => by simp at e
  | x :: xs, _, .cons r t, 0, v, e => by
    obtain ⟨k, rfl⟩ := r
    simp at e
    exact ⟨x, k, rfl, e.symm⟩
  | x :: xs, _, .cons r t, i + 1, v, e => by
    simp at e
    obtain ⟨z, k, h1, h2⟩ := vals_strs_at t i v e
    exact ⟨z, k, by simpa using h1, h2⟩
theorem pe_lenSetL {a : Expr} {ta : TE} {p p2 q pos : Pos} (hc : X.calm = true) (g1 : Gl X "len") (m1 : X.mg "len" = none) (g2 : Gl X "set") (m2 : X.mg "set" = none) (ha : PE X a ta)
    (na : starEach [a] X.env = (false, eval a X.env) :: starEach [] X.env := by rfl) : PE X (.Call (.Name "len" p) [.Call (.Name "set" p2) [a] [] q] [] pos) (tLenSetL X.K ta) := by
  refine ⟨fun pins s σ H Q I h => Call_ (ld_blt I g1 m1 PySem.boot_len (callWith_builtin1 (args_cons (Call_ (ld_blt I g2 m2 boot_set (callWith_type1 (args_cons (thn (ha.run pins s σ H _ I h) ?_) na) na rfl))) rfl) rfl rfl))⟩
  rintro v s1 ⟨y, H1, I1, r1, l, xs, rfl, hl, few, q1⟩
  cases r1
  obtain ⟨its, r, p1, _⟩ := I1.list hl
  have hsz : xs.length = its.toArray.size := by rw [List.size_toArray, ← r.length, List.length_map]
  refine args_nil (set_listD (xs := xs) (I1.ok.hd hc) p1.isList (fun i v e => vals_strs_at r i v (by simpa using e)) hsz (by unfold scanBound; omega) fun h' tk hS keep => args_nil ?_)
  rw [← hsz] at hS
  obtain ⟨o, es, ep, tb, ho, hex, hd, _, _, _, hf, hn⟩ := hS
  have I2 : Inv X pins σ H1 { s1 with heap := h', toks := tk } := I1.kept fun b o e => keep b o e
  have le := dn_le xs xs.length
  exact call_len_set ho hex hd hf (by rw [hn]; omega) ⟨.int (dn xs xs.length : Nat), H1, I2.tok _, ⟨_, by rw [hn]⟩, q1⟩
end
end Rg
set_option Elab.async false
set_option maxRecDepth 100000
set_option autoImplicit false
/-! new_letters -/
namespace Kx
open PySem L2 PySem.Spec PyProof.Rows Rg Er Ru LamX
abbrev sNewL : Stmt := top 13
def getV (kvs : List (Key × V)) (c : Nat) : V := (valV kvs (.inr ⟨#[c]⟩)).getD .non
/-- what new_letters makes of any value: refused, or new letters -/
def NewLC (K : PySem.W.Frag) (H : Hp) (cs : List Nat) (x : V) (bad : Hp → Prop) (good : List Nat → Hp → Prop) : Prop :=
  (NoOf K "dict" H x ∧ bad H) ∨
   ∃ (d : Addr) (kvs : List (Key × V)), x = .ref d ∧ H d = some (.dK kvs) ∧ kvs.length ≤ 1000 ∧
     ((kvs.length ≠ cs.length ∧ bad H) ∨
      (kvs.length = cs.length ∧ ∃ bs : List Bool, bs.length = cs.length ∧ (∀ (i c : Nat), cs[i]? = some c → ∀ H', Same H H' → LtX K H' (getV kvs c) (bs.getD i false)) ∧
        ((bs.all id = false ∧ ∀ H', Same H H' → bad H') ∨
         (∃ ds : List Nat, bs.all id = true ∧ cs.map (getV kvs) = ds.map sg ∧ (¬ ds.Nodup → ∀ H', Same H H' → bad H') ∧ (ds.Nodup → ∀ H', Same H H' → good ds H')))))
theorem NewLC.map {K : PySem.W.Frag} {H : Hp} {cs : List Nat} {x : V} {bad bad' : Hp → Prop} {good good' : List Nat → Hp → Prop} (h : NewLC K H cs x bad good) (hb : ∀ H', Same H H' → bad H' → bad' H') (hg : ∀ ds H', Same H H' → ds.length = cs.length → (∀ d ∈ ds, d ∈ abc.cps.toList) → ds.Nodup → good ds H' → good' ds H') : NewLC K H cs x bad' good' := by
  rcases h with ⟨h1, h2⟩ | ⟨d, kvs, h1, h2, h3, how⟩
  · exact .inl ⟨h1, hb _ (Same.refl H) h2⟩
  · refine .inr ⟨d, kvs, h1, h2, h3, ?_⟩
    rcases how with ⟨h4, h5⟩ | ⟨h4, bs, h5, h6, how⟩
    · exact .inl ⟨h4, hb _ (Same.refl H) h5⟩
    · refine .inr ⟨h4, bs, h5, h6, ?_⟩
      rcases how with ⟨h7, h8⟩ | ⟨ds, h7, h8, h9, h10⟩
      · exact .inl ⟨h7, fun H' s => hb H' s (h8 H' s)⟩
      · have dl : ds.length = cs.length := by
          have := congrArg List.length h8
          simpa using this.symm
        refine .inr ⟨ds, h7, h8, fun n H' s => hb H' s (h9 n H' s), fun n H' s => hg ds H' s dl ?_ n (h10 n H' s)⟩
        intro d' hd'
        obtain ⟨i, hi, rfl⟩ := List.getElem_of_mem hd'
        have ec : cs[i]? = some cs[i] := List.getElem?_eq_getElem (by omega)
        have ev : getV kvs (cs[i]'(by omega)) = sg ds[i] := by
          have := congrArg (fun l => l[i]?) h8
          simp [List.getElem?_map, List.getElem?_eq_getElem hi] at this
          rw [List.getElem?_eq_getElem (show i < cs.length by omega)] at this
          simpa using this
        have lt := h6 i _ ec H (Same.refl H)
        rw [ev] at lt
        have bt : bs.getD i false = true := by
          have hb' : i < bs.length := by omega
          rw [List.getD_eq_getElem?_getD, List.getElem?_eq_getElem hb']
          have := (List.all_eq_true.mp h7) bs[i] (List.getElem_mem _)
          simpa using this
        rcases lt with ⟨z, ez, _, el⟩ | ⟨el, _⟩
        · rw [bt] at el
          obtain ⟨c, rfl, hc⟩ := lt1_sign el.symm
          have : ds[i] = c := by
            have := V.str.inj ez
            simpa using this
          rw [this]; exact hc
        · rw [bt] at el; cases el
def spNewL (K : PySem.W.Frag) (CB : Addr) : Sp := fun vs H Q E => ∃ (cs : List Nat) (x : V), vs = [.str ⟨cs.toArray⟩, x] ∧ cs.length ≤ 4 ∧ NewLC K H cs x (fun H' => raised CB "part" (.str "names") E H') (fun ds H' => Q (.str ⟨ds.toArray⟩) H')
theorem dInt (x y : Int) : decide (V.int x = V.int y) = decide (x = y) := by
  by_cases q : x = y
  · rw [q, decide_eq_true rfl, decide_eq_true rfl]
  · rw [decide_eq_false q]
    exact decide_eq_false fun z => q (V.int.inj z)
section
variable {P : Program} {w : World} {K : PySem.W.Frag} {mg : Str → Option Value} {base : Heap}
theorem bLenD {X : Cx} {e : Expr} {te : TE} {p pos : Pos} (hg : Gl X "len") (m : X.mg "len" = none) (he : PE X e te) (na : starEach [e] X.env = (false, eval e X.env) :: starEach [] X.env := by rfl) :
    PE X (.Call (.Name "len" p) [e] [] pos) (tCB (fun xs H Q => ∃ d kvs, xs = [.ref d] ∧ H d = some (.dK kvs) ∧ Q (.int (kvs.length : Nat)) H) (tCons te tNil)) := pe_callB call_lenD hg m PySem.boot_len (pa_cons he pa_nil na) (he := na)
abbrev nNewL : List Str := ["signs", "names", "letters", "sign", "letter"]
theorem scNewL : FnScope nNewL ["signs", "names"] (defScope sNewL) := ⟨rfl, rfl, rfl, by decide +kernel, rfl, by decide +kernel, by decide +kernel⟩
theorem ok_newL {CB f f1 : Addr} {fd fd1 : FuncData} (F : L2.Fun K "new_letters" "new_letters" sNewL f fd) (T : Txt mg) (mD : mg "dict" = none) (R : ErrB P w K mg base "BadSigns" "part" CB)
    (G1 : FnOk P w K mg base CX0 1 f1 fd1 ["value"] (spIsLetterA K)) (m1 : mg "is_letter" = some (.ref f1)) (k1 : PySem.W.keepIn K (.ref f1) = true) (b1 : L2.Binds K fd1 ["value"] []) :
    FnOk P w K mg base (L2.CX P w) 3 f fd ["signs", "names"] (spNewL K CB) := by
  obtain ⟨fi, fdi, psi, r1, r2, r3, r4⟩ := R.init
  refine F.okX scNewL (fun vs H Q E h => ?_) (fun cdv A outer s H vs Q E hr h => ?_)
  · obtain ⟨cs, x, rfl, _⟩ := h
    rfl
  · obtain ⟨cs, x, rfl, c4, how⟩ := h
    have nd := scNewL.nd
    have hr1 := hr.mono (show 1 ≤ 2 by decide)
    have tk := takes_of (X := cxOf (L2.CX P w) P w K mg base nNewL "new_letters" (defScope sNewL) f cdv A outer s H E) rfl rfl rfl rfl
    refine ⟨_, pss_cons (ps_if (PW.pt (pw_or (pt_not (pt_val (bIsi (by rfl) T.isi (pv 1) (pe_bltn (v := .ty "dict") (by rfl) mD (by decide +kernel) rfl)))) (pw_or1 (pt_cmpR op_ne (bLenD (by rfl) T.len (pv 1)) (bLen (by rfl) T.len (pv 0)) (nomark _))))) (pss_one (ps_raise1 rfl tk R.O r1 r2 r3 hr r4 (by rfl) R.mgC pe_str)) pss_nil)
      (pss_cons (ps_setLc (i := 2) (own := [("sign", 3)]) (g := gName 3) (tt := tYes) (te := tDGet1 (tVar 1) (tVar 3)) rfl nd rfl rfl (sw_true rfl rfl rfl (by decide +kernel)) (pi_str (pv 0)) (blkOk_by (own := [("sign", 3)]) (N := nNewL) (sc := defScope sNewL) (by decide +kernel))
        (fun _ _ _ _ _ => pg_name (i := 3) nd rfl (Or.inl rfl)) (fun _ _ _ _ _ => pts_nil) (fun _ _ _ _ _ => pe_dget1 (hu_of hr) (pv 1) (pv 3) ⟨rfl, rfl, rfl, rfl⟩))
      (pss_cons (ps_if (PW.pt (pw_or (pt_not (pt_val (pe_callB (cr_all rfl) (by rfl) T.all boot_all (pa_cons (pe_lc (own := [("letter", 4)]) (g := gName 4) (tt := tYes) rfl nd (pi_list (pv 2)) (blkOk_by (own := [("letter", 4)]) (N := nNewL) (sc := defScope sNewL) (by decide +kernel))
          (fun _ _ _ _ _ => pg_name (i := 4) nd rfl (Or.inl rfl)) (fun _ _ _ _ _ => pts_nil) (fun _ _ _ _ _ => pe_call G1 hr1 (by rfl) m1 k1 b1 .nil pass0 (pa_cons (pv 4) pa_nil))) pa_nil))))
          (pw_or1 (pt_cmpR op_lt (pe_lenSetL rfl (by rfl) T.len (by rfl) T.set (pv 2)) (bLen (by rfl) T.len (pv 2)) (nomark _))))) (pss_one (ps_raise1 rfl tk R.O r1 r2 r3 hr r4 (by rfl) R.mgC pe_str)) pss_nil)
      (pss_one (ps_ret (pe_join pe_str (pv 2)))))), ?_⟩
    have zl : (⟨cs.toArray⟩ : Str).length = cs.length := by simp [Str.length]
    rcases how with ⟨⟨t, ty, no⟩, bad⟩ | ⟨d, kvs, rfl, hd, few, how⟩
    · refine ⟨_, rfl, x, .ty "dict", _, _, false, rfl, .ty "dict", ty, no, false, rfl, iteT ?_⟩
      exact iteT bad
    · refine ⟨_, rfl, .ref d, .ty "dict", _, _, true, rfl, .ty "dict", .base (.dK hd), kit_ty (by decide +kernel), true, rfl, iteF ?_⟩
      refine ⟨_, rfl, d, kvs, rfl, hd, _, rfl, _, cs.length, rfl, ⟨len_small (by omega), zl.symm⟩, rfl, _, rfl, ?_⟩
      rcases how with ⟨ne, bad⟩ | ⟨same, bs, bl, lt, how⟩
      · rw [show (!decide (V.int (kvs.length : Nat) = V.int (cs.length : Nat))) = true from by rw [dInt, decide_eq_false (by omega)]; rfl]
        exact iteT bad
      · rw [show (!decide (V.int (kvs.length : Nat) = V.int (cs.length : Nat))) = false from by rw [dInt, decide_eq_true (by omega)]; rfl]
        refine iteF ⟨_, rfl, _, rfl, fun D hD => ?_⟩
        refine lcMap walk_str (fun i => getV kvs (cs.getD i 0)) (by show cs.toArray.size < sizeLine; rw [sizeLine_eq]; simp; omega) hD (fun _ _ => trivial) (fun _ _ _ _ q => q.1) ?_ ?_
        · rintro i x H' Q' hi s1 ⟨_, c, hc, rfl⟩ qq
          have ec : cs[i]? = some c := by simpa using hc
          have eg : cs.getD i 0 = c := by rw [List.getD_eq_getElem?_getD, ec]; rfl
          rw [eg] at qq
          refine ⟨_, rfl, d, rfl, .inl ⟨kvs, .inl (s1 _ _ hd)⟩, _, rfl, _, DGet.k (k := Sum.inr ⟨#[c]⟩) (s1 _ _ hd), ?_⟩
          exact qq _ (Same.refl _)
        intro H1 s1 hl
        have el : (List.range cs.toArray.size).map (fun i => getV kvs (cs.getD i 0)) = cs.map (getV kvs) := by
          rw [List.size_toArray]
          refine List.ext_getElem (by simp) fun i h1 h2 => ?_
          have hi : i < cs.length := by simpa using h2
          simp [List.getD_eq_getElem?_getD, List.getElem?_eq_getElem hi]
        rw [el] at hl
        refine ⟨_, rfl, D, rfl, ⟨_, SqL.of hl⟩, fun D2 hD2 => ?_⟩
        refine lcMap walk_list (fun i => V.bl (bs.getD i false)) (by rw [sizeLine_eq]; simp; omega) hD2 (fun H' q => SqL.of (q _ _ hl)) (fun _ _ _ _ q => q.1) ?_ ?_
        · rintro i x H' Q' hi s2 ⟨_, hx⟩ qq
          have hi' : i < cs.length := by simpa using hi
          have ec : cs[i]? = some cs[i] := List.getElem?_eq_getElem hi'
          have ex : x = getV kvs cs[i] := by
            rw [List.getElem?_map, ec] at hx
            exact (Option.some.inj hx).symm
          subst ex
          exact ⟨_, rfl, _, bs.getD i false, rfl, lt i _ ec _ (Same.trans s1 s2), qq _ (Same.refl _)⟩
        intro H2 s2 hl2
        have el2 : (List.range (cs.map (getV kvs)).length).map (fun i => V.bl (bs.getD i false)) = bs.map V.bl := by
          rw [List.length_map, ← bl]
          refine List.ext_getElem (by simp) fun i h1 h2 => ?_
          have hi : i < bs.length := by simpa using h2
          simp [List.getD_eq_getElem?_getD, List.getElem?_eq_getElem hi]
        rw [el2] at hl2
        have s12 := Same.trans s1 s2
        refine ⟨_, bs, rfl, SqL.of hl2, _, rfl, ?_⟩
        rcases how with ⟨e, bad⟩ | ⟨ds, e, em, bad, good⟩
        · rw [e]
          exact iteT (iteT (bad _ s12))
        · rw [e]
          have es : cs.map (getV kvs) = (ds.map fun d => (⟨#[d]⟩ : Str)).map V.str := by
            rw [em, List.map_map]; rfl
          have dl : ds.length = cs.length := by
            have := congrArg List.length em
            simpa using this.symm
          rw [es] at hl
          have hl' := s2 _ _ hl
          have len : ((ds.map fun d => (⟨#[d]⟩ : Str)).map V.str).length = ds.length := by simp
          refine iteF ⟨_, rfl, D, _, rfl, SqL.of hl', by simp; omega, _, rfl, _, ds.length, rfl, .inl ⟨_, SqL.of hl', len.symm⟩, _, _, rfl, rfl, _, rfl, ?_⟩
          by_cases nd2 : ds.Nodup
          · have nd3 : (ds.map fun d => (⟨#[d]⟩ : Str)).Nodup := by
              rw [List.nodup_iff_pairwise_ne] at nd2 ⊢
              refine List.Pairwise.map _ (fun a b ne z => ne ?_) nd2
              simpa using z
            rw [dn_nodup nd3 _ (Nat.le_refl _), decide_eq_false (by simp)]
            refine iteF ⟨⟨_, rfl⟩, _, rfl, _, D, _, rfl, rfl, .inl (SqL.of hl'), ?_, ?_⟩
            · have h1 : ∀ l : List Nat, ((l.map fun d => (⟨#[d]⟩ : Str)).map (·.length)).sum = l.length := fun l => by
                induction l with
                | nil => rfl
                | cons a r ih => rw [List.map_cons, List.map_cons, List.sum_cons, ih, List.length_cons, Nat.add_comm] <;> rfl
              rw [h1, List.length_map]
              show ds.length + ds.length * 0 ≤ _
              omega
            · rw [join_one]
              exact good nd2 _ s12
          · have nd3 : ¬ (ds.map fun d => (⟨#[d]⟩ : Str)).Nodup := fun z => nd2 (by
              rw [List.nodup_iff_pairwise_ne] at z ⊢
              rw [List.pairwise_map] at z
              exact z.imp fun ne e => ne (by rw [e]))
            have lt := dn_dup nd3
            rw [decide_eq_true (by simp at lt ⊢; omega)]
            exact iteT (bad nd2 _ s12)
end
end Kx
set_option Elab.async false
set_option maxRecDepth 100000
set_option autoImplicit false
/-! Weights.renamed -/
namespace Kx
open PySem L2 PySem.Spec PyProof.Rows Rg Er Ru LamX Tn
abbrev sRenamed : Stmt := inClass (top 15) 11
theorem badFrom_none : ∀ (es : List (Nat × Int)) (i : Nat) (seen : List Nat), (es.map (·.1)).Nodup → (∀ c ∈ es.map (·.1), c ∉ seen) → badFrom i seen (es.map some) = none
  | [], _, _, _, _ => rfl
  | (c, n) :: r, i, seen, nd, no => by
    rw [List.map_cons] at nd no
    rw [List.nodup_cons] at nd
    show (if c ∈ seen then some i else badFrom (i + 1) (seen ++ [c]) (r.map some)) = none
    rw [if_neg (no c List.mem_cons_self)]
    refine badFrom_none r (i + 1) (seen ++ [c]) nd.2 fun d hd hs => ?_
    rcases List.mem_append.mp hs with h | h
    · exact no d (List.mem_cons_of_mem _ hd) h
    · rw [List.mem_singleton.mp h] at hd
      exact nd.1 hd
def spRenamed (K : PySem.W.Frag) (C CB : Addr) : Sp := fun vs H Q E => ∃ (a : Addr) (es : List (Nat × Int)) (xs : List V) (x : V), vs = [.ref a, x] ∧ Wts C H a es xs ∧ 1 ≤ es.length ∧ es.length ≤ 4 ∧
  NewLC K H (es.map (·.1)) x (fun H' => raised CB "part" (.str "names") E H') (fun ds H0 => ∀ a' xs' H', Same H0 H' → Wts C H' a' (ds.zip (es.map (·.2))) xs' → Q (.ref a') H')
section
variable {P : Program} {w : World} {K : PySem.W.Frag} {mg : Str → Option Value} {base : Heap}
abbrev nRenamed : List Str := ["self", "names", "letters", "pairs", "at", "pair"]
theorem scRenamed : FnScope nRenamed ["self", "names"] (defScope sRenamed) := ⟨rfl, rfl, rfl, by decide +kernel, rfl, by decide +kernel, by decide +kernel⟩
theorem ok_renamed {C CB f f1 g ps_ gs : Addr} {fd fd1 fds : FuncData} (F : L2.Fun K "renamed" "Weights.renamed" sRenamed f fd) (M : WT K C) (mE : mg "enumerate" = none) (gC : mg "Weights" = some (.ref C))
    (G1 : FnOk P w K mg base (L2.CX P w) 3 f1 fd1 ["signs", "names"] (spNewL K CB)) (m1 : mg "new_letters" = some (.ref f1)) (k1 : PySem.W.keepIn K (.ref f1) = true) (b1 : L2.Binds K fd1 ["signs", "names"] [])
    (po : PropOf K C "signs" ps_ gs) (GS : FnOk P w K mg base CX0 1 gs fds ["self"] (getSp C "_signs")) (bS : L2.Binds K fds ["self"] [])
    (Mk_ : Mk K C g) (G : FnR P w K mg base (L2.CX P w) 4 g (spStar 1 (spWInitA K C CB))) :
    FnOk P w K mg base (L2.CX P w) 6 f fd ["self", "names"] (spRenamed K C CB) := by
  refine F.okX scRenamed (fun vs H Q E h => ?_) (fun cdv A outer s H vs Q E hr h => ?_)
  · obtain ⟨a, es, xs, x, rfl, _⟩ := h
    rfl
  · obtain ⟨a, es, xs, x, rfl, ⟨dx, p, ha, hp, ps⟩, l1, l4, how⟩ := h
    have nd := scRenamed.nd
    have tk := takes_of (X := cxOf (L2.CX P w) P w K mg base nRenamed "Weights.renamed" (defScope sRenamed) f cdv A outer s H E) rfl rfl rfl rfl
    refine ⟨_, pss_cons (ps_set (i := 2) nd rfl (.inr rfl) (pe_call G1 (hr.mono (by decide)) (by rfl) m1 k1 b1 .nil (passes_call tk fun _ _ _ _ h => h) (pa_cons (pe_prop (pv 0) M.cl po GS (hr.mono (by decide)) bS .nil pass0 rfl) (pa_cons (pv 1) pa_nil))))
      (pss_cons (ps_setLc (i := 3) (own := [("at", 4), ("pair", 5)]) (g := gTup K 2 (gCons (gName 4) (gCons (gName 5) gNil))) (tt := tYes) (te := tTup (tCons (tOp rIxS (tVar 2) (tVar 4)) (tCons (tOp (rIxT K) (tVar 5) (tC (.int 1))) tNil))) rfl nd rfl rfl (sw_true rfl rfl rfl (by decide +kernel)) (pi_enumT (by rfl) mE (pa_cons (pe_fld (pv 0) rfl) pa_nil)) (blkOk_by (own := [("at", 4), ("pair", 5)]) (N := nRenamed) (sc := defScope sRenamed) (by decide +kernel))
        (fun _ _ _ _ _ => pg_tup rfl (pgs_cons (pg_name (i := 4) nd rfl (Or.inl rfl)) (pgs_cons (pg_name (i := 5) nd rfl (Or.inl rfl)) pgs_nil))) (fun _ _ _ _ _ => pts_nil) (fun _ _ _ _ _ => pe_tup (pa_cons (bIxS (pv 2) (pv 4)) (pa_cons (bIxT (pv 5) pe_int) pa_nil))))
      (pss_one (ps_ret (pe_makeV1 Mk_ G hr (passes_call tk fun _ _ _ _ h => h) (pe_glob (v := .ref C) (by rfl) gC rfl) (pv 3))))), ?_⟩
    refine ⟨_, rfl, a, dx, _, rfl, ha, a, dx, _, _, rfl, ha, wf_signs _ _, _, rfl, es.map (·.1), x, rfl, by simpa using l4, how.map (fun H' s b => b) fun ds H1 s1 dl dabc dnd q => ?_⟩
    have dl' : ds.length = es.length := by simpa using dl
    have zlen : (ds.zip (es.map (·.2))).length = es.length := by simp; omega
    refine ⟨_, rfl, a, C, dx, _, _, rfl, s1 _ _ ha, M.cl, M.n2, wf_pairs _ _, p, xs, rfl, SqT.of (s1 _ _ hp), fun D hD => ?_⟩
    refine lc_it walk_enumT (fun i H' => Same H1 H' ∧ ∃ acc, H' D = some (.lst acc) ∧ PairsD H' acc ((ds.zip (es.map (·.2))).take i)) ⟨Same.new hD, [], upd_same, rfl, fun i e he => by simp at he⟩ (fun i H' _ q => SqT.of (q.1 _ _ (s1 _ _ hp))) ?_ ?_
    · rintro i v H2 H3 hi ⟨s2, acc, hl, pd⟩ ⟨T, x1, y1, rfl, hT, rfl, e1, e2⟩
      cases e1
      have hi' : i < es.length := by rw [← ps.1]; exact hi
      obtain ⟨t, et, pt⟩ := ps.2 i _ (List.getElem?_eq_getElem hi')
      have e2 : xs[i]? = some y1 := e2
      rw [e2] at et
      cases et
      have s3 : Same H2 (upd H2 T (.tup [.int (i : Nat), .ref t])) := Same.new hT
      have pt' : PairAt (upd H2 T (.tup [.int (i : Nat), .ref t])) t es[i].1 es[i].2 := ((pt.same s1).same s2).same s3
      refine ⟨T, _, rfl, SqT.of upd_same, rfl, _, _, rfl, _, _, rfl, rfl, rfl, ?_⟩
      dsimp only [tYes]
      rw [if_pos rfl]
      have edi : ds[i]? = some (ds[i]'(by omega)) := List.getElem?_eq_getElem (by omega)
      refine ⟨_, rfl, _, rfl, ⟨ds.toArray⟩, (i : Nat), ds[i]'(by omega), rfl, rfl, by rw [sizeLine_eq]; simp [Str.length]; omega, atI_nat (by simpa using edi), _, rfl, t, _, 1, _, rfl, rfl, SqT.of pt'.1, rfl, by show 2 ≤ sizeLine; decide, fun u hu => ?_⟩
      have s4 : Same (upd H2 T (.tup [.int (i : Nat), .ref t])) _ := Same.new (o := .tup [.str ⟨#[ds[i]'(by omega)]⟩, .int es[i].2]) hu
      have hl4 := s4 _ _ (s3 _ _ hl)
      have uD : D ≠ u := ne_of_none (s3 _ _ hl) hu
      have al := pd.1
      have tl : ((ds.zip (es.map (·.2))).take i).length = i := by rw [List.length_take]; omega
      have ez : (ds.zip (es.map (·.2)))[i]? = some (ds[i]'(by omega), es[i].2) := by
        rw [List.getElem?_zip_eq_some]
        exact ⟨edi, by rw [List.getElem?_map, List.getElem?_eq_getElem hi']; rfl⟩
      have keep : ∀ t' c' n', PairAt H2 t' c' n' → PairAt (upd (upd (upd H2 T (.tup [.int (i : Nat), .ref t])) u (.tup [.str ⟨#[ds[i]'(by omega)]⟩, .int es[i].2])) D (.lst (acc ++ [.ref u]))) t' c' n' := fun t' c' n' h => by
        have h4 := (h.same s3).same s4
        exact ⟨by rw [upd_ne (fun z => by
          have q := h4.1
          rw [z, hl4] at q; cases q)]; exact h4.1, h4.2⟩
      refine ⟨acc, hl4, by rw [sizeLine_eq]; omega, Same.putNew hD (Same.trans s2 (Same.trans s3 s4)), _, upd_same, ?_⟩
      rw [List.take_add_one, ez]
      exact pd.snoc keep ⟨by rw [upd_ne uD.symm]; exact upd_same, dabc _ (List.getElem_mem _), pt.2.2⟩
    · rintro H2 ⟨s2, acc, hl, pd⟩
      have tk_ : (ds.zip (es.map (·.2))).take xs.length = ds.zip (es.map (·.2)) := List.take_of_length_le (by rw [zlen, ps.1]; exact Nat.le_refl _)
      rw [tk_] at pd
      have al := pd.1
      refine ⟨rfl, _, rfl, D, acc, rfl, .inr (SqL.of hl), fun y dy hy hdy ne => ⟨[.ref y], acc, rfl, rfl, by rw [sizeLine_eq]; omega, fun p2 hp2 => ?_⟩⟩
      have s3 : Same H2 (upd (upd H2 dy (.own y)) y (.ins C dy [])) := made_same hy hdy
      have s4 : Same H2 (upd (upd (upd H2 dy (.own y)) y (.ins C dy [])) p2 (.tup acc)) := Same.putNew' hp2 s3
      have mapfst : (ds.zip (es.map (·.2))).map (·.1) = ds := by
        rw [List.map_fst_zip (by simp; omega)]
      refine ⟨y, dy, p2, acc, (ds.zip (es.map (·.2))).map some, rfl, ?_, upd_same, ⟨by rw [al]; simp, fun i o ho => ?_⟩, fun h => absurd ⟨by omega, by omega⟩ h, fun _ => ?_⟩
      · rw [upd_ne (ne_of_none upd_same hp2)]
        exact upd_same
      · rw [List.getElem?_map] at ho
        obtain ⟨e, he, rfl⟩ := Option.map_eq_some_iff.mp ho
        obtain ⟨t, h1, h2⟩ := pd.2 i e he
        exact ⟨_, h1, .inl ⟨t, e.1, e.2, rfl, h2.same s4, rfl⟩⟩
      · rw [badFrom_none _ 0 [] (by rw [mapfst]; exact dnd) (fun _ _ h => by cases h)]
        exact fun es' H' ec e1 wt => ⟨rfl, by
          have : es' = ds.zip (es.map (·.2)) := by
            have := congrArg (List.map fun o => o.getD (0, 0)) ec
            simpa [Function.comp_def] using this.symm
          subst this
          exact q y acc H' (Same.trans s2 (same_ext1 hy s4 e1)) wt⟩
end
end Kx
set_option Elab.async false
set_option maxRecDepth 100000
set_option autoImplicit false
/-! a def whose code object is known; what stays while lambdas are made -/
namespace Kx
open PySem L2 PySem.Spec PyProof.Rows Rg Er Ru LamX
/-- all but the pen and the tables of code stays -/
def Ext2 (p : Addr) (H H' : Hp) : Prop := ∀ b o, b ≠ p → (∀ ps, o ≠ .tbl ps) → H b = some o → H' b = some o
theorem Ext2.refl (p : Addr) (H : Hp) : Ext2 p H H := fun _ _ _ _ q => q
theorem Ext2.of {p : Addr} {H H' : Hp} (e : Ext1 p H H') : Ext2 p H H' := fun b o n _ q => e b o n q
theorem Ext2.trans {p : Addr} {H H1 H2 : Hp} (a : Ext2 p H H1) (b : Ext2 p H1 H2) : Ext2 p H H2 := fun c o n t e => b c o n t (a c o n t e)
theorem Ext2.ofN {p : Addr} {H H' : Hp} (e : ExtN H H') : Ext2 p H H' := fun b o _ t q => e b o q t
/-- as Rg.funG, where the def's code object is known -/
theorem fnG_of {P : Program} {w : World} {K : PySem.W.Frag} {mg : Str → Option Value} {base : Heap} {x qual : Str} {st : Stmt} {f cd : Addr} {oc kV doc pm ct : Value} {od an : Option Addr} {osl : Array (Option Value)} {N ps : List Str} {k : Nat} {sp : Sp}
    (lk : K.lookup f = some ⟨oc, od, .func (PySem.W.fnOf x qual (defArgs st) (defBody st) (defScope st) .none kV doc pm an (.ref cd) ct), osl⟩) (hcd : PySem.W.codeIn K (.ref cd) qual = true) (S : FnScope N ps (defScope st)) (len : ∀ vs H Q E, sp vs H Q E → vs.length = ps.length)
    (body : ∀ (A : Around) (outer : List Env) (s : Shared) (H : Hp) (vs : List V) (Q : VK) (E : XK), A.guards = some [] → Room k (A.deeper (envOfC qual (defScope st) s.heap.objs.size f (.ref cd))) → sp vs H Q E →
      ∃ t, PSs (cxOf CX0 P w K mg base N qual (defScope st) f (.ref cd) A outer s H E).nox (defBody st) t ∧ t { nx := fun _ H' => Q .non H', rt := Q } (L2.start N vs) H) :
    FnG P w K mg base CX0 (k + 1) f (PySem.W.fnOf x qual (defArgs st) (defBody st) (defScope st) .none kV doc pm an (.ref cd) ct) ps sp := by
  refine ⟨len, fun A outer s H args us vs Q E hg hr e0 hb r want => ?_⟩
  have there : ∀ b o, base.get? b = some o → s.heap.get? b = some o := fun b o e => (e0.bs b o e).1
  have KX := e0.mod.kin.keeps there
  have kinds : ∀ y ∈ ps.zip us, (defScope st).names.lookup y.1 = some .local ∨ ((defScope st).names.lookup y.1 = some .cell ∧ ((cellsFrom (s.heap.objs.size + 1) (defScope st).names []).lookup y.1).isSome = true) := by
    rintro ⟨n, v⟩ hy
    rcases S.par n (List.of_mem_zip hy).1 with q | q
    · exact Or.inl q
    · exact Or.inr ⟨q, PySem.W.cellsFrom_some _ _ _ (Or.inl q)⟩
  refine codeAny_call_function hr.depth (KX _ _ lk) rfl S.co S.gen rfl (PySem.W.codeRec_of KX hcd) (hb _ _ _ _ (wpAny_newFunctionEnv_cells S.kind kinds ?_))
  intro env he s1 x
  subst he
  obtain ⟨t, ht, q⟩ := body A outer s H vs Q E hg (hr.deeper _) want
  have I : Inv (cxOf CX0 P w K mg base N qual (defScope st) f (.ref cd) A outer s H E) [] (L2.start N vs) H s1 := inv_start S hr.hd e0 (len _ _ _ _ want) r x
  refine ⟨(e0.mod.nolimit.keeps there).keeps x.toInCall.keep, codeAny_func (wpAny_mono (ht.nox.run [] s1 (L2.start N vs) H _ I q) ?_ fun _ _ z => z)⟩
  intro fl s2 out
  cases fl with
  | ret u => obtain ⟨v, _, H2, J, rv, q2⟩ := out; exact ⟨v, H2, J.os, J.bare, J.base, J.hok, rv, q2⟩
  | next => obtain ⟨_, H2, J, q2⟩ := out; exact ⟨V.non, H2, J.os, J.bare, J.base, J.hok, rfl, q2⟩
  | brk => obtain ⟨_, _, _, q2⟩ := out; exact q2.elim
  | cont => obtain ⟨_, _, _, q2⟩ := out; exact q2.elim
theorem PenAt.extN {c p : Addr} {n : Nat} {H H' : Hp} (h : PenAt c n H p) (e : ExtN H H') : PenAt c n H' p := by
  obtain ⟨ns, a, g, h1, h2, h3⟩ := h
  exact ⟨ns, a, g, e _ _ h1 (fun _ z => nomatch z), e _ _ h2 (fun _ z => nomatch z), h3⟩
/-- the tables stay where all but the pen does -/
theorem tabs_ink {T : List (Addr × Str)} {c p : Addr} {n m : Nat} {H H' : Hp} (h : Tabs T H) (pen : PenAt c n H p) (i : Ink c p m H H') : Tabs T H' := fun t ht => by
  obtain ⟨ps, h1, h2, h3⟩ := h t ht
  obtain ⟨ns, a, g, q1, _⟩ := pen
  have ne : ∀ {b : Addr} {o : HO}, H b = some o → (∀ xs, o ≠ .lst xs) → b ≠ p := fun {b o} e1 k => by
    rintro rfl
    rw [q1] at e1
    exact k _ (Option.some.inj e1).symm
  refine ⟨ps, i.1 _ _ (ne h1 (fun _ z => nomatch z)) h1, h2, fun pos cv e => ?_⟩
  obtain ⟨d, e1, e2⟩ := h3 pos cv e
  exact ⟨d, e1, i.1 _ _ (ne e2 (fun _ z => by unfold CodeO at z; cases z)) e2⟩
theorem tabs_put {T : List (Addr × Str)} {G : Hp} {a : Addr} {xs : List V} {o : HO} (h : Tabs T G) (e : G a = some (.lst xs)) : Tabs T (upd G a o) := fun t ht => by
  obtain ⟨ps, h1, h2, h3⟩ := h t ht
  have ne : ∀ {b : Addr} {u : HO}, G b = some u → (∀ xs, u ≠ .lst xs) → b ≠ a := fun {b u} e1 k => by
    rintro rfl
    rw [e] at e1
    exact k _ (Option.some.inj e1).symm
  refine ⟨ps, by rw [upd_ne (ne h1 (fun _ z => nomatch z))]; exact h1, h2, fun pos cv q => ?_⟩
  obtain ⟨d, e1, e2⟩ := h3 pos cv q
  exact ⟨d, e1, by rw [upd_ne (ne e2 (fun _ z => by unfold CodeO at z; cases z))]; exact e2⟩
/-- the heap grew: the pen at p has moved, tables of code are filled, all else stands -/
structure Gr (T : List (Addr × Str)) (c p : Addr) (n : Nat) (H H' : Hp) : Prop where
  ext : Ext2 p H H'
  pen : PenAt c n H' p
  tabs : Tabs T H'
section
variable {T : List (Addr × Str)} {c p : Addr} {n m : Nat} {H H1 H2 : Hp}
theorem Gr.start (h : PenAt c n H p) (t : Tabs T H) : Gr T c p n H H := ⟨Ext2.refl p H, h, t⟩
theorem Gr.same (g : Gr T c p n H H1) (s : Same H1 H2) : Gr T c p n H H2 := ⟨g.ext.trans (Ext2.of (Same.ext1 p s)), g.pen.ext s, g.tabs.ext s⟩
theorem Gr.ink (g : Gr T c p n H H1) (i : Ink c p m H1 H2) : Gr T c p m H H2 := ⟨g.ext.trans (Ext2.of i.1), i.2, tabs_ink g.tabs g.pen i⟩
theorem Gr.extN (g : Gr T c p n H H1) (e : ExtN H1 H2) (t : Tabs T H2) : Gr T c p n H H2 := ⟨g.ext.trans (Ext2.ofN e), g.pen.extN e, t⟩
theorem Gr.trans (g : Gr T c p n H H1) (k : Gr T c p m H1 H2) : Gr T c p m H H2 := ⟨g.ext.trans k.ext, k.pen, k.tabs⟩
theorem Gr.mono (g : Gr T c p n H H1) (l : n ≤ m) : Gr T c p m H H1 := ⟨g.ext, g.pen.mono l, g.tabs⟩
theorem Gr.at_ (g : Gr T c p n H H1) {b : Addr} {o : HO} (e : H b = some o) (ne : b ≠ p) (nt : ∀ ps, o ≠ .tbl ps := by intro _ z; cases z) : H1 b = some o := g.ext b o ne nt e
/-- a list that is new since H may change -/
theorem Gr.putNew (g : Gr T c p n H H1) {q : Addr} {xs : List V} {o : HO} (new : H q = none) (e : H1 q = some (.lst xs)) (ne : q ≠ p) (nc : q ≠ c) : Gr T c p n H (upd H1 q o) :=
  ⟨fun b u n t z => by rw [upd_ne (ne_of_none z new)]; exact g.ext b u n t z, by
    obtain ⟨ns, a, k, h1, h2, h3⟩ := g.pen
    exact ⟨ns, a, k, by rw [upd_ne ne.symm]; exact h1, by rw [upd_ne nc.symm]; exact h2, h3⟩, tabs_put g.tabs e⟩
/-- what is new is neither the pen nor its cells -/
theorem Gr.freeNe (h : PenAt c n H p) {q : Addr} (new : H q = none) : q ≠ p ∧ q ≠ c := ⟨h.ne1 new, h.ne2 new⟩
theorem PenAt.neO {b : Addr} {o : HO} (h : PenAt c n H p) (e : H b = some o) (k : ∀ xs, o ≠ .lst xs) : b ≠ p := by
  rintro rfl
  obtain ⟨ns, a, g, h1, _⟩ := h
  rw [h1] at e
  exact k _ (Option.some.inj e).symm
theorem PairAt.gr (g : Gr T c p m H H1) (pen : PenAt c n H p) {t : Addr} {d : Nat} {i : Int} (h : PairAt H t d i) : PairAt H1 t d i := ⟨g.at_ h.1 (pen.neO h.1 fun _ z => nomatch z), h.2⟩
theorem PairsD.gr (g : Gr T c p m H H1) (pen : PenAt c n H p) {xs : List V} {es : List (Nat × Int)} (h : PairsD H xs es) : PairsD H1 xs es := h.mono fun _ _ _ q => q.gr g pen
theorem Wts.gr (g : Gr T c p m H H1) (pen : PenAt c n H p) {C a : Addr} {es : List (Nat × Int)} {xs : List V} (h : Wts C H a es xs) : Wts C H1 a es xs := by
  obtain ⟨dx, q, h1, h2, h3⟩ := h
  exact ⟨dx, q, g.at_ h1 (pen.neO h1 fun _ z => nomatch z), g.at_ h2 (pen.neO h2 fun _ z => nomatch z), h3.gr g pen⟩
end
end Kx
set_option Elab.async false
set_option maxRecDepth 100000
set_option autoImplicit false
/-! o != y by an own __eq__, y of any kind -/
namespace Ru
open PySem L2 PySem.Spec PyProof.Rows PySem.Calls Rg
section
variable {prog : Program} {w : World} {A : Around} {E : Value → Shared → Prop} {s : Shared} {K : PySem.W.Frag} {x C f : Addr} {b : Value} {ox : Obj} {od : Option Obj}
theorem ne_entryA (X : K.In s.heap) (I : PySem.W.InstAt s.heap x ox C od) (hu : A.units < cLine) (hs : PySem.W.findIn K (.ref C) "__eq__" = some (some (.ref f))) (hf : PySem.W.isFn K (.ref f) = true) {Q : Fin → Shared → Prop}
    (h : wpAny (model prog w) A (call (.ref f) [.ref x, b]) (fun v s' => ∃ r, v = .bool r ∧ Q (.done (.ret (.bool (!r)))) s') E s) : wpAny (model prog w) A (Builtin.«object.__ne__» ⟨[.ref x, b], []⟩) Q E s := by
  unfold Builtin.«object.__ne__»
  repeat (first
    | with_reducible refine wpAny_cRoomFor hu ?_
    | (refine wpAny_bind (m := callSpecialIfBound? (.ref x) (Str.ofString "__eq__") [b])
        (PySem.W.ifBound_K X I hs hf (wpAny_mono h (fun r s' hr => by
          obtain ⟨b, rfl, hq⟩ := hr
          repeat (first | exact hq | exact wpAny_pure hq | exact wpAny_truthy_bool hq | (refine wpAny_bind (m := truthy (.bool _)) (wpAny_truthy_bool ?_)) | wp_step)) fun _ _ e => e)))
    | wp_step)
theorem ifBound_objNeA {args : List Value} {Q : Option Value → Shared → Prop} (X : K.In s.heap) (I : PySem.W.InstAt s.heap x ox C od) (hs : PySem.W.findIn K (.ref C) "__ne__" = some (some (.builtin "object.__ne__")))
    (h : wpAny (model prog w) A (call (.builtin "object.__ne__") (.ref x :: args)) (fun v => Q (some v)) E s) : wpAny (model prog w) A (callSpecialIfBound? (.ref x) "__ne__" args) Q E s := by
  simp only [callSpecialIfBound?, bindSpecialIfBound?]
  refine wpAny_holding (wpAny_bind (wpAny_bind (wpAny_bind (I.type.here ((PySem.W.looks_findIn X hs).here ?_)))))
  refine wpAny_bind (wpAny_askSetting (wpAny_ite ?_))
  have fin : wpAny (model prog w) A (call (.builtin "object.__ne__") ([.ref x] ++ args) >>= fun v => pure (some v)) Q E s := wpAny_bind (wpAny_mono h (fun v s' h' => wpAny_pure h') fun _ _ h' => h')
  split
  · exact wpAny_bind (wpAny_of_eq (F.cmp_object.ne.bind _) (wpAny_pure (by exact fin)))
  · exact wpAny_tryCatch (wpAny_bind (wpAny_of_eq (F.cmp_object.ne.bind _) (wpAny_pure (by exact fin))))
theorem rc_neAny {tb : Value} (X : K.In s.heap) (I : PySem.W.InstAt s.heap x ox C od) (hb : PySem.W.Looks (model prog w) s.heap (typeOf b) tb) (hnf : PySem.W.notFirst K C tb = true) (hu : A.units + 1 < cLine) (hm : PySem.W.mroIn K C (.type "object") = some true)
    (hn : PySem.W.findIn K (.ref C) "__ne__" = some (some (.builtin "object.__ne__"))) (hs : PySem.W.findIn K (.ref C) "__eq__" = some (some (.ref f))) (hf : PySem.W.isFn K (.ref f) = true) {Q : Value → Shared → Prop}
    (h : wpAny (model prog w) A.in1 (call (.ref f) [.ref x, b]) (fun v s' => ∃ r, v = .bool r ∧ Q (.bool (!r)) s') E s) : wpAny (model prog w) A (richCompare .NotEq (.ref x) b) Q E s := by
  have one : wpAny (model prog w) A (tryCompare (.ref x) "__ne__" b) (fun r s' => ∃ v, r = some v ∧ Q v s') E s := by
    unfold tryCompare
    refine wpAny_bind (ifBound_objNeA X I hn (wpAny_call (codeAny_call_builtin F.cmp_object.ne.plain F.cmpEntry_ne (PySem.W.check_slot F.cmpKind_ne F.cmpSplit_ne (I.type.andThen (PySem.W.looks_mroIn X hm)) (F.cmpArgs_ne _ _) (ne_entryA (A := A.in1) X I (Nat.lt_of_succ_lt (by simpa using hu) |> fun _ => by simpa using hu) hs hf (wpAny_mono h (fun v s' hv => ?_) fun _ _ e => e))))))
    obtain ⟨r, rfl, hq⟩ := hv
    have fin : ∃ v : Value, some (Value.bool (!r)) = some v ∧ Q v s' := ⟨_, rfl, hq⟩
    first | exact ⟨r, rfl, wpAny_pure fin⟩ | exact ⟨r, rfl, wpAny_pure (wpAny_pure fin)⟩ | exact ⟨r, rfl, _, rfl, wpAny_pure fin⟩ | exact ⟨r, rfl, fin⟩
  unfold richCompare
  simp only [oneThing_ref]
  refine wpAny_holding (wpAny_bind (wpAny_cRoomFor (Nat.lt_of_succ_lt hu) ?_))
  rw [cmpInfo_NotEq]
  dsimp only
  refine wpAny_bind (I.type.here (wpAny_bind (hb.here ?_)))
  split
  · rename_i q
    have e : PySem.W.subIn K tb (.ref C) = some false := by
      rcases Bool.or_eq_true_iff.mp hnf with e | e
      · rw [beq_iff_eq.mp e] at q; simp at q
      · exact beq_iff_eq.mp e
    refine wpAny_bind ((PySem.W.looks_subIn X e).here ?_)
    simp only [Bool.false_eq_true, if_false]
    refine wpAny_bind (wpAny_mono one (fun r s' z => ?_) fun _ _ e => e)
    obtain ⟨v, rfl, hq⟩ := z
    first | exact wpAny_pure hq | exact wpAny_pure (wpAny_pure hq)
  · refine wpAny_bind (wpAny_pure ?_)
    simp only [Bool.false_eq_true, if_false]
    refine wpAny_bind (wpAny_mono one (fun r s' z => ?_) fun _ _ e => e)
    obtain ⟨v, rfl, hq⟩ := z
    first | exact wpAny_pure hq | exact wpAny_pure (wpAny_pure hq)
end
/-- what a class asks that != goes by its own == -/
structure NeT (K : PySem.W.Frag) (C f : Addr) : Prop where
  hm : PySem.W.mroIn K C (.type "object") = some true
  hn : PySem.W.findIn K (.ref C) "__ne__" = some (some (.builtin "object.__ne__"))
  hs : PySem.W.findIn K (.ref C) "__eq__" = some (some (.ref f))
  hf : PySem.W.isFn K (.ref f) = true
section
variable {X : Cx} {CX : CXT} {k : Nat} {C f : Addr} {fd : FuncData} {ps : List Str} {sp : Sp} {E : XK}
def rNeOwn (K : PySem.W.Frag) (C : Addr) (sp : Sp) (E : XK) : R2 := fun x y H Q => ∃ a dx fs t, x = .ref a ∧ H a = some (.ins C dx fs) ∧ TyX K H y t ∧ PySem.W.notFirst K C t = true ∧ sp [x, y] H (fun v H' => ∃ b, v = .bl b ∧ Q (.bl (!b)) H') E
theorem op_neOwnA (N : NeT X.K C f) (F : FnOk X.prog X.w X.K X.mg X.base CX k f fd ps sp) (room : Room (k + 1) X.A) (bd : Binds X.K fd ps []) (ex : Passes CX X E) : OpR X (compareOp .NotEq) (rNeOwn X.K C sp E) := by
  rintro pins s σ H x y v u Q I rx ry ⟨a, dx, fs, t, rfl, e, ty, nf, want⟩
  obtain rfl : v = Value.ref a := rx
  obtain ⟨od, J⟩ := instAt I e
  obtain ⟨P0, kx, hp, _⟩ := kit_of I ry ty
  show wpAny (model X.prog X.w) X.A (richCompare .NotEq (.ref a) u) (EP X pins σ Q) X.xe s
  refine rc_neAny (f := f) I.kIn J (kx.ty _ _ I.kIn hp) nf (by have := room.un; omega) N.hm N.hn N.hs N.hf ?_
  have sb : Sub X k X.A.in1 := Sub.in1 ⟨room, rfl⟩
  have e0 : Env0 X.prog X.w X.K X.mg X.base X.A.in1 X.stack s H := by
    have e := I.env0
    exact ⟨by rw [sb.fr]; exact e.frames, e.mod, e.bs, e.bsz, e.funs, e.frf, e.hok, e.bare⟩
  refine thn (runAt F sb.room e0 bd ex I (.cons (rvRef a) (.cons ry .nil)) want) ?_
  rintro z s' ⟨v', H', I', rv, b, rfl, q⟩
  obtain rfl : z = Value.bool b := rv
  exact ⟨b, rfl, .bl (!b), H', I', rfl, q⟩
end
end Ru
set_option Elab.async false
set_option maxRecDepth 100000
set_option autoImplicit false
/-! C.m(k = v, ..), m a classmethod, no value by place -/
namespace Ck
open PySem L2 PySem.Spec PyProof.Rows ClX
section
variable {X : Cx} {CX : CXT} {k : Nat} {C p g : Addr} {mc : Value} {sp : Sp} {E : XK} {fd : FuncData} {ps : List Str} {pins : List (Addr × Obj)} {σ : L2.St} {H : Hp} {s : Shared}
/-- C.m(k = v, ..) -/
def tCMethK (C : Addr) (n : Nat) (sp : Sp) (gV : List V → List V → List V) (E : XK) (ta : TE) (tk : TA) : TE := fun σ H Q => ta σ H fun x H1 => x = .ref C ∧ tk σ H1 fun zs H2 => zs.length = n ∧ sp (gV [.ref C] zs) H2 Q E
theorem run_cmK {q : Addr} {Q : VK} {ks : List Str} {gg : List Value → List Value → List Value} {gV : List V → List V → List V} {ws : List Value} {zs : List V} (F : FnOk X.prog X.w X.K X.mg X.base CX k g fd ps sp) (hr : Room k X.A) (kb : KBn X.K fd ps 1 ks gg gV) (hx : Passes CX X E)
    (I : Inv X ((q, PySem.W.methodObj (.ref g) (.ref C)) :: pins) σ H s) (r : Vals zs ws) (lz : zs.length = ks.length) (h : sp (gV [.ref C] zs) H Q E) : wpAny (model X.prog X.w) X.A (call (.ref q) [] (ks.zip ws)) (EP X pins σ Q) X.xe s := by
  have lw : ws.length = ks.length := r.length.symm.trans lz
  have rr : Vals (gV [V.ref C] zs) (gg [Value.ref C] ws) := kb.rel (.cons rfl .nil) r
  have z : wpAny (model X.prog X.w) X.A (call (.ref q) [] (ks.zip ws)) (EP X ((q, PySem.W.methodObj (.ref g) (.ref C)) :: pins) σ Q) X.xe s := by
    refine wpAny_call (PySem.W.method_call (pin_at I) (codeAny_mono (F.run X.A X.stack s H ⟨[.ref C], ks.zip ws⟩ (gg [.ref C] ws) (gV [.ref C] zs) Q E hr I.env0 (kb.to s [.ref C] ws I.kIn rfl lw) rr h) fun res s' got => ?_))
    rcases res with er | fl
    · exact hx _ σ H s er s' I got
    · cases fl <;> first | exact I.after got | exact False.elim got
  exact thn z fun _ _ y => unpinE y
theorem pe_cmethK {pl : Sem Bool} {o : Expr} {m : Str} {kws : List Keyword} {ks : List Str} {ta : TE} {tk : TA} {pos apos : Pos} {gg : List Value → List Value → List Value} {gV : List V → List V → List V}
    (he : PE X o ta) (r : CRead X.K C mc) (c : CMet X.K C mc m p g) (F : FnOk X.prog X.w X.K X.mg X.base CX k g fd ps sp) (hr : Room k X.A) (kb : KBn X.K fd ps 1 ks gg gV) (hx : Passes CX X E) (hk : PK X kws tk)
    (hall : (backToKw pos (keywordEach kws X.env)).all (·.1.isSome) = true := by rfl) (hks : (backToKw pos (keywordEach kws X.env)).filterMap (·.1) = ks := by rfl)
    (hpl : ((backTo pos (starEach [] X.env)).any (·.1) || (backToKw pos (keywordEach kws X.env)).any (·.1.isNone)) = false := by rfl)
    (ht : eval (.Call (.Attribute o m apos) [] kws pos) X.env = (do
      let ov ← eval o X.env
      standAt apos.atName
      let (f, first) ← holding [ov] (getMethod ov m pl)
      callWith pos f first (backTo pos (starEach [] X.env)) (backToKw pos (keywordEach kws X.env))) := by rfl) :
    PE X (.Call (.Attribute o m apos) [] kws pos) (tCMethK C ks.length sp gV E ta tk) := by
  refine ⟨fun pins s σ H Q I h => ?_⟩
  refine PySem.W.methodCall_KW (pl := pl) (thn (he.run pins s σ H _ I h) fun u s1 ⟨x, H1, I1, rx, ex, q⟩ => ?_) ht
  subst ex
  obtain rfl : u = Value.ref C := rx
  refine getmethcm_ok I1 r c fun s2 I2 => ?_
  have hq := pin_at I2
  refine PySem.W.callWith_of hpl (PySem.W.keeps_M (K := X.K) (self := .ref C) c.fi) (evalArgs_kw2_nil hall (thn (hk.run pos _ s2 σ H1 _ I2 q) fun ws s3 ⟨zs, H2, I3, rz, lz, want⟩ => ⟨⟨pin_at I3, I3.kIn⟩, ?_⟩))
  rw [hks]
  exact run_cmK F hr kb hx I3 rz lz want
end
end Ck
set_option Elab.async false
set_option maxRecDepth 100000
set_option autoImplicit false
/-! the class Weights, as the law calls it; _law_heard(lambda: ..) -/
namespace Kx
open PySem L2 PySem.Spec PyProof.Rows Rg Er Ru LamX Tn ClX
def rTup (K : PySem.W.Frag) : List V → Hp → VK → Prop := fun xs H Q => ∃ p ys, xs = [.ref p] ∧ ((SqL K H p ys ∧ ∀ l, H l = none → Q (.ref l) (upd H l (.tup ys))) ∨ (SqT K H p ys ∧ Q (.ref p) H))
theorem bTup {X : Cx} {e : Expr} {te : TE} {p pos : Pos} (hg : Gl X "tuple") (m : X.mg "tuple" = none) (he : PE X e te) (na : starEach [e] X.env = (false, eval e X.env) :: starEach [] X.env := by rfl) : PE X (.Call (.Name "tuple" p) [e] [] pos) (tCB (rTup X.K) (tCons te tNil)) :=
  pe_callTy call_tuple_of hg m (by decide +kernel) (pa_cons he pa_nil na) (he := na)
/-- tuple of a list or of a tuple, over a heap that only grows -/
theorem rTup_new {K : PySem.W.Frag} {H : Hp} {a : Addr} {ys : List V} {Q : VK} (e : H a = some (.lst ys)) (k : ∀ l, H l = none → Q (.ref l) (upd H l (.tup ys))) : rTup K [.ref a] H Q := ⟨a, ys, rfl, .inl ⟨SqL.of e, k⟩⟩
def lamQ (x : Str) : Str := x ++ ".<locals>." ++ "<lambda>"
structure WK (P : Program) (w : World) (K : PySem.W.Frag) (mg : Str → Option Value) (base : Heap) (C CB : Addr) : Prop where
  M : WT K C
  gC : mg "Weights" = some (.ref C)
  I : InsT K C
  nfL : PySem.W.notFirst K C (.type "list") = true
  kL : PySem.W.kitOne K (.type "list") (.ref C) = some false
  kC : PySem.W.kitOne K (.ref C) (.ref C) = some true
  R : ErrB P w K mg base "BadSigns" "part" CB
  hear : HearP K mg "BadSigns" "part" CB
  rd : CRead K C (.type "type")
  of_ : ∃ p g, CMet K C (.type "type") "of" p g ∧ FnR P w K mg base (L2.CX P w) 6 g (spWOfA K C CB)
  ofK : ∃ p g fd, CMet K C (.type "type") "of" p g ∧ FnOk P w K mg base (L2.CX P w) 6 g fd ["cls", "pairs"] (spWOfA K C CB) ∧ KBn K fd ["cls", "pairs"] 1 ["pairs"] (fun us ws => us ++ ws) (fun us ws => us ++ ws)
  init : ∃ g, Mk K C g ∧ FnR P w K mg base (L2.CX P w) 4 g (spStar 1 (spWInitA K C CB))
  sig : ∃ p g fd, PropOf K C "signs" p g ∧ FnOk P w K mg base CX0 1 g fd ["self"] (getSp C "_signs") ∧ L2.Binds K fd ["self"] []
  len : ∃ f fd, PySem.W.findIn K (.ref C) "__len__" = some (some (.ref f)) ∧ PySem.W.isFn K (.ref f) = true ∧ FnOk P w K mg base CX0 1 f fd ["self"] (spWLen C) ∧ L2.Binds K fd ["self"] []
  has : ∃ f fd, PySem.W.findIn K (.ref C) "__contains__" = some (some (.ref f)) ∧ PySem.W.isFn K (.ref f) = true ∧ FnOk P w K mg base CX0 3 f fd ["self", "x"] (spWHas K C) ∧ L2.Binds K fd ["self", "x"] []
  item : ∃ f fd, PySem.W.findIn K (.ref C) "__getitem__" = some (some (.ref f)) ∧ PySem.W.fnIn K f = true ∧ PySem.W.isFn K (.ref f) = true ∧ FnOk P w K mg base (L2.CX P w) 4 f fd ["self", "at"] (spWItem K C CB) ∧ L2.Binds K fd ["self", "at"] []
  eq : ∃ f fd, NeT K C f ∧ FnOk P w K mg base CX0 1 f fd ["self", "other"] (spWEq K C) ∧ L2.Binds K fd ["self", "other"] []
  ren : ∃ f fd, Meth K C "renamed" f ∧ FnOk P w K mg base (L2.CX P w) 6 f fd ["self", "names"] (spRenamed K C CB) ∧ L2.Binds K fd ["self", "names"] []
theorem ents_of {K : PySem.W.Frag} {H : Hp} {xs : List V} {es : List (Nat × Int)} (h : PairsD H xs es) : Ents K H xs (es.map some) := ⟨by rw [h.1]; simp, fun i o ho => by
  rw [List.getElem?_map] at ho
  obtain ⟨e, he, rfl⟩ := Option.map_eq_some_iff.mp ho
  obtain ⟨t, h1, h2⟩ := h.2 i e he
  exact ⟨_, h1, .inl ⟨t, e.1, e.2, rfl, h2, rfl⟩⟩⟩
theorem some_inj {es fs : List (Nat × Int)} (h : es.map some = fs.map some) : fs = es := by
  have := congrArg (List.map fun o => o.getD (0, 0)) h
  simpa [Function.comp_def] using this.symm
theorem of_good {K : PySem.W.Frag} {C CB l : Addr} {H : Hp} {xs : List V} {es : List (Nat × Int)} {Q : VK} {E : XK} (hl : Sq H l xs) (h : PairsD H xs es) (l1 : 1 ≤ es.length) (l4 : es.length ≤ 4) (nd : (es.map (·.1)).Nodup)
    (k : ∀ a H', Same H H' → Wts C H' a es xs → Q (.ref a) H') : spWOfA K C CB [.ref C, .ref l] H Q E := by
  have al := h.1
  refine ⟨l, xs, es.map some, rfl, hl, ents_of h, by omega, fun n => absurd ⟨by omega, by omega⟩ n, fun _ => ?_⟩
  rw [badFrom_none es 0 [] nd fun _ _ h => by cases h]
  exact fun es' H' a e s w => k a H' s (by rw [some_inj e] at w; exact w)
section
variable {P : Program} {w : World} {K : PySem.W.Frag} {mg : Str → Option Value} {base : Heap}
/-- _law_heard(lambda: body), in a def whose code stands at cd -/
theorem pe_hear {N : List Str} {qual : Str} {sc : Scope} {A : Around} {outer : List Env} {s : Shared} {H : Hp} {E0' : XK} {f cd tab G g : Addr} {T : List (Addr × Str)} {cdg oc dV kV doc pm ct : Value} {an od : Option Addr} {osl : Array (Option Value)} {params : Arguments} {body : Expr} {scope : Scope} {t : XK → TE} {p lpos pos : Pos}
    (hr : Room 8 (A.deeper (envOfC qual sc s.heap.objs.size f (.ref cd)))) (Hc : HearP K mg "BadSigns" "part" G) (hm : mg "_law_heard" = some (.ref g)) (hk : PySem.W.keepIn K (.ref g) = true)
    (lk : K.lookup g = some ⟨oc, od, .func (PySem.W.fnOf "_law_heard" "_law_heard" (defArgs sHeard) (defBody sHeard) (defScope sHeard) dV kV doc pm an cdg ct), osl⟩) (hcg : PySem.W.codeIn K cdg "_law_heard" = true) (hb : L2.Binds K (PySem.W.fnOf "_law_heard" "_law_heard" (defArgs sHeard) (defBody sHeard) (defScope sHeard) dV kV doc pm an cdg ct) ["_law_asking"] [])
    (TB : TabB base mg cd tab) (hT : (tab, lamQ qual) ∈ T) (hu : ∀ p ∈ T, p.1 = tab → p.2 = lamQ qual) (hg : Gl (cxOf CX0 P w K mg base N qual sc f (.ref cd) A outer s H E0').nox "_law_heard") (L : LamS sc scope) (hdef : defaultsOf params (envOfC qual sc s.heap.objs.size f (.ref cd)) = ([], [])) (hbind : ∀ (q : Str) (cl : List (Str × Addr)) (pm cv ctv : Value), bindArgs (PySem.W.kla_fn "<lambda>" q params body scope cl pm cv ctv) ⟨[], []⟩ = pure [])
    (hbody : ∀ (A' : Around) (outer' : List Env) (s' : Shared) (H' : Hp) (E : XK) (f' c' : Addr), Room 6 (A'.deeper (lamEnv (cxOf CX0 P w K mg base N qual sc f (.ref cd) A outer s H E0').nox scope s'.heap.objs.size f' c')) → PE (lamCx (cxOf CX0 P w K mg base N qual sc f (.ref cd) A outer s H E0').nox A' outer' s' H' E scope f' c') body (t E)) :
    PE (cxOf CX0 P w K mg base N qual sc f (.ref cd) A outer s H E0').nox (.Call (.Name "_law_heard" p) [.Lambda params body scope lpos] [] pos) (tLam T (TTheard G "part") t) :=
  pe_lamcall (X := (cxOf CX0 P w K mg base N qual sc f (.ref cd) A outer s H E0').nox) (a := "_law_asking") (k := 6) hg hm hk lk hcg hb scHeard rfl (Or.inl rfl) (heard_gives Hc) TB rfl hT hu hr L hdef hbind hbody
/-- what the law needs of _law_heard -/
structure Hd (K : PySem.W.Frag) (mg : Str → Option Value) (g : Addr) (cdg oc dV kV doc pm ct : Value) (an od : Option Addr) (osl : Array (Option Value)) : Prop where
  hm : mg "_law_heard" = some (.ref g)
  hk : PySem.W.keepIn K (.ref g) = true
  lk : K.lookup g = some ⟨oc, od, .func (PySem.W.fnOf "_law_heard" "_law_heard" (defArgs sHeard) (defBody sHeard) (defScope sHeard) dV kV doc pm an cdg ct), osl⟩
  hcg : PySem.W.codeIn K cdg "_law_heard" = true
  hb : L2.Binds K (PySem.W.fnOf "_law_heard" "_law_heard" (defArgs sHeard) (defBody sHeard) (defScope sHeard) dV kV doc pm an cdg ct) ["_law_asking"] []
theorem heard_bad {T : List (Addr × Str)} {G : Addr} {t : XK → TE} {σ : L2.St} {H : Hp} {Q : VK} {v : V} (tabs : Tabs T H) (rd : ∀ G1, ExtN H G1 → Tabs T G1 → ∀ (Qn : VK) (E : XK), (∀ G2, Same G1 G2 → raised G "part" v E G2) → t E σ G1 Qn)
    (k : ∀ G' q, ExtN H G' → Tabs T G' → G' q = some (.lst [v]) → Q (.ref q) G') : tLam T (TTheard G "part") t σ H Q :=
  ⟨tabs, fun G1 eN T1 H1 Q' s1 _ => rd H1 (ExtN.trans eN (ExtN.of s1)) (T1.ext s1) Q' _ fun G2 s2 d hd => ⟨d, v, rfl, rfl, upd_same, fun q H'' same hq =>
    k H'' q (ExtN.trans eN (ExtN.trans (ExtN.of s1) (ExtN.trans (ExtN.of s2) (ExtN.of fun b o e => same b o (by rw [upd_ne (ne_of_none e hd)]; exact e))))) (((T1.ext s1).ext s2).ext fun b o e => same b o (by rw [upd_ne (ne_of_none e hd)]; exact e)) hq⟩⟩
theorem ite_two {c : Prop} [Decidable c] {ta tb : VK → Prop} {H : Hp} {Q : VK} (P : V → Prop) (h : ∀ Q' : VK, (∀ v, P v → Q' v H) → if c then ta Q' else tb Q') (k : ∀ v, P v → Q v H) : if c then ta Q else tb Q := h Q k
theorem tIf_two {t : TT} {ta tb : TE} {σ : L2.St} {H : Hp} {Q : VK} {P : V → Prop} (h : ∀ Q' : VK, (∀ v, P v → Q' v H) → tIf t ta tb σ H Q') (k : ∀ v, P v → Q v H) : tIf t ta tb σ H Q := h Q k
end
end Kx
set_option Elab.async false
set_option maxRecDepth 100000
set_option autoImplicit false
set_option pp.maxSteps 400
set_option pp.deepTerms false
/-! _law_right -/
namespace Kx
open PySem L2 PySem.Spec PyProof.Rows Rg Er Ru LamX Tn ClX SkE
abbrev sRight : Stmt := top 25
abbrev nRight : List Str := ["_law_pen_here", "_law_listed", "_law_one", "_law_signs", "_law_pair", "_law_longer", "_law_word", "_law_odd", "_law_other", "_law_at", "_law_turned"]
theorem scRight : FnScope nRight ["_law_pen_here", "_law_listed"] (defScope sRight) := ⟨rfl, rfl, rfl, by decide +kernel, rfl, by decide +kernel, by decide +kernel⟩
def spRight (T : List (Addr × Str)) : Sp := fun vs H Q _ => ∃ (c p l : Addr) (n : Nat) (xs : List V) (es : List (Nat × Int)), vs = [.ref p, .ref l] ∧ n ≤ 700000 ∧ PenAt c n H p ∧ l ≠ p ∧ H l = some (.lst xs) ∧ PairsD H xs es ∧ 1 ≤ es.length ∧ es.length ≤ 4 ∧ (es.map (·.1)).Nodup ∧ Tabs T H ∧
  ∀ H', Gr T c p (n + 10) H H' → Q (.bl true) H'
/-- what stands while _law_right goes -/
structure RS (T3 : List (Addr × Str)) (C c p l q D : Addr) (n : Nat) (xs : List V) (es : List (Nat × Int)) (G : Hp) : Prop where
  pen : PenAt c n G p
  tabs : Tabs T3 G
  w : Wts C G q es xs
  lp : l ≠ p
  hl : G l = some (.lst xs)
  pd : PairsD G xs es
  dp : D ≠ p
  hD : G D = some (.lst ((es.map (·.1)).map sg))
theorem RS.gr {T3 : List (Addr × Str)} {C c p l q D : Addr} {n m : Nat} {xs : List V} {es : List (Nat × Int)} {G G' : Hp} (h : RS T3 C c p l q D n xs es G) (g : Gr T3 c p m G G') : RS T3 C c p l q D m xs es G' :=
  ⟨g.pen, g.tabs, h.w.gr g h.pen, h.lp, g.at_ h.hl h.lp, h.pd.gr g h.pen, h.dp, g.at_ h.hD h.dp⟩
theorem RS.same {T3 : List (Addr × Str)} {C c p l q D : Addr} {n : Nat} {xs : List V} {es : List (Nat × Int)} {G G' : Hp} (h : RS T3 C c p l q D n xs es G) (s : Same G G') : RS T3 C c p l q D n xs es G' := h.gr ((Gr.start h.pen h.tabs).same s)
theorem getD_at {α : Type} {l : List α} {i : Nat} {d x : α} (h : l[i]? = some x) : l.getD i d = x := by rw [List.getD_eq_getElem?_getD, h]; rfl
theorem range_map_getD {α : Type} (l : List α) (d : α) (f : α → V) : (List.range l.length).map (fun i => f (l.getD i d)) = l.map f := by
  refine List.ext_getElem (by simp) fun i h1 h2 => ?_
  have hi : i < l.length := by simpa using h2
  simp [List.getD_eq_getElem?_getD, List.getElem?_eq_getElem hi]
def cutN (cs : List Nat) (lo hi : Option Int) : List Nat := (cs.drop (HT.sIx cs.length 0 lo)).take (HT.sIx cs.length cs.length hi - HT.sIx cs.length 0 lo)
theorem cut_sg (cs : List Nat) (lo hi : Option Int) : cutV (cs.map sg) lo hi = (cutN cs lo hi).map sg := by
  unfold cutV cutN
  rw [List.length_map, List.map_take, List.map_drop]
theorem cutN_len (cs : List Nat) (lo hi : Option Int) : (cutN cs lo hi).length ≤ cs.length := by
  unfold cutN
  rw [List.length_take, List.length_drop]
  omega
theorem sum_ones : ∀ l : List Nat, ((l.map fun d => (⟨#[d]⟩ : Str)).map (·.length)).sum = l.length
  | [] => rfl
  | a :: r => by rw [List.map_cons, List.map_cons, List.sum_cons, sum_ones r, List.length_cons, Nat.add_comm] <;> rfl
theorem sg_str (l : List Nat) : l.map sg = (l.map fun d => (⟨#[d]⟩ : Str)).map V.str := by rw [List.map_map]; rfl
theorem jl {H : Hp} {a : Addr} {cs : List Nat} (h : H a = some (.lst (cs.map sg))) : H a = some (.lst ((cs.map fun d => (⟨#[d]⟩ : Str)).map V.str)) := by rw [← sg_str]; exact h
theorem jfew {cs : List Nat} (h : cs.length ≤ 1000) : ((cs.map fun d => (⟨#[d]⟩ : Str)).map (·.length)).sum + (cs.map fun d => (⟨#[d]⟩ : Str)).length * (("" : Str)).length ≤ 16777216 := by
  rw [sum_ones]
  show _ + _ * 0 ≤ _
  omega
/-- a word of two signs and more -/
def Long (v : V) : Prop := ∃ z : Str, v = .str z ∧ 1 < z.length ∧ z.length ≤ 1000
theorem lt1_long {z : Str} (h : 1 < z.length) : lt1 z = false := by
  obtain ⟨⟨L⟩⟩ := z
  match L, h with
  | [], h => simp [Str.length] at h
  | [a], h => simp [Str.length] at h
  | a :: b :: r, _ => rfl
theorem app_len' (x y : Str) : (x ++ y).length = x.length + y.length := by
  obtain ⟨⟨a⟩⟩ := x
  obtain ⟨⟨b⟩⟩ := y
  show (⟨a⟩ ++ ⟨b⟩ : Array Nat).size = a.length + b.length
  simp
/-- v is no letter, now and at each heap behind -/
structure OddV (K : PySem.W.Frag) (p : Addr) (G : Hp) (v : V) : Prop where
  sm : Sm v
  lt : ∀ G', Ext2 p G G' → LtX K G' v false
  no : ∀ c : Nat, v = .str ⟨#[c]⟩ → c ∉ abc.cps.toList
theorem OddV.ext {K : PySem.W.Frag} {p : Addr} {G G' : Hp} {v : V} (h : OddV K p G v) (e : Ext2 p G G') : OddV K p G' v := ⟨h.sm, fun G2 e2 => h.lt G2 (e.trans e2), h.no⟩
theorem oddLong {K : PySem.W.Frag} {p : Addr} {G : Hp} {v : V} (h : Long v) : OddV K p G v := by
  obtain ⟨z, rfl, l1, l2⟩ := h
  refine ⟨.inl rfl, fun G' _ => .inl ⟨z, rfl, l2, (lt1_long l1).symm⟩, fun c e => ?_⟩
  have := V.str.inj e
  subst this
  exact absurd l1 (by show ¬ 1 < 1; decide)
theorem oddRef {K : PySem.W.Frag} {p : Addr} {G : Hp} {a : Addr} (h : ∀ G', Ext2 p G G' → NoOf K "str" G' (.ref a)) : OddV K p G (.ref a) := ⟨.inr ⟨a, rfl⟩, fun G' e => .inr ⟨rfl, h G' e⟩, fun c e => by cases e⟩
theorem oddFlat {K : PySem.W.Frag} {p : Addr} {G : Hp} {v : V} (f : flatB v = true) (h : ∀ G', NoOf K "str" G' v) (n : ∀ z, v ≠ .str z) : OddV K p G v := ⟨.inl f, fun G' _ => .inr ⟨rfl, h G'⟩, fun c e => absurd e (n _)⟩
theorem PairsD.set {H : Hp} {xs : List V} {es : List (Nat × Int)} {t : Addr} {e : Nat × Int} (h : PairsD H xs es) (j : Nat) (hj : j < es.length) (p : PairAt H t e.1 e.2) : PairsD H (xs.set j (.ref t)) (es.set j e) := by
  refine ⟨by rw [List.length_set, List.length_set]; exact h.1, fun i f hf => ?_⟩
  by_cases ej : j = i
  · subst ej
    rw [List.getElem?_set_self hj] at hf
    cases hf
    exact ⟨t, List.getElem?_set_self (by rw [h.1]; exact hj), p⟩
  · rw [List.getElem?_set_ne ej] at hf
    obtain ⟨t', h1, h2⟩ := h.2 i f hf
    exact ⟨t', by rw [List.getElem?_set_ne ej]; exact h1, h2⟩
theorem set_fst {es : List (Nat × Int)} {j : Nat} (hj : j < es.length) (m : Int) : (es.set j (es[j].1, m)).map (·.1) = es.map (·.1) := by
  refine List.ext_getElem (by simp) fun i h1 h2 => ?_
  simp only [List.getElem_map, List.getElem_set]
  split
  · rename_i h; subst h; rfl
  · rfl
theorem PairsD.rev {H : Hp} {xs : List V} {es : List (Nat × Int)} (h : PairsD H xs es) : PairsD H xs.reverse es.reverse := by
  refine ⟨by simp [h.1], fun i e he => ?_⟩
  have hi : i < es.length := by
    have := (List.getElem?_eq_some_iff.mp he).1
    simpa using this
  rw [List.getElem?_reverse hi] at he
  obtain ⟨t, h1, h2⟩ := h.2 _ e he
  refine ⟨t, ?_, h2⟩
  rw [List.getElem?_reverse (by rw [h.1]; exact hi), h.1]
  exact h1
theorem eqvL (es fs : List (Nat × Int)) : PyData.eqv (.list (es.map dPair)) (.list (fs.map dPair)) = decide (es = fs) := eqvPairs es fs
theorem nfSelf (K : PySem.W.Frag) (C : Addr) : PySem.W.notFirst K C (.ref C) = true := by simp [PySem.W.notFirst]
theorem one_val {es : List (Nat × Int)} (nd : (es.map (·.1)).Nodup) {c : Nat} {n m : Int} (h1 : (c, n) ∈ es) (h2 : (c, m) ∈ es) : n = m := by
  obtain ⟨i, hi, ei⟩ := List.getElem_of_mem h1
  obtain ⟨j, hj, ej⟩ := List.getElem_of_mem h2
  have hh : (es.map (·.1))[i]'(by simpa using hi) = (es.map (·.1))[j]'(by simpa using hj) := by simp [ei, ej]
  rcases Nat.lt_trichotomy i j with lt | e | lt
  · exact absurd hh (List.pairwise_iff_getElem.mp nd i j _ _ lt)
  · subst e
    rw [ei] at ej
    exact (Prod.mk.inj ej).2
  · exact absurd hh.symm (List.pairwise_iff_getElem.mp nd j i _ _ lt)
theorem ltx_sg {K : PySem.W.Frag} {H : Hp} {c : Nat} (h : c ∈ abc.cps.toList) : LtX K H (sg c) true := .inl ⟨⟨#[c]⟩, rfl, by show 1 ≤ 1000; decide, by
  show true = decide (c ∈ abc.cps.toList)
  rw [decide_eq_true h]⟩
theorem sg_inj {c d : Nat} (h : sg c = V.str ⟨#[d]⟩) : d = c := by
  have := V.str.inj h
  have := congrArg (fun s : Str => s.cps.toList) this
  simpa using this.symm
theorem small_log {i : Int} (a : 0 ≤ i) (b : i ≤ 9) : i.natAbs.log2 < 1920 := Nat.lt_of_le_of_lt (Nat.log2_le_self _) (by omega)
section
variable {P : Program} {w : World} {K : PySem.W.Frag} {mg : Str → Option Value} {base : Heap}
set_option maxHeartbeats 0 in
theorem ok_right {C CB f cd tab g f1 f2 : Addr} {T3 : List (Addr × Str)} {cdg oc dV kV doc pm ct oc' kV' doc' pm' ct' : Value} {an od an' od' : Option Addr} {osl osl' : Array (Option Value)} {d1 d2 : FuncData} (T : Txt mg) (S : WK P w K mg base C CB) (Hh : Hd K mg g cdg oc dV kV doc pm ct an od osl)
    (lkL : K.lookup f = some ⟨oc', od', .func (PySem.W.fnOf "_law_right" "_law_right" (defArgs sRight) (defBody sRight) (defScope sRight) .none kV' doc' pm' an' (.ref cd) ct'), osl'⟩) (hcL : PySem.W.codeIn K (.ref cd) "_law_right" = true) (TB : TabB base mg cd tab)
    (hT : (tab, lamQ "_law_right") ∈ T3) (hu : ∀ p ∈ T3, p.1 = tab → p.2 = lamQ "_law_right")
    (G1 : FnOk P w K mg base CX0 1 f1 d1 ["_law_pen_here", "_law_many"] spDraw) (m1 : mg "_law_draw" = some (.ref f1)) (k1 : PySem.W.keepIn K (.ref f1) = true) (b1 : L2.Binds K d1 ["_law_pen_here", "_law_many"] [])
    (G2 : FnOk P w K mg base CX0 2 f2 d2 ["_law_pen_here", "_law_things"] spPick) (m2 : mg "_law_pick" = some (.ref f2)) (k2 : PySem.W.keepIn K (.ref f2) = true) (b2 : L2.Binds K d2 ["_law_pen_here", "_law_things"] []) :
    FnG P w K mg base CX0 9 f (PySem.W.fnOf "_law_right" "_law_right" (defArgs sRight) (defBody sRight) (defScope sRight) .none kV' doc' pm' an' (.ref cd) ct') ["_law_pen_here", "_law_listed"] (spRight T3) := by
  refine fnG_of lkL hcL scRight (fun vs H Q E h => ?_) (fun A outer s H vs Q E hg hr h => ?_)
  · obtain ⟨c, p, l, n, xs, es, rfl, _⟩ := h
    rfl
  · obtain ⟨c, p, l, n, xs, es, rfl, nb, pen, lp, hl, pd, l1, l4, dis, tabs, k⟩ := h
    obtain ⟨M, gC, I, nfL, kL, kC, R, hear, rd, ⟨op_, og, oc1, oF⟩, _, _, ⟨sp_, sg_, sd, so, sF, sb⟩, ⟨lf, ld, la, li, lF, lb⟩, ⟨hf, hd, ha, hi, hF, hb⟩, ⟨jf, jd, ja, ji, jn, jF, jb⟩, ⟨ef, ed, eN, eF, eb⟩, _⟩ := S
    have nd := scRight.nd
    have hr0 := hr.mono (show 0 ≤ 8 by decide)
    have hr1 := hr.mono (show 1 ≤ 8 by decide)
    have hr2 := hr.mono (show 2 ≤ 8 by decide)
    have hr2' := hr.mono (show 1 + 1 ≤ 8 by decide)
    have hr3 := hr.mono (show 3 ≤ 8 by decide)
    have hr5 := hr.mono (show 4 + 1 ≤ 8 by decide)
    have hr6 := hr.mono (show 6 ≤ 8 by decide)
    have cW : PE (cxOf CX0 P w K mg base nRight "_law_right" (defScope sRight) f (.ref cd) A outer s H E).nox (.Name "Weights" ⟨0, 0, 0, 0⟩) (tC (.ref C)) := pe_glob (v := .ref C) (by rfl) gC rfl
    refine ⟨_, pss_cons (ps_set (i := 2) nd rfl (.inr rfl) (pe_cmeth (pe_glob (v := .ref C) (by rfl) gC rfl) rd oc1 oF hr6 passesF (pa_cons (pv 1) pa_nil)))
      (pss_cons (ps_setLc (i := 3) (own := [("_law_pair", 4)]) (g := gName 4) (tt := tYes) (te := tOp (rIxT K) (tVar 4) (tC (.int 0))) rfl nd rfl rfl (sw_true rfl rfl rfl (by decide +kernel)) (pi_list (pv 1)) (blkOk_by (own := [("_law_pair", 4)]) (N := nRight) (sc := defScope sRight) (by decide +kernel))
        (fun _ _ _ _ _ => pg_name (i := 4) nd rfl (Or.inl rfl)) (fun _ _ _ _ _ => pts_nil) (fun _ _ _ _ _ => bIxT (pv 4) pe_int))
      (pss_cons (ps_if (PW.pt (pw_or (pt_cmpR op_ne (pe_prop (pv 2) M.cl so sF hr2' sb .nil pass0 rfl) (pe_join pe_str (pv 3)) (nomark _)) (pw_or (pt_cmpR (op_neD hr.units) (pe_fld (pv 2) rfl) (bTup (by rfl) T.tuple (pv 1)) (nomark _))
          (pw_or1 (pt_cmpR op_ne (pe_callB (cr_len lF hr2' lb pass0 la li) (by rfl) T.len PySem.boot_len (pa_cons (pv 2) pa_nil)) (bLen (by rfl) T.len (pv 1)) (nomark _)))))) (pss_one ps_never) pss_nil)
      (pss_cons (ps_for PassesOwn.never rfl (pi_list (pv 1)) (pg_name (i := 4) nd rfl (Or.inl rfl))
        (pss_one (ps_if (PW.pt (pw_or (pt_cmpR (op_hasnt hF hr3 hb pass0 ha hi) (bIxT (pv 4) pe_int) (pv 2) rfl)
            (pw_or1 (pt_cmpR op_ne (pe_callB call_repr_int (by rfl) T.repr (by decide +kernel) (pa_cons (pe_item jF hr5 jb passesF ja ji jn (pv 2) (bIxT (pv 4) pe_int)) pa_nil)) (pe_callB call_repr_int (by rfl) T.repr (by decide +kernel) (pa_cons (bIxT (pv 4) pe_int) pa_nil)) (nomark _))))) (pss_one ps_never) pss_nil)))
      (pss_cons (ps_setLc (i := 5) (own := [("_law_word", 6)]) (g := gName 6) (tt := tTest (tOp (rI0 fun i j => .bl (decide (j < i))) (tCB (fun xs H Q => ∃ x n, xs = [x] ∧ LenV K x H n ∧ Q (.int n) H) (tCons (tVar 6) tNil)) (tC (.int 1)))) (te := tVar 6) rfl nd rfl rfl (sw_true rfl rfl rfl (by decide +kernel))
          (pi_list (pe_lst (pa_cons (pe_join pe_str (pv 3)) (pa_cons (pe_join pe_str (pe_slice sl_list (pv 3) po_none (po_some pe_int))) (pa_cons (pe_join pe_str (pe_slice sl_list (pv 3) (po_some (pe_un un_neg pe_int)) po_none)) pa_nil)))))
          (blkOk_by (own := [("_law_word", 6)]) (N := nRight) (sc := defScope sRight) (by decide +kernel))
        (fun _ _ _ _ _ => pg_name (i := 6) nd rfl (Or.inl rfl)) (fun _ _ _ _ _ => pts_one (pt_cmpR op_gt (bLen (by rfl) T.len (pv 6)) pe_int (nomark _))) (fun _ _ _ _ _ => pv 6))
      (pss_cons (ps_for PassesOwn.never rfl (pi_list (pe_op op_cat (pe_lst (pa_cons pe_str (pa_cons (pe_op op_add_str (pe_join pe_str (pv 3)) pe_str) (pa_cons pe_non (pa_cons pe_int (pa_cons pe_str (pa_cons (pe_tup (pa_cons pe_str pa_nil)) (pa_cons (pe_lst (pa_cons pe_int pa_nil)) (pa_cons pe_str (pa_cons pe_dnewK (pa_cons pe_bl pa_nil))))))))))) (pv 5))) (pg_name (i := 7) nd rfl (Or.inr rfl))
        (pss_one (ps_if (PW.pt (pw_or (pt_cmpR (op_has hF hr3 hb pass0 ha hi) (pv 7) (pv 2) rfl)
            (pw_or1 (pt_cmpR (op_neS hr.units) (pe_hear (T := T3) (t := fun E => tOp (rItem C (spWItem K C CB) E) (tVar 2) (tVar 7)) hr hear Hh.hm Hh.hk Hh.lk Hh.hcg Hh.hb TB hT hu (by rfl) (lamS_by (by decide +kernel)) rfl (fun _ _ _ _ _ => rfl)
              (fun A' outer' s' H' E f' c' hr' => pe_item jF (hr'.mono (by decide)) jb (passes_call (takes_of (E := E) rfl rfl rfl rfl) fun _ _ _ _ h => h) ja ji jn (pv 2) (pv 7))) (pe_lst (pa_cons (pv 7) pa_nil)) (nomark _))))) (pss_one ps_never) pss_nil)))
      (pss_cons (ps_set (i := 8) nd rfl (.inl rfl) (bList (by rfl) T.list (pv 1)))
      (pss_cons (ps_set (i := 9) nd rfl (.inl rfl) (pe_call G1 hr1 (by rfl) m1 k1 b1 .nil pass0 (pa_cons (pv 0) (pa_cons (bLen (by rfl) T.len (pv 8)) pa_nil))))
      (pss_cons (ps_asg (pe_call G2 hr2 (by rfl) m2 k2 b2 .nil pass0 (pa_cons (pv 0) (pa_cons (pe_lst (pa_cons (bIx (pv 8) (pv 9)) (pa_cons (pe_tup (pa_cons (bIxT (bIx (pv 8) (pv 9)) pe_int) (pa_cons (pe_op op_sub pe_int (bIxT (bIx (pv 8) (pv 9)) pe_int)) pa_nil))) pa_nil))) pa_nil))) (pg_sub (pv 8) (pv 9) set_list))
      (pss_cons (ps_set (i := 10) nd rfl (.inl rfl) (pe_revL (pv 1)))
      (pss_cons (ps_if (pt_cmpR op_ne (pe_cmpR (op_eqOwn eF hr1 eb pass0 eN.hs eN.hf) (pv 2) (pe_cmeth (pe_glob (v := .ref C) (by rfl) gC rfl) rd oc1 oF hr6 passesF (pa_cons (pv 8) pa_nil)) (nomark _)) (pe_cmpR (op_eqD hr.units) (pv 8) (pv 1) (nomark _)) (nomark _)) (pss_one ps_never) pss_nil)
      (pss_cons (ps_if (pt_cmpR op_ne (pe_cmpR (op_eqOwn eF hr1 eb pass0 eN.hs eN.hf) (pv 2) (pe_cmeth (pe_glob (v := .ref C) (by rfl) gC rfl) rd oc1 oF hr6 passesF (pa_cons (bTup (by rfl) T.tuple (pv 10)) pa_nil)) (nomark _)) (pe_cmpR (op_eqD hr.units) (pv 10) (pv 1) (nomark _)) (nomark _)) (pss_one ps_never) pss_nil)
      (pss_one (ps_ret (pe_and (pe_cmpR (op_neOwnA eN eF hr2' eb pass0) (pv 2) (pv 1) (nomark _)) (pe_one (pe_cmpR (op_eqOwn eF hr1 eb pass0 eN.hs eN.hf) (pv 2) (pe_cmeth (pe_glob (v := .ref C) (by rfl) gC rfl) rd oc1 oF hr6 passesF (pa_cons (bTup (by rfl) T.tuple (pv 1)) pa_nil)) (nomark _))))))))))))))))), ?_⟩
    refine ⟨rfl, _, rfl, ?_⟩
    dsimp only [tNil]
    refine of_good (.inl hl) pd l1 l4 dis fun q H1 s1 w1 => ?_
    have hl1 := s1 _ _ hl
    have al := pd.1
    refine ⟨_, rfl, l, rfl, ⟨_, SqL.of hl1⟩, fun D hD => ?_⟩
    refine lcMap walk_list (fun i => sg ((es.map (·.1)).getD i 0)) (by rw [sizeLine_eq]; omega) hD (fun H' s => SqL.of (s _ _ hl1)) (fun _ _ _ _ y => y.1) ?_ ?_
    · rintro i x H' Q' hi s2 ⟨_, hx⟩ qq
      have hi' : i < es.length := by rw [← al]; exact hi
      obtain ⟨t, et, pt⟩ := pd.2 i _ (List.getElem?_eq_getElem hi')
      rw [hx] at et
      cases et
      refine ⟨_, rfl, t, _, 0, _, rfl, rfl, SqT.of ((pt.same s1).same s2).1, rfl, ?_⟩
      have := qq _ (Same.refl H')
      rw [getD_at (x := es[i].1) (by rw [List.getElem?_map, List.getElem?_eq_getElem hi']; rfl)] at this
      exact this
    intro H2 s2 hD2
    have elen : xs.length = (es.map (·.1)).length := by rw [al]; simp
    rw [elen, range_map_getD] at hD2
    have g2 : Gr T3 c p n H H2 := ((Gr.start pen tabs).same s1).same s2
    have rs : RS T3 C c p l q D n xs es H2 := ⟨g2.pen, g2.tabs, w1.same s2, lp, s2 _ _ hl1, (pd.mono fun _ _ _ h => h.same s1).mono fun _ _ _ h => h.same s2, ((Gr.start pen tabs).same s1).pen.ne1 hD, hD2⟩
    replace k : ∀ H', Gr T3 c p (n + 10) H2 H' → Q (.bl true) H' := fun H' g => k H' (g2.trans g)
    have dabc := pd.abc
    clear hl1 hD hD2 g2 w1 s1 s2 hl pd pen tabs lp
    have zs := sum_ones (es.map (·.1))
    have zl : (es.map (·.1)).length = es.length := by simp
    obtain ⟨dx, tp, hq, htp, pdq⟩ := id rs.w
    refine ⟨_, rfl, q, dx, _, rfl, hq, q, dx, _, _, rfl, hq, wf_signs _ _, ⟨_, rfl⟩, _, rfl, _, D, _, rfl, rfl, .inl (SqL.of ((sg_str _) ▸ rs.hD)), by show _ + _ * 0 ≤ _; omega, rfl, _, rfl, ?_⟩
    rw [join_one, show (!decide (V.str (letters es) = V.str ⟨(es.map (·.1)).toArray⟩)) = false from by unfold letters; simp]
    refine iteF ⟨_, rfl, q, C, dx, _, _, rfl, hq, M.cl, M.n2, wf_pairs _ _, _, rfl, l, xs, rfl, .inl ⟨SqL.of rs.hl, fun u hu => ?_⟩⟩
    have su : Same H2 (upd H2 u (.tup xs)) := Same.new hu
    have shp := shapedPairs dabc
    refine ⟨_, _, dpPairs (su _ _ htp) (pdq.mono fun _ _ _ h => h.same su), dpPairs upd_same (rs.pd.mono fun _ _ _ h => h.same su), shp, shp, _, rfl, ?_⟩
    rw [eqvD, decide_eq_true rfl]
    have rs3 := rs.same su
    have g3 := (Gr.start rs.pen rs.tabs).same su
    replace k : ∀ H', Gr T3 c p (n + 10) (upd H2 u (.tup xs)) H' → Q (.bl true) H' := fun H' g => k H' (g3.trans g)
    generalize upd H2 u (.tup xs) = H3 at rs3 k ⊢
    clear rs su g3 hq htp pdq dx tp
    obtain ⟨dx, tp, hq, htp, pdq⟩ := id rs3.w
    refine iteF ⟨_, rfl, q, dx, _, rfl, hq, q, es, xs, rfl, rs3.w, (es.length : Nat), rfl, by omega, by omega, _, rfl, _, xs.length, rfl, .inl ⟨_, SqL.of rs3.hl, rfl⟩, rfl, _, rfl, ?_⟩
    rw [show (!decide (V.int ((es.length : Nat) : Int) = V.int ((xs.length : Nat) : Int))) = false from by rw [al]; simp]
    refine iteF ?_
    refine ⟨_, rfl, l, rfl, ⟨_, SqL.of rs3.hl⟩, ?_⟩
    refine for_it walk_list (fun i σ' H' => H' = H3 ∧ ∃ y4, σ' = [some (.ref p), some (.ref l), some (.ref q), some (.ref D), y4, none, none, none, none, none, none]) ⟨rfl, _, rfl⟩ (fun i σ' H' _ y => by rw [y.1]; exact SqL.of rs3.hl) ?_ ?_
    · rintro i x σ' H' H'' hi ⟨rfl, y4, rfl⟩ ⟨rfl, hx⟩
      have hi' : i < es.length := by rw [← al]; exact hi
      obtain ⟨t, et, pt⟩ := rs3.pd.2 i _ (List.getElem?_eq_getElem hi')
      rw [hx] at et
      cases et
      have mem : (es[i].1, es[i].2) ∈ es := List.getElem_mem hi'
      have memc : es[i].1 ∈ es.map (·.1) := List.mem_map.mpr ⟨_, mem, rfl⟩
      refine ⟨_, rfl, t, _, 0, _, rfl, rfl, SqT.of pt.1, rfl, _, rfl, q, dx, _, rfl, hq, q, es, xs, sg es[i].1, true, rfl, rs3.w, ltx_sg pt.2.1, fun z => Bool.noConfusion z, fun c' ec => ?_⟩
      obtain rfl := sg_inj ec
      refine ⟨_, rfl, _, rfl, ?_⟩
      rw [decide_eq_true memc]
      refine iteF ⟨_, rfl, _, rfl, t, _, 0, _, rfl, rfl, SqT.of pt.1, rfl, q, dx, _, rfl, hq, q, es, xs, sg es[i].1, true, rfl, rs3.w, ltx_sg pt.2.1, fun z => Bool.noConfusion z, fun c' ec => ?_⟩
      obtain rfl := sg_inj ec
      refine ⟨fun no => absurd memc no, fun n' hn' => ?_⟩
      obtain rfl := one_val dis mem hn'
      refine ⟨es[i].2, rfl, small_log pt.2.2.1 pt.2.2.2, _, rfl, t, _, 1, _, rfl, rfl, SqT.of pt.1, rfl, es[i].2, rfl, small_log pt.2.2.1 pt.2.2.2, rfl, _, rfl, ?_⟩
      rw [eqSame]
      exact iteF ⟨rfl, _, rfl⟩
    rintro σ' H' ⟨rfl, y4, rfl⟩
    have c1 := cutN_len (es.map (·.1)) none (some 2)
    have c2 := cutN_len (es.map (·.1)) (some (-2)) none
    refine ⟨⟨_, rfl⟩, _, rfl, _, D, _, rfl, rfl, .inl (SqL.of (jl rs3.hD)), jfew (by omega), ?_⟩
    rw [join_one]
    refine ⟨⟨_, rfl⟩, _, rfl, _, rfl, D, _, rfl, SqL.of rs3.hD, fun a1 ha1 => ?_⟩
    rw [cut_sg]
    have t1 : Same H' (upd H' a1 (.lst ((cutN (es.map (·.1)) none (some 2)).map sg))) := Same.new ha1
    refine ⟨_, a1, _, rfl, rfl, .inl (SqL.of (jl upd_same)), jfew (by omega), ?_⟩
    rw [join_one]
    refine ⟨⟨_, rfl⟩, _, rfl, _, rfl, _, rfl, D, _, rfl, SqL.of (t1 _ _ rs3.hD), fun a2 ha2 => ?_⟩
    rw [cut_sg]
    have t2 := Same.new (o := .lst ((cutN (es.map (·.1)) (some (-2)) none).map sg)) ha2
    refine ⟨_, a2, _, rfl, rfl, .inl (SqL.of (jl upd_same)), jfew (by omega), ?_⟩
    rw [join_one]
    refine ⟨by show 3 ≤ sizeLine; decide, fun a3 ha3 => ?_⟩
    have t3 := Same.new (o := .lst [.str ⟨(es.map (·.1)).toArray⟩, .str ⟨(cutN (es.map (·.1)) none (some 2)).toArray⟩, .str ⟨(cutN (es.map (·.1)) (some (-2)) none).toArray⟩]) ha3
    have t13 := Same.trans t1 (Same.trans t2 t3)
    refine ⟨a3, rfl, ⟨_, SqL.of upd_same⟩, fun D5 hD5 => ?_⟩
    have e3 : upd _ a3 _ a3 = _ := upd_same (H := upd (upd H' a1 (.lst ((cutN (es.map (·.1)) none (some 2)).map sg))) a2 (.lst ((cutN (es.map (·.1)) (some (-2)) none).map sg))) (a := a3) (o := .lst [.str ⟨(es.map (·.1)).toArray⟩, .str ⟨(cutN (es.map (·.1)) none (some 2)).toArray⟩, .str ⟨(cutN (es.map (·.1)) (some (-2)) none).toArray⟩])
    have few : ∀ v ∈ [V.str ⟨(es.map (·.1)).toArray⟩, V.str ⟨(cutN (es.map (·.1)) none (some 2)).toArray⟩, V.str ⟨(cutN (es.map (·.1)) (some (-2)) none).toArray⟩], ∃ z : Str, v = .str z ∧ z.length ≤ 1000 := by
      intro v hv
      simp only [List.mem_cons, List.not_mem_nil, or_false] at hv
      rcases hv with rfl | rfl | rfl
      · exact ⟨_, rfl, by simp [Str.length]; omega⟩
      · exact ⟨_, rfl, by simp [Str.length]; omega⟩
      · exact ⟨_, rfl, by simp [Str.length]; omega⟩
    have rs4 := rs3.same t13
    have g4 := (Gr.start rs3.pen rs3.tabs).same t13
    replace k : ∀ G, Gr T3 c p (n + 10) _ G → Q (.bl true) G := fun G g => k G (g4.trans g)
    clear rs3 g4 t1 t2 t3 t13 ha1 ha2 ha3 hq htp pdq
    generalize upd (upd (upd H' a1 _) a2 _) a3 _ = H4 at rs4 k hD5 e3 ⊢
    have len3 : [V.str ⟨(es.map (·.1)).toArray⟩, V.str ⟨(cutN (es.map (·.1)) none (some 2)).toArray⟩, V.str ⟨(cutN (es.map (·.1)) (some (-2)) none).toArray⟩].length = 3 := rfl
    generalize [V.str ⟨(es.map (·.1)).toArray⟩, V.str ⟨(cutN (es.map (·.1)) none (some 2)).toArray⟩, V.str ⟨(cutN (es.map (·.1)) (some (-2)) none).toArray⟩] = L3 at e3 few len3
    refine lcSel (walk_list (xs := L3)) (fun i G acc => Same H4 G ∧ ∀ v ∈ acc, Long v) (by rw [len3, sizeLine_eq]; decide) ⟨Same.new hD5, fun v hv => by cases hv⟩ (fun i G acc _ y => SqL.of (y.1 _ _ e3)) (fun _ _ _ _ y => y.1) ?_ ?_
    · rintro i x G acc Q' Qf hi hDl hl' ⟨s4, lg⟩ ⟨_, ex⟩ qq qf
      obtain ⟨z, rfl, zf⟩ := few _ (List.mem_of_getElem? ex)
      refine ⟨_, rfl, _, z.length, rfl, ⟨len_small zf, rfl⟩, _, _, rfl, rfl, _, rfl, ?_⟩
      by_cases hz : (1 : Int) < (z.length : Nat)
      · rw [decide_eq_true hz]
        refine iteT ⟨_, rfl, qq _ G hDl ⟨Same.putNew hD5 s4, fun v hv => ?_⟩⟩
        rcases List.mem_append.mp hv with hv | hv
        · exact lg v hv
        · rw [List.mem_singleton.mp hv]
          exact ⟨z, rfl, by omega, zf⟩
      · rw [decide_eq_false hz]
        exact iteF (qf G hDl ⟨s4, lg⟩)
    intro G acc hA hlen ⟨s4, lg⟩
    have rs5 := rs4.same s4
    have g5 := (Gr.start rs4.pen rs4.tabs).same s4
    have ap : D5 ≠ p := rs4.pen.ne1 hD5
    replace k : ∀ H', Gr T3 c p (n + 10) G H' → Q (.bl true) H' := fun H' g => k H' (g5.trans g)
    clear rs4 g5 e3 few hD5 s4
    obtain ⟨dx, tp, hq, htp, pdq⟩ := id rs5.w
    refine ⟨⟨_, rfl⟩, _, rfl, _, D, _, rfl, rfl, .inl (SqL.of (jl rs5.hD)), jfew (by omega), ?_⟩
    rw [join_one]
    refine ⟨_, _, rfl, rfl, by rw [sizeLine_eq]; show (es.map (·.1)).toArray.size + 1 ≤ _; simp; omega, ?_⟩
    refine ⟨by show 1 ≤ sizeLine; decide, fun t1 ht1 => ⟨by show 1 ≤ sizeLine; decide, fun b1' hb1 => fun d1' hd1 => ?_⟩⟩
    have u1 := Same.new (o := .tup [.str "x"]) ht1
    have u2 := Same.new (o := .lst [.int 1]) hb1
    have u3 := Same.new (o := .dK []) hd1
    refine ⟨by show 10 ≤ sizeLine; decide, fun L hL => ?_⟩
    have u4 := Same.new (o := .lst [.str "", .str ((⟨(es.map (·.1)).toArray⟩ : Str) ++ "a"), .non, .int 0, .str "A", .ref t1, .ref b1', .str "xx", .ref d1', .bl true]) hL
    have u14 := Same.trans u1 (Same.trans u2 (Same.trans u3 u4))
    refine ⟨_, rfl, L, D5, _, _, rfl, rfl, upd_same, u14 _ _ hA, by show 10 + acc.length ≤ sizeLine; rw [sizeLine_eq]; omega, fun L2 hL2 => ?_⟩
    have u5 := Same.new (o := .lst ([.str "", .str ((⟨(es.map (·.1)).toArray⟩ : Str) ++ "a"), .non, .int 0, .str "A", .ref t1, .ref b1', .str "xx", .ref d1', .bl true] ++ acc)) hL2
    have u15 := Same.trans u14 u5
    have rs6 := rs5.same u15
    have g6 := (Gr.start rs5.pen rs5.tabs).same u15
    have et : _ = some (HO.tup [.str "x"]) := u5 _ _ (u4 _ _ (u3 _ _ (u2 _ _ (upd_same (H := G) (a := t1) (o := .tup [.str "x"])))))
    have eb : _ = some (HO.lst [.int 1]) := u5 _ _ (u4 _ _ (u3 _ _ (upd_same (a := b1') (o := .lst [.int 1]))))
    have ed : _ = some (HO.dK []) := u5 _ _ (u4 _ _ (upd_same (a := d1') (o := .dK [])))
    have tp1 := rs5.pen.ne1 ht1
    have bp1 := (rs5.pen.ext u1).ne1 hb1
    have dp1 := (rs5.pen.ext (Same.trans u1 u2)).ne1 hd1
    have Lp := (rs5.pen.ext u14).ne1 hL2
    refine ⟨L2, rfl, ⟨_, SqL.of upd_same⟩, ?_⟩
    have eL := (fun (A : Hp) (_ : RS T3 C c p l q D n xs es (upd A L2 (.lst ([.str "", .str ((⟨(es.map (·.1)).toArray⟩ : Str) ++ "a"), .non, .int 0, .str "A", .ref t1, .ref b1', .str "xx", .ref d1', .bl true] ++ acc)))) => (upd_same : upd A L2 (.lst ([.str "", .str ((⟨(es.map (·.1)).toArray⟩ : Str) ++ "a"), .non, .int 0, .str "A", .ref t1, .ref b1', .str "xx", .ref d1', .bl true] ++ acc)) L2 = some (.lst ([.str "", .str ((⟨(es.map (·.1)).toArray⟩ : Str) ++ "a"), .non, .int 0, .str "A", .ref t1, .ref b1', .str "xx", .ref d1', .bl true] ++ acc)))) _ rs6
    replace k : ∀ G, Gr T3 c p (n + 10) _ G → Q (.bl true) G := fun G g => k G (g6.trans g)
    clear g6 u1 u2 u3 u4 u14 u5 u15 ht1 hb1 hd1 hL hL2 hA rs5 hq htp pdq
    generalize upd (upd _ L _) L2 _ = G6 at et eb ed rs6 k eL ⊢
    have odd : ∀ v ∈ [V.str "", V.str ((⟨(es.map (·.1)).toArray⟩ : Str) ++ "a"), V.non, V.int 0, V.str "A", V.ref t1, V.ref b1', V.str "xx", V.ref d1', V.bl true] ++ acc, OddV K p G6 v := by
      intro v hv
      rcases List.mem_append.mp hv with hv | hv
      · simp only [List.mem_cons, List.not_mem_nil, or_false] at hv
        rcases hv with rfl | rfl | rfl | rfl | rfl | rfl | rfl | rfl | rfl | rfl
        · exact ⟨.inl rfl, fun G' _ => .inl ⟨_, rfl, by decide, by decide +kernel⟩, fun c e => by have := congrArg (fun s : Str => s.length) (V.str.inj e); exact absurd this (by show ¬ (0 = 1); decide)⟩
        · exact oddLong ⟨_, rfl, by rw [app_len']; show 1 < (es.map (·.1)).toArray.size + 1; simp; omega, by rw [app_len']; show (es.map (·.1)).toArray.size + 1 ≤ 1000; simp; omega⟩
        · exact oddFlat rfl (fun G' => ⟨_, .base .non, kit_ty (by decide +kernel)⟩) (fun z e => by cases e)
        · exact oddFlat rfl (fun G' => ⟨_, .base (.int _), kit_ty (by decide +kernel)⟩) (fun z e => by cases e)
        · exact ⟨.inl rfl, fun G' _ => .inl ⟨_, rfl, by decide, by decide +kernel⟩, fun c e => by
            have := V.str.inj e
            have := congrArg (fun s : Str => s.cps.toList) this
            have h65 : (("A" : Str)).cps.toList = [65] := by decide +kernel
            have this : [65] = [c] := h65.symm.trans this
            obtain rfl : 65 = c := (List.cons.inj this).1
            decide +kernel⟩
        · exact oddRef fun G' e => ⟨_, .base (.tup (e _ _ tp1 (fun _ z => nomatch z) et)), kit_ty (by decide +kernel)⟩
        · exact oddRef fun G' e => ⟨_, .base (.lst (e _ _ bp1 (fun _ z => nomatch z) eb)), kit_ty (by decide +kernel)⟩
        · exact oddLong ⟨_, rfl, by decide, by decide⟩
        · exact oddRef fun G' e => ⟨_, .base (.dK (e _ _ dp1 (fun _ z => nomatch z) ed)), kit_ty (by decide +kernel)⟩
        · exact oddFlat rfl (fun G' => ⟨_, .base (.bl _), kit_ty (by decide +kernel)⟩) (fun z e => by cases e)
      · exact oddLong (lg v hv)
    have lO : ([V.str "", V.str ((⟨(es.map (·.1)).toArray⟩ : Str) ++ "a"), V.non, V.int 0, V.str "A", V.ref t1, V.ref b1', V.str "xx", V.ref d1', V.bl true] ++ acc).length ≤ 13 := by rw [List.length_append]; show 10 + _ ≤ 13; omega
    clear et eb ed tp1 bp1 dp1 lg
    generalize [V.str "", V.str ((⟨(es.map (·.1)).toArray⟩ : Str) ++ "a"), V.non, V.int 0, V.str "A", V.ref t1, V.ref b1', V.str "xx", V.ref d1', V.bl true] ++ acc = OO at odd lO eL
    refine for_it walk_list (fun i σ' G => ∃ y4 y6 y7, σ' = [some (.ref p), some (.ref l), some (.ref q), some (.ref D), y4, some (.ref D5), y6, y7, none, none, none] ∧ Gr T3 c p n G6 G) ⟨_, _, _, rfl, Gr.start rs6.pen rs6.tabs⟩ (fun i σ' G _ ⟨_, _, _, _, g⟩ => SqL.of (g.at_ eL Lp)) ?_ ?_
    · rintro i v σ' G G' hi ⟨y4, y6, y7, rfl, g⟩ ⟨rfl, hv⟩
      have ov := (odd v (List.mem_of_getElem? hv)).ext g.ext
      have rs := rs6.gr g
      obtain ⟨dx, tp, hq, htp, pdq⟩ := id rs.w
      have nc : ∀ c' : Nat, v = .str ⟨#[c']⟩ → c' ∉ es.map (·.1) := fun c' e m => by
        obtain ⟨x, hx, rfl⟩ := List.mem_map.mp m
        exact ov.no _ e (dabc x hx)
      refine ⟨_, rfl, _, rfl, q, dx, _, rfl, hq, q, es, xs, v, false, rfl, rs.w, ov.lt _ (Ext2.refl p _), fun _ => ?_, fun c' ec => ?_⟩
      rotate_left
      rw [decide_eq_false (nc c' ec)]
      all_goals
        refine ⟨_, rfl, _, rfl, iteF ?_⟩
        refine heard_bad (v := v) rs.tabs (fun G1 eN t1 Qn E' r => ?_) (fun G2 h eN t2 hh => ?_)
        · have w1 := rs.w.gr ((Gr.start rs.pen rs.tabs).extN eN t1) rs.pen
          obtain ⟨dx1, tp1, hq1, htp1, pdq1⟩ := id w1
          refine ⟨_, rfl, _, rfl, q, dx1, _, rfl, hq1, q, es, xs, v, false, rfl, w1, ov.lt _ (Ext2.ofN eN), fun _ => r _ (Same.refl _), fun c' ec => ⟨fun _ => r _ (Same.refl _), fun n' m => absurd (List.mem_map.mpr ⟨_, m, rfl⟩) (nc c' ec)⟩⟩
        · refine ⟨_, rfl, by show 1 ≤ sizeLine; decide, fun u hu => ?_⟩
          have g2 := g.extN eN t2
          have su := Same.new (o := .lst [v]) hu
          refine ⟨h, u, [v], rfl, rfl, SqL.of (su _ _ hh), SqL.of upd_same, fun x hx => by rw [List.mem_singleton.mp hx]; exact ov.sm, _, rfl, iteF ?_⟩
          exact ⟨_, _, _, rfl, g2.same su⟩
    rintro σ' G ⟨y4, y6, y7, rfl, g⟩
    have rs7 := rs6.gr g
    replace k : ∀ H', Gr T3 c p (n + 10) G H' → Q (.bl true) H' := fun H' g' => k H' (g.trans g')
    clear g odd eL rs6
    refine ⟨_, rfl, _, _, rfl, .inl (SqL.of rs7.hl), fun O hO => ?_⟩
    have Op := rs7.pen.ne1 hO
    have Oc := rs7.pen.ne2 hO
    have s8 := Same.new (o := .lst xs) hO
    have rs8 := rs7.same s8
    have hO8 : upd G O (.lst xs) O = some (.lst xs) := upd_same
    have g8 := (Gr.start rs7.pen rs7.tabs).same s8
    refine ⟨_, rfl, _, rfl, _, xs.length, rfl, .inl ⟨_, SqL.of hO8, rfl⟩, c, p, (xs.length : Int), n, rfl, by omega, by omega, by omega, rs8.pen, fun r H9 r0 r1 pen9 x9 => ?_⟩
    have g9 : Gr T3 c p (n + 1) G H9 := g8.ink ⟨x9, pen9⟩
    have hO9 : H9 O = some (.lst xs) := x9 _ _ Op hO8
    have rs9 := rs7.gr g9
    obtain ⟨j, rfl⟩ : ∃ j : Nat, r = (j : Int) := ⟨r.toNat, by omega⟩
    have hj : j < es.length := by omega
    obtain ⟨t, et, pt⟩ := rs9.pd.2 j _ (List.getElem?_eq_getElem hj)
    clear rs8 s8 hO8 g8
    refine ⟨_, rfl, ?_⟩
    refine ⟨_, rfl, _, rfl, O, _, (j : Int), _, rfl, rfl, SqL.of hO9, atI_nat et, ?_⟩
    refine ⟨_, rfl, _, rfl, O, _, (j : Int), _, rfl, rfl, SqL.of hO9, atI_nat et, t, _, 0, _, rfl, rfl, SqT.of pt.1, rfl, ?_⟩
    refine ⟨_, rfl, _, rfl, O, _, (j : Int), _, rfl, rfl, SqL.of hO9, atI_nat et, t, _, 1, _, rfl, rfl, SqT.of pt.1, rfl, _, _, rfl, rfl, ?_⟩
    refine ⟨by show 2 ≤ sizeLine; decide, fun t2 ht2 => ⟨by show 2 ≤ sizeLine; decide, fun L3' hL3 => ?_⟩⟩
    have s10 := Same.trans (Same.new (o := .tup [.str ⟨#[es[j].1]⟩, .int (9 - es[j].2)]) ht2) (Same.new (o := .lst [.ref t, .ref t2]) hL3)
    have g9' := g9.same s10
    have e2 : upd (upd H9 t2 (.tup [.str ⟨#[es[j].1]⟩, .int (9 - es[j].2)])) L3' (.lst [.ref t, .ref t2]) t2 = some (.tup [.str ⟨#[es[j].1]⟩, .int (9 - es[j].2)]) := by
      rw [upd_ne (ne_of_none upd_same hL3)]; exact upd_same
    have L3p := (pen9.ext (Same.new (o := .tup [.str ⟨#[es[j].1]⟩, .int (9 - es[j].2)]) ht2)).ne1 hL3
    have t2p := pen9.ne1 ht2
    refine ⟨c, p, n + 1, by omega, g9'.pen, .inl ⟨L3', _, rfl, L3p, upd_same, by show 0 < 2; decide, by show 2 ≤ 1000; decide, fun v H10 hv pen10 x10 => ?_⟩⟩
    have g10 : Gr T3 c p (n + 2) G H10 := g9'.ink ⟨x10, pen10⟩
    have hO10 : H10 O = some (.lst xs) := x10 _ _ Op (s10 _ _ hO9)
    have rs10 := rs7.gr g10
    obtain ⟨tv, m', rfl, pv_⟩ : ∃ tv m', v = .ref tv ∧ PairAt H10 tv es[j].1 m' := by
      simp only [List.mem_cons, List.not_mem_nil, or_false] at hv
      rcases hv with rfl | rfl
      · have p1 := pt.same s10
        exact ⟨t, _, rfl, x10 _ _ (pen9.ext s10 |>.neO p1.1 fun _ z => nomatch z) p1.1, p1.2⟩
      · exact ⟨t2, 9 - es[j].2, rfl, x10 _ _ t2p e2, pt.2.1, by have := pt.2.2.2; omega, by have := pt.2.2.1; omega⟩
    clear e2 g9' s10 hv L3p t2p ht2 hL3 x10 pen10 hO9 rs9 pt et g9 x9 pen9
    refine ⟨_, rfl, _, rfl, O, xs, (j : Int), j, rfl, rfl, hO10, by unfold ixN; rw [if_pos r0, if_pos r1]; rfl, ?_⟩
    have g11 := g10.putNew (o := .lst (xs.set j (.ref tv))) hO hO10 Op Oc
    have rs11 := rs7.gr g11
    have hO11 : upd H10 O (.lst (xs.set j (.ref tv))) O = some (.lst (xs.set j (.ref tv))) := upd_same
    have pO : PairsD (upd H10 O (.lst (xs.set j (.ref tv)))) (xs.set j (.ref tv)) (es.set j (es[j].1, m')) := by
      have tvO : tv ≠ O := fun z => by
        have := pv_.1
        rw [z, hO10] at this; cases this
      exact rs11.pd.set j hj ⟨by rw [upd_ne tvO]; exact pv_.1, pv_.2⟩
    replace k : ∀ H', Gr T3 c p (n + 10) (upd H10 O (.lst (xs.set j (.ref tv)))) H' → Q (.bl true) H' := fun H' g' => k H' (g11.trans g')
    have fe := set_fst hj m'
    have le : (es.set j (es[j].1, m')).length = es.length := by rw [List.length_set]
    have dO := pO.abc
    generalize upd H10 O (.lst (xs.set j (.ref tv))) = G11 at rs11 hO11 pO k ⊢
    generalize es.set j (es[j].1, m') = fs at fe le pO dO
    generalize xs.set j (.ref tv) = ys at hO11 pO
    clear g10 g11 hO10 rs10 pv_ rs7
    refine ⟨_, rfl, l, xs, rfl, SqL.of rs11.hl, fun R hR => ?_⟩
    have sR := Same.new (o := .lst xs.reverse) hR
    have rs12 := rs11.same sR
    have g12 := (Gr.start rs11.pen rs11.tabs).same sR
    have eR : upd G11 R (.lst xs.reverse) R = some (.lst xs.reverse) := upd_same
    have eO := sR _ _ hO11
    have pO12 := pO.mono fun _ _ _ h => h.same sR
    replace k : ∀ H', Gr T3 c p (n + 10) (upd G11 R (.lst xs.reverse)) H' → Q (.bl true) H' := fun H' g' => k H' (g12.trans g')
    clear g12 sR rs11 pO hO11 hR
    generalize upd G11 R (.lst xs.reverse) = G12 at rs12 eR eO pO12 k ⊢
    obtain ⟨dx, tp, hq, htp, pdq⟩ := id rs12.w
    -- one == Weights.of(other)
    refine ⟨_, rfl, rfl, _, rfl, ?_⟩
    dsimp only [tNil]
    refine of_good (.inl eO) pO12 (by omega) (by omega) (by rw [fe]; exact dis) fun q2 G13 s13 w13 => ?_
    refine ⟨q, dx, _, .ref C, rfl, s13 _ _ hq, (let ⟨d2, t2', h2, _⟩ := w13; I.ty h2), nfSelf K C, q, es, xs, .ref q2, rfl, rs12.w.same s13, .inl ⟨q2, fs, ys, rfl, w13, _, rfl, ?_⟩⟩
    refine ⟨_, rfl, _, rfl, _, _, .lst (SqL.of (s13 _ _ eO)) (dpAllPairs (pO12.mono fun _ _ _ h => h.same s13)), .lst (SqL.of (s13 _ _ rs12.hl)) (dpAllPairs (rs12.pd.mono fun _ _ _ h => h.same s13)), shapedL dO, shapedL dabc, rfl, _, rfl, ?_⟩
    rw [eqvL, show (!decide (V.bl (decide (es = fs)) = V.bl (decide (fs = es)))) = false from by rw [show decide (es = fs) = decide (fs = es) from decide_eq_decide.mpr eq_comm, eqSame]; rfl]
    refine iteF ?_
    have rs13 := rs12.same s13
    have g13 := (Gr.start rs12.pen rs12.tabs).same s13
    have eR13 := s13 _ _ eR
    replace k : ∀ H', Gr T3 c p (n + 10) G13 H' → Q (.bl true) H' := fun H' g' => k H' (g13.trans g')
    clear g13 s13 w13 rs12 eR eO pO12 hq htp pdq
    obtain ⟨dx, tp, hq, htp, pdq⟩ := id rs13.w
    -- one == Weights.of(tuple(turned))
    refine ⟨_, rfl, rfl, _, rfl, R, xs.reverse, rfl, .inl ⟨SqL.of eR13, fun u hu => ?_⟩⟩
    dsimp only [tNil]
    have su := Same.new (o := .tup xs.reverse) hu
    have frv : (es.reverse.map (·.1)).Nodup := by rw [List.map_reverse]; exact List.pairwise_reverse.mpr (dis.imp fun h => h.symm)
    refine of_good (.inr upd_same) (rs13.pd.rev.mono fun _ _ _ h => h.same su) (by rw [List.length_reverse]; exact l1) (by rw [List.length_reverse]; exact l4) frv fun q2 G14 s14 w14 => ?_
    have s14' := Same.trans su s14
    refine ⟨q, dx, _, .ref C, rfl, s14' _ _ hq, (let ⟨d2, t2', h2, _⟩ := w14; I.ty h2), nfSelf K C, q, es, xs, .ref q2, rfl, rs13.w.same s14', .inl ⟨q2, es.reverse, xs.reverse, rfl, w14, _, rfl, ?_⟩⟩
    refine ⟨_, rfl, _, rfl, _, _, .lst (SqL.of (s14' _ _ eR13)) (dpAllPairs (rs13.pd.rev.mono fun _ _ _ h => h.same s14')), .lst (SqL.of (s14' _ _ rs13.hl)) (dpAllPairs (rs13.pd.mono fun _ _ _ h => h.same s14')), shapedL (fun e he => dabc e (List.mem_reverse.mp he)), shapedL dabc, rfl, _, rfl, ?_⟩
    rw [eqvL, show (!decide (V.bl (decide (es = es.reverse)) = V.bl (decide (es.reverse = es)))) = false from by rw [show decide (es = es.reverse) = decide (es.reverse = es) from decide_eq_decide.mpr eq_comm, eqSame]; rfl]
    refine iteF ?_
    have rs14 := rs13.same s14'
    have g14 := (Gr.start rs13.pen rs13.tabs).same s14'
    replace k : ∀ H', Gr T3 c p (n + 10) G14 H' → Q (.bl true) H' := fun H' g' => k H' (g14.trans g')
    clear g14 s14 s14' w14 rs13 eR13 hq htp pdq su hu
    obtain ⟨dx, tp, hq, htp, pdq⟩ := id rs14.w
    refine ⟨_, rfl, _, rfl, q, dx, _, .type "list", rfl, hq, .base (.lst rs14.hl), nfL, q, es, xs, .ref l, rfl, rs14.w, .inr ⟨⟨_, .base (.lst rs14.hl), kL⟩, _, rfl, ?_⟩⟩
    refine ⟨_, rfl, iteT ?_⟩
    refine ⟨_, rfl, rfl, _, rfl, l, xs, rfl, .inl ⟨SqL.of rs14.hl, fun u hu => ?_⟩⟩
    dsimp only [tNil]
    have su := Same.new (o := .tup xs) hu
    refine of_good (.inr upd_same) (rs14.pd.mono fun _ _ _ h => h.same su) l1 l4 dis fun q2 G15 s15 w15 => ?_
    have s15' := Same.trans su s15
    refine ⟨q, dx, _, .ref C, rfl, s15' _ _ hq, (let ⟨d2, t2', h2, _⟩ := w15; I.ty h2), nfSelf K C, q, es, xs, .ref q2, rfl, rs14.w.same s15', .inl ⟨q2, es, xs, rfl, w15, _, rfl, ?_⟩⟩
    rw [decide_eq_true rfl]
    exact k _ (((Gr.start rs14.pen rs14.tabs).same s15').mono (by omega))
end
end Kx
set_option Elab.async false
set_option maxRecDepth 100000
set_option autoImplicit false
/-! list(d), list(d.values()) -/
namespace Sd
open PySem PySem.Spec PyProof.Rows L2 LiI PySem.W
section
variable {X : Cx} {e : Expr} {te : TE} {p apos cpos pos : Pos}
theorem vals_ix : ∀ {xs : List V} {us : List Value}, xs.length = us.length → (∀ (i : Nat) (x : V) (u : Value), xs[i]? = some x → us[i]? = some u → RelV x u) → Vals xs us
  | [], [], _, _ => .nil
  | [], _ :: _, h, _ => by cases h
  | _ :: _, [], h, _ => by cases h
  | x :: xs, u :: us, h, k => .cons (k 0 x u rfl rfl) (vals_ix (Nat.succ.inj h) fun i y v h1 h2 => k (i + 1) y v (by simpa using h1) (by simpa using h2))
theorem kv_get {kvs : List (Key × V)} {vs : List (Key × Value)} (kv : KV kvs vs) {i : Nat} {k : Key} {x : Value} (h : vs[i]? = some (k, x)) : ∃ y, kvs[i]? = some (k, y) ∧ RelV y x := by
  unfold KV at kv
  induction kv generalizing i with
  | nil => simp at h
  | @cons a b as bs hab _ ih =>
    obtain ⟨h1, h2⟩ := hab
    cases i with
    | zero =>
      have e : b = (k, x) := by simpa using h
      subst e
      obtain ⟨a1, a2⟩ := a
      exact ⟨a2, by rw [show a1 = k from h1]; rfl, h2⟩
    | succ i => exact ih (by simpa using h)
/-- list(d) -/
def rKeysL : List V → Hp → VK → Prop := fun xs H Q => ∃ (d : Addr) (kvs : List (Key × V)), xs = [.ref d] ∧ H d = some (.dK kvs) ∧ ∀ l, H l = none → Q (.ref l) (upd H l (.lst (kvs.map fun kv => kV kv.1)))
theorem call_keysL (hc : X.calm = true) : CallR X (.type "list") rKeysL := by
  intro pins s σ H xs us Q I r h
  obtain ⟨d, kvs, rfl, hd, q⟩ := h
  obtain ⟨u, rfl, rx⟩ := vals1 r
  cases rx
  obtain ⟨hz, hs0, vs, kv, hdo⟩ := I.hok d _ hd
  obtain ⟨ep, hat⟩ := hdo.dictAt
  have lk : kvs.length = vs.length := Paired.length kv
  refine kdl_call (kdl_dict (knd := mixKind X.prog X.w) hs0) (I.ok.hd hc) hat (by omega) fun h' tk acc c hk hS hacc => ?_
  refine ⟨.ref s.heap.objs.size, _, I.laid (t' := tk) hk (Nat.le_refl _) (show ObjOk X.prog X.w _ h' _ (.lst (kvs.map fun kv => kV kv.1)) from ⟨by rw [List.length_map]; omega, acc.toList, c, ?_, by rw [Array.toArray_toList]; exact hS⟩), rfl, q _ (I.hok.fresh (Nat.le_refl _))⟩
  refine vals_ix (by rw [List.length_map]; have h1 := hacc.1; have h2 : acc.toList.length = acc.size := Array.length_toList; omega) fun i x v h1 h2 => ?_
  obtain ⟨k, y, h3, h4⟩ := hacc.2 i v (by simpa using h2)
  obtain ⟨z, h5, _⟩ := kv_get kv h3
  rw [List.getElem?_map, h5] at h1
  cases h1
  exact relV_key (show keyIs k v = true from h4)
/-- list(d.values()) -/
def rValsL : V → Hp → VK → Prop := fun x H Q => ∃ (d : Addr) (kvs : List (Key × V)), x = .ref d ∧ H d = some (.dK kvs) ∧ ∀ l H', (∀ b o, H b = some o → H' b = some o) → H' l = some (.lst (kvs.map (·.2))) → Q (.ref l) H'
def tListVals (te : TE) : TE := fun σ H Q => te σ H fun x H1 => rValsL x H1 Q
theorem pe_listVals (hc : X.calm = true) (he : PE X e te) (hg : Gl X "list") (hm : X.mg "list" = none) (hv : bootBuiltins "list" = some (.type "list")) (hbase : attributeBase e "values" X.env (eval e X.env) = eval e X.env := by rfl) (hline : (apos.endLine == cpos.line) = true := by rfl)
    (hs : starEach [.Call (.Attribute e "values" apos) [] [] cpos] X.env = (false, eval (.Call (.Attribute e "values" apos) [] [] cpos) X.env) :: starEach [] X.env := by rfl) :
    PE X (.Call (.Name "list" p) [.Call (.Attribute e "values" apos) [] [] cpos] [] pos) (tListVals te) := by
  refine ⟨fun pins s σ H Q I hq => ?_⟩
  refine wpAny_Call_Name_kw (ld_blt I hg hm hv ?_)
  refine PyProof.Rows.callWith_type1 ?_ hs rfl
  rw [hs]
  show wpAny _ _ (spliced ((false, eval (.Call (.Attribute e "values" apos) [] [] cpos) X.env) :: backTo pos (starEach [] X.env))) _ _ s
  refine Calls.spliced_cons ?_
  refine wpAny_Call_method (T := "dict") (id := "dict.values") hbase rfl hline F.plainAttrs_dict F.slot_dict_values F.type_dict_values (thn (he.run pins s σ H _ I hq) fun u s1 ⟨x, H1, I1, rx, d, kvs, ex, hd, q⟩ => ?_)
  subst ex
  obtain rfl : u = Value.ref d := rx
  obtain ⟨hz, hs0, vs, kv, hdo⟩ := I1.hok d _ hd
  obtain ⟨ep, hat⟩ := hdo.dictAt
  have lk : kvs.length = vs.length := Paired.length kv
  have I2 : Inv X pins σ H1 { s1 with heap := s1.heap.push { cls := .type "dict_values", data := .fields #[.ref d] } } := I1.kept (t' := s1.toks) fun b ob q => Heap.get?_push_of_some _ q
  refine ⟨hdo.typeIs, hdo.mapOf.noDict, ?_⟩
  show wpAny _ _ (callWith cpos (.builtin "dict.values") [.ref d] [] []) _ X.xe s1
  refine method_meetsIn F.slot_dict_values F.entry_dict_values rfl (PySem.evalArgs_none ⟨rfl, hdo.typeIs, F.args_dict_values_1 _, _, meets_dict_values (mixKind X.prog X.w) d hs0, ⟨vs, hdo⟩, ?_⟩)
  refine Calls.spliced_nil ?_
  refine kdl_call (kdl_values (knd := mixKind X.prog X.w) (kvs := vs) (ep := ep)) (I1.ok.hd hc) ⟨⟨_, Heap.get?_push_size _ rfl, rfl, rfl⟩, hat.push _⟩ (by omega) fun h' tk acc c hk hS hacc => ?_
  refine ⟨.ref _, _, I2.laid (t' := tk) hk (Nat.le_refl _) (show ObjOk X.prog X.w _ h' _ (.lst (kvs.map (·.2))) from ⟨by rw [List.length_map]; omega, acc.toList, c, ?_, by rw [Array.toArray_toList]; exact hS⟩), rfl, q _ _ (fun b o e => by rw [upd_ne (ne_of_none e (I2.hok.fresh (Nat.le_refl _)))]; exact e) upd_same⟩
  refine vals_ix (by rw [List.length_map]; have h1 := hacc.1; have h2 : acc.toList.length = acc.size := Array.length_toList; omega) fun i x v h1 h2 => ?_
  obtain ⟨k, h3⟩ := hacc.2 i v (by simpa using h2)
  obtain ⟨z, h5, h6⟩ := kv_get kv h3
  rw [List.getElem?_map, h5] at h1
  cases h1
  exact h6
end
end Sd
set_option Elab.async false
set_option maxRecDepth 100000
set_option autoImplicit false
/-! names as dicts of letters -/
namespace Kx
open PySem L2 PySem.Spec PyProof.Rows Rg Er Ru LamX
def ky (c : Nat) : Key := .inr ⟨#[c]⟩
theorem ky_inj {a b : Nat} (h : ky a = ky b) : a = b := by
  have h1 : (⟨#[a]⟩ : Str) = ⟨#[b]⟩ := Sum.inr.inj h
  have := congrArg (fun s : Str => s.cps.toList) h1
  simpa using this
def kvZ (ps : List (Nat × Nat)) : List (Key × V) := ps.map fun e => (ky e.1, sg e.2)
theorem kvZ_keys (ps : List (Nat × Nat)) : (kvZ ps).map (·.1) = (ps.map (·.1)).map ky := by unfold kvZ; rw [List.map_map, List.map_map]; rfl
theorem nd_ky {cs : List Nat} (h : cs.Nodup) : (cs.map ky).Nodup := by
  rw [List.Nodup, List.pairwise_map]
  exact List.Pairwise.imp (fun {a b} ne e => ne (ky_inj e)) h
theorem kvZ_val {ps : List (Nat × Nat)} (nd : (ps.map (·.1)).Nodup) {c d : Nat} (h : (c, d) ∈ ps) : valV (kvZ ps) (ky c) = some (sg d) := by
  have k := val_nodup (kvs := kvZ ps) (by rw [kvZ_keys]; exact nd_ky nd) (ky c, sg d) (List.mem_map.mpr ⟨(c, d), h, rfl⟩)
  exact k
theorem kvZ_none {ps : List (Nat × Nat)} {c : Nat} (h : c ∉ ps.map (·.1)) : valV (kvZ ps) (ky c) = none := by
  cases e : valV (kvZ ps) (ky c) with
  | none => rfl
  | some v =>
    have k := valV_in e
    rw [kvZ_keys] at k
    obtain ⟨x, hx, ex⟩ := List.mem_map.mp k
    rw [ky_inj ex] at hx
    exact absurd hx h
theorem kvZ_put {ps : List (Nat × Nat)} {c d : Nat} (h : c ∉ ps.map (·.1)) : putK (kvZ ps) (ky c) (sg d) = kvZ (ps ++ [(c, d)]) := by
  rw [putK_new _ (kvZ_none h)]
  unfold kvZ
  rw [List.map_append]
  rfl
theorem merge_app : ∀ (more acc : List (Key × V)), ((acc ++ more).map (·.1)).Nodup → mergeK acc more = acc ++ more
  | [], acc, _ => by rw [List.append_nil]; rfl
  | (k, v) :: r, acc, nd => by
    have e : valV acc k = none := by
      cases e : valV acc k with
      | none => rfl
      | some x =>
        have m := valV_in e
        rw [List.map_append, List.map_cons] at nd
        have := (List.pairwise_append.mp nd).2.2 k m k List.mem_cons_self
        exact absurd rfl this
    show mergeK (putK acc k v) r = _
    rw [putK_new v e, merge_app r (acc ++ [(k, v)]) (by rw [List.append_assoc]; exact nd), List.append_assoc]
    rfl
theorem merge_self {kvs : List (Key × V)} (nd : (kvs.map (·.1)).Nodup) : mergeK [] kvs = kvs := by rw [merge_app kvs [] (by simpa using nd)]; rfl
/-! ### the letters that are given -/
def lt (b i : Nat) : Nat := 97 + (b + 5 * i) % 26
theorem abc_ix : ∀ m, m < 26 → abc.cps.toList[m]? = some (97 + m) := by decide +kernel
theorem lt_ix (b i : Nat) : abc.cps.toList[(b + 5 * i) % 26]? = some (lt b i) := abc_ix _ (Nat.mod_lt _ (by decide))
theorem lt_abc (b i : Nat) : lt b i ∈ abc.cps.toList := List.mem_of_getElem? (lt_ix b i)
theorem lt_inj {b i j : Nat} (hb : b < 26) (hi : i < 5) (hj : j < 5) (h : lt b i = lt b j) : i = j := by
  unfold lt at h
  omega
def psN (cs : List Nat) (b : Nat) : List (Nat × Nat) := (List.range cs.length).map fun i => (cs.getD i 0, lt b i)
theorem psN_fst (cs : List Nat) (b : Nat) : (psN cs b).map (·.1) = cs := by
  unfold psN
  rw [List.map_map]
  refine List.ext_getElem (by simp) fun i h1 h2 => ?_
  simp [List.getD_eq_getElem?_getD, List.getElem?_eq_getElem h2]
theorem psN_snd (cs : List Nat) (b : Nat) : (psN cs b).map (·.2) = (List.range cs.length).map (lt b) := by
  unfold psN
  rw [List.map_map]
  rfl
theorem psN_nd {cs : List Nat} {b : Nat} (hb : b < 26) (l : cs.length ≤ 4) : ((psN cs b).map (·.2)).Nodup := by
  rw [psN_snd, List.Nodup, List.pairwise_map]
  refine List.Pairwise.imp_of_mem (fun {i j} hi hj ne e => ne ?_) (List.nodup_range (n := cs.length))
  exact lt_inj hb (by have := List.mem_range.mp hi; omega) (by have := List.mem_range.mp hj; omega) e
theorem psN_abc {cs : List Nat} {b : Nat} : ∀ e ∈ psN cs b, e.2 ∈ abc.cps.toList := fun e he => by
  obtain ⟨i, _, rfl⟩ := List.mem_map.mp he
  exact lt_abc b i
theorem psN_len (cs : List Nat) (b : Nat) : (psN cs b).length = cs.length := by unfold psN; simp
theorem psN_mem {cs : List Nat} {b i : Nat} (h : i < cs.length) : (cs[i], lt b i) ∈ psN cs b := List.mem_map.mpr ⟨i, List.mem_range.mpr h, by rw [List.getD_eq_getElem?_getD, List.getElem?_eq_getElem h]; rfl⟩
/-! ### what new_letters makes of them -/
theorem ltx_same {K : PySem.W.Frag} {H : Hp} {d : Nat} (h : d ∈ abc.cps.toList) : LtX K H (sg d) true := ltx_sg h
theorem newLC_good {K : PySem.W.Frag} {H : Hp} {cs : List Nat} {d : Addr} {ps : List (Nat × Nat)} {bad : Hp → Prop} {good : List Nat → Hp → Prop} (hd : H d = some (.dK (kvZ ps))) (fst : ps.map (·.1) = cs) (nd : cs.Nodup) (few : cs.length ≤ 4) (ab : ∀ e ∈ ps, e.2 ∈ abc.cps.toList)
    (nd2 : (ps.map (·.2)).Nodup) (k : ∀ H', Same H H' → good (ps.map (·.2)) H') : NewLC K H cs (.ref d) bad good := by
  have pl : ps.length = cs.length := by rw [← fst]; simp
  have gv : ∀ e ∈ ps, getV (kvZ ps) e.1 = sg e.2 := fun e he => by
    show (valV (kvZ ps) (ky e.1)).getD .non = _
    rw [kvZ_val (d := e.2) (by rw [fst]; exact nd) he]; rfl
  refine .inr ⟨d, kvZ ps, rfl, hd, by unfold kvZ; simp; omega, .inr ⟨by unfold kvZ; simp; omega, List.replicate cs.length true, by simp, fun i c hc H' s => ?_, .inr ⟨ps.map (·.2), by simp, ?_, fun n => absurd nd2 n, fun _ H' s => k H' s⟩⟩⟩
  · have hi := (List.getElem?_eq_some_iff.mp hc).1
    rw [show (List.replicate cs.length true).getD i false = true from by rw [List.getD_eq_getElem?_getD, List.getElem?_replicate, if_pos hi]; rfl]
    have mc : c ∈ ps.map (·.1) := by rw [fst]; exact List.mem_of_getElem? hc
    obtain ⟨e, he, rfl⟩ := List.mem_map.mp mc
    rw [gv e he]
    exact ltx_sg (ab e he)
  · rw [← fst, List.map_map, List.map_map]
    exact List.map_congr_left fun e he => gv e he
theorem newLC_len {K : PySem.W.Frag} {H : Hp} {cs : List Nat} {d : Addr} {kvs : List (Key × V)} {bad : Hp → Prop} {good : List Nat → Hp → Prop} (hd : H d = some (.dK kvs)) (few : kvs.length ≤ 1000) (ne : kvs.length ≠ cs.length) (k : bad H) : NewLC K H cs (.ref d) bad good := .inr ⟨d, kvs, rfl, hd, few, .inl ⟨ne, k⟩⟩
theorem newLC_bent {K : PySem.W.Frag} {H : Hp} {cs : List Nat} {d : Addr} {ps : List (Nat × Nat)} {bad : Hp → Prop} {good : List Nat → Hp → Prop} {last : Nat} {v : V} {b : Bool} (hd : H d = some (.dK (putK (kvZ ps) (ky last) v))) (fst : ps.map (·.1) = cs) (nd : cs.Nodup) (few : cs.length ≤ 4)
    (ab : ∀ e ∈ ps, e.2 ∈ abc.cps.toList) (mem : last ∈ cs) (lv : ∀ H', Same H H' → LtX K H' v b) (hb : b = true → ∃ c0 d0, v = sg d0 ∧ c0 ≠ last ∧ (c0, d0) ∈ ps) (k : ∀ H', Same H H' → bad H') : NewLC K H cs (.ref d) bad good := by
  have pl : ps.length = cs.length := by rw [← fst]; simp
  have ndp : (ps.map (·.1)).Nodup := by rw [fst]; exact nd
  have lenk : (putK (kvZ ps) (ky last) v).length = cs.length := by
    have m : last ∈ ps.map (·.1) := by rw [fst]; exact mem
    obtain ⟨e, he, rfl⟩ := List.mem_map.mp m
    have hv := kvZ_val (d := e.2) ndp he
    unfold putK
    rw [valV_any, hv]
    show (List.map _ (kvZ ps)).length = _
    unfold kvZ
    simp [pl]
  have gv : ∀ e ∈ ps, getV (putK (kvZ ps) (ky last) v) e.1 = if e.1 = last then v else sg e.2 := fun e he => by
    show (valV _ (ky e.1)).getD .non = _
    rw [valV_put, kvZ_val (d := e.2) ndp he]
    by_cases q : e.1 = last
    · rw [if_pos (by rw [q]), if_pos q]; rfl
    · rw [if_neg (fun z => q (ky_inj z)), if_neg q]; rfl
  refine .inr ⟨d, _, rfl, hd, by omega, .inr ⟨lenk, cs.map fun c => if c = last then b else true, by simp, fun i c hc H' s => ?_, ?_⟩⟩
  · rw [show (cs.map fun c => if c = last then b else true).getD i false = if c = last then b else true from by rw [List.getD_eq_getElem?_getD, List.getElem?_map, hc]; rfl]
    have mc : c ∈ ps.map (·.1) := by rw [fst]; exact List.mem_of_getElem? hc
    obtain ⟨e, he, rfl⟩ := List.mem_map.mp mc
    rw [gv e he]
    by_cases q : e.1 = last
    · rw [if_pos q, if_pos q]; exact lv H' s
    · rw [if_neg q, if_neg q]; exact ltx_sg (ab e he)
  · cases b with
    | false =>
      refine .inl ⟨?_, k⟩
      rw [List.all_eq_false]
      exact ⟨false, List.mem_map.mpr ⟨last, mem, by rw [if_pos rfl]⟩, by simp⟩
    | true =>
      obtain ⟨c0, d0, rfl, ne, m0⟩ := hb rfl
      refine .inr ⟨ps.map fun e => if e.1 = last then d0 else e.2, ?_, ?_, fun _ => k, fun n => ?_⟩
      · rw [List.all_eq_true]
        intro x hx
        obtain ⟨c, _, rfl⟩ := List.mem_map.mp hx
        split <;> rfl
      · rw [← fst, List.map_map, List.map_map]
        refine List.map_congr_left fun e he => ?_
        show getV _ e.1 = sg (if e.1 = last then d0 else e.2)
        rw [gv e he]
        by_cases q : e.1 = last
        · rw [if_pos q, if_pos q]
        · rw [if_neg q, if_neg q]
      · exfalso
        have m : last ∈ ps.map (·.1) := by rw [fst]; exact mem
        obtain ⟨e, he, el⟩ := List.mem_map.mp m
        obtain ⟨i, hi, ei⟩ := List.getElem_of_mem he
        obtain ⟨j, hj, ej⟩ := List.getElem_of_mem m0
        have hij : i ≠ j := fun z => by
          subst z
          rw [ei] at ej
          rw [ej] at el
          exact ne el
        have h1 : (ps.map fun e => if e.1 = last then d0 else e.2)[i]'(by simpa using hi) = d0 := by
          rw [List.getElem_map, ei, if_pos el]
        have h2 : (ps.map fun e => if e.1 = last then d0 else e.2)[j]'(by simpa using hj) = d0 := by
          rw [List.getElem_map, ej, if_neg ne]
        have pw := List.pairwise_iff_getElem.mp n
        rcases Nat.lt_or_gt_of_ne hij with q | q
        · exact pw i j _ _ q (h1.trans h2.symm)
        · exact pw j i _ _ q (h2.trans h1.symm)
end Kx
set_option Elab.async false
set_option maxRecDepth 100000
set_option autoImplicit false
set_option pp.maxSteps 400
set_option pp.deepTerms false
/-! _law_names_right -/
namespace Kx
open PySem L2 PySem.Spec PyProof.Rows Rg Er Ru LamX Tn ClX SkE LiI
abbrev sNames : Stmt := top 26
abbrev nNames : List Str := ["_law_pen_here", "_law_listed", "_law_one", "_law_letters", "_law_begin", "_law_names", "_law_k", "_law_pair", "_law_last", "_law_odd", "_law_bent", "_law_more", "_law_letter"]
theorem scNames : FnScope nNames ["_law_pen_here", "_law_listed"] (defScope sNames) := ⟨rfl, rfl, rfl, by decide +kernel, rfl, by decide +kernel, by decide +kernel⟩
theorem tabs_putO {T : List (Addr × Str)} {G : Hp} {a : Addr} {u o : HO} (h : Tabs T G) (e : G a = some u) (n1 : ∀ ps, u ≠ .tbl ps) (n2 : ∀ c q, u ≠ CodeO c q) : Tabs T (upd G a o) := fun t ht => by
  obtain ⟨ps, h1, h2, h3⟩ := h t ht
  have ne1 : t.1 ≠ a := fun z => by
    rw [z, e] at h1
    exact n1 _ (Option.some.inj h1)
  refine ⟨ps, by rw [upd_ne ne1]; exact h1, h2, fun pos cv q => ?_⟩
  obtain ⟨d, e1, e2⟩ := h3 pos cv q
  have ne2 : d ≠ a := fun z => by
    rw [z, e] at e2
    exact n2 _ _ (Option.some.inj e2)
  exact ⟨d, e1, by rw [upd_ne ne2]; exact e2⟩
/-- a dict that is new since H may change -/
theorem Gr.putD {T : List (Addr × Str)} {c p : Addr} {n : Nat} {H H1 : Hp} (g : Gr T c p n H H1) {q : Addr} {kvs : List (Key × V)} {o : HO} (new : H q = none) (e : H1 q = some (.dK kvs)) (nc : q ≠ c) : Gr T c p n H (upd H1 q o) := by
  have ne : q ≠ p := g.pen.neO e fun _ z => nomatch z
  exact ⟨fun b u n t z => by rw [upd_ne (ne_of_none z new)]; exact g.ext b u n t z, by
    obtain ⟨ns, a, k, h1, h2, h3⟩ := g.pen
    exact ⟨ns, a, k, by rw [upd_ne ne.symm]; exact h1, by rw [upd_ne nc.symm]; exact h2, h3⟩, tabs_putO g.tabs e (fun _ z => nomatch z) (fun c q z => by unfold CodeO at z; cases z)⟩
theorem PenAt.cellD {c p q : Addr} {n : Nat} {H : Hp} {kvs : List (Key × V)} (h : PenAt c n H p) (e : H q = some (.dK kvs)) : q ≠ c := by
  rintro rfl
  obtain ⟨ns, a, g, _, h2, _⟩ := h
  rw [h2] at e; cases e
/-- what stands while _law_names_right goes -/
structure RN (T3 : List (Addr × Str)) (C c p l q : Addr) (n : Nat) (xs : List V) (es : List (Nat × Int)) (G : Hp) : Prop where
  pen : PenAt c n G p
  tabs : Tabs T3 G
  w : Wts C G q es xs
  lp : l ≠ p
  hl : G l = some (.lst xs)
  pd : PairsD G xs es
theorem RN.gr {T3 : List (Addr × Str)} {C c p l q : Addr} {n m : Nat} {xs : List V} {es : List (Nat × Int)} {G G' : Hp} (h : RN T3 C c p l q n xs es G) (g : Gr T3 c p m G G') : RN T3 C c p l q m xs es G' :=
  ⟨g.pen, g.tabs, h.w.gr g h.pen, h.lp, g.at_ h.hl h.lp, h.pd.gr g h.pen⟩
theorem wf_no {m z : Str} {p : Addr} (h1 : (m == "_signs") = false) (h2 : (m == "pairs") = false) : (wf z p).lookup m = none := by
  unfold wf wf1
  simp only [lookup_putF]
  rw [if_neg (by simpa using h2), if_neg (by simpa using h1)]
  rfl
/-- v is no letter that may stand for la -/
def OddN (K : PySem.W.Frag) (p : Addr) (la : Nat) (ps : List (Nat × Nat)) (G : Hp) (v : V) : Prop := ∃ b : Bool, (∀ G', Ext2 p G G' → LtX K G' v b) ∧ (b = true → ∃ c0 d0, v = sg d0 ∧ c0 ≠ la ∧ (c0, d0) ∈ ps)
theorem OddN.ext {K : PySem.W.Frag} {p : Addr} {la : Nat} {ps : List (Nat × Nat)} {G G' : Hp} {v : V} (h : OddN K p la ps G v) (e : Ext2 p G G') : OddN K p la ps G' v := let ⟨b, h1, h2⟩ := h; ⟨b, fun G2 e2 => h1 G2 (e.trans e2), h2⟩
theorem oddNo {K : PySem.W.Frag} {p : Addr} {la : Nat} {ps : List (Nat × Nat)} {G : Hp} {v : V} (h : ∀ G', Ext2 p G G' → LtX K G' v false) : OddN K p la ps G v := ⟨false, h, fun z => nomatch z⟩
theorem inV_sg (c : Nat) (ds : List Nat) : inV (sg c) (ds.map sg) = decide (c ∈ ds) := by
  refine Bool.eq_iff_iff.mpr ?_
  unfold inV
  rw [List.any_eq_true, decide_eq_true_iff]
  constructor
  · rintro ⟨y, hy, e⟩
    obtain ⟨d, hd, rfl⟩ := List.mem_map.mp hy
    have e' : ((⟨#[d]⟩ : Str) == ⟨#[c]⟩) = true := e
    rw [beq_iff_eq] at e'
    have := congrArg (fun s : Str => s.cps.toList) e'
    have : d = c := by simpa using this
    rw [← this]; exact hd
  · intro h
    exact ⟨sg c, List.mem_map.mpr ⟨c, h, rfl⟩, by show ((⟨#[c]⟩ : Str) == ⟨#[c]⟩) = true; exact beq_self_eq_true _⟩
theorem flat_sg (ds : List Nat) : (ds.map sg).all flatV = true := by
  rw [List.all_eq_true]
  intro x hx
  obtain ⟨d, _, rfl⟩ := List.mem_map.mp hx
  rfl
theorem more_new {ps : List (Nat × Nat)} : valV (kvZ ps) (.inr ("more" : Str)) = none := by
  cases e : valV (kvZ ps) (.inr ("more" : Str)) with
  | none => rfl
  | some v =>
    have k := valV_in e
    rw [kvZ_keys] at k
    obtain ⟨x, hx, ex⟩ := List.mem_map.mp k
    have h1 : (⟨#[x]⟩ : Str) = "more" := Sum.inr.inj ex
    have := congrArg (fun s : Str => s.length) h1
    exact absurd this (by show ¬ (1 = 4); decide)
/-- v makes no names for cs -/
def OddR (K : PySem.W.Frag) (p : Addr) (cs : List Nat) (G : Hp) (v : V) : Prop := ∀ G', Ext2 p G G' → ∀ (bad : Hp → Prop) (good : List Nat → Hp → Prop), (∀ H', Same G' H' → bad H') → NewLC K G' cs v bad good
theorem oddNot {K : PySem.W.Frag} {p : Addr} {cs : List Nat} {G : Hp} {v : V} (h : ∀ G', Ext2 p G G' → NoOf K "dict" G' v) : OddR K p cs G v := fun G' e bad good k => .inl ⟨h G' e, k _ (Same.refl _)⟩
theorem oddLen {K : PySem.W.Frag} {p : Addr} {cs : List Nat} {G : Hp} {d : Addr} {kvs : List (Key × V)} (h : G d = some (.dK kvs)) (np : d ≠ p) (few : kvs.length ≤ 1000) (ne : kvs.length ≠ cs.length) : OddR K p cs G (.ref d) := fun G' e bad good k => newLC_len (e _ _ np (fun _ z => nomatch z) h) few ne (k _ (Same.refl _))
theorem oddOne {K : PySem.W.Frag} {p : Addr} {cs : List Nat} {G : Hp} {d : Addr} {v : V} (h : G d = some (.dK [(.inr ("" : Str), v)])) (np : d ≠ p) : OddR K p cs G (.ref d) := fun G' e bad good k => by
  have h' := e _ _ np (fun _ z => by cases z) h
  by_cases l : cs.length = 1
  · refine .inr ⟨d, _, rfl, h', by show 1 ≤ 1000; decide, .inr ⟨l.symm, [false], l.symm, fun i c hc H' s => ?_, .inl ⟨rfl, k⟩⟩⟩
    have i0 : i = 0 := by have := (List.getElem?_eq_some_iff.mp hc).1; omega
    subst i0
    have : getV [((.inr ("" : Str) : Key), v)] c = .non := by
      show (valV _ (ky c)).getD .non = _
      rw [valV_neg (fun z => by
        have h1 : ("" : Str) = ⟨#[c]⟩ := Sum.inr.inj z
        have := congrArg (fun s : Str => s.length) h1
        exact absurd this (by show ¬ (0 = 1); decide)), valV_nil]
      rfl
    rw [this]
    exact .inr ⟨rfl, _, .base .non, kit_ty (by decide +kernel)⟩
  · exact newLC_len h' (by show 1 ≤ 1000; decide) (fun z => l z.symm) (k _ (Same.refl _))
section
variable {P : Program} {w : World} {K : PySem.W.Frag} {mg : Str → Option Value} {base : Heap}
set_option maxHeartbeats 0 in
theorem ok_names {C CB f cd tab g f1 : Addr} {T3 : List (Addr × Str)} {cdg oc dV kV doc pm ct oc' kV' doc' pm' ct' : Value} {an od an' od' : Option Addr} {osl osl' : Array (Option Value)} {d1 : FuncData} (T : Txt mg) (mDict : mg "dict" = none) (S : WK P w K mg base C CB) (Hh : Hd K mg g cdg oc dV kV doc pm ct an od osl)
    (lkL : K.lookup f = some ⟨oc', od', .func (PySem.W.fnOf "_law_names_right" "_law_names_right" (defArgs sNames) (defBody sNames) (defScope sNames) .none kV' doc' pm' an' (.ref cd) ct'), osl'⟩) (hcL : PySem.W.codeIn K (.ref cd) "_law_names_right" = true) (TB : TabB base mg cd tab)
    (hT : (tab, lamQ "_law_names_right") ∈ T3) (hu : ∀ p ∈ T3, p.1 = tab → p.2 = lamQ "_law_names_right")
    (G1 : FnOk P w K mg base CX0 1 f1 d1 ["_law_pen_here", "_law_many"] spDraw) (m1 : mg "_law_draw" = some (.ref f1)) (k1 : PySem.W.keepIn K (.ref f1) = true) (b1 : L2.Binds K d1 ["_law_pen_here", "_law_many"] []) :
    FnG P w K mg base CX0 9 f (PySem.W.fnOf "_law_names_right" "_law_names_right" (defArgs sNames) (defBody sNames) (defScope sNames) .none kV' doc' pm' an' (.ref cd) ct') ["_law_pen_here", "_law_listed"] (spRight T3) := by
  refine fnG_of lkL hcL scNames (fun vs H Q E h => ?_) (fun A outer s H vs Q E hg hr h => ?_)
  · obtain ⟨c, p, l, n, xs, es, rfl, _⟩ := h
    rfl
  · obtain ⟨c, p, l, n, xs, es, rfl, nb, pen, lp, hl, pd, l1, l4, dis, tabs, k⟩ := h
    obtain ⟨M, gC, I, nfL, kL, kC, R, hear, rd, ⟨op_, og, oc1, oF⟩, _, _, _, _, _, _, _, ⟨rf_, rfd, rm, rF, rb⟩⟩ := S
    have nd := scNames.nd
    have hr1 := hr.mono (show 1 ≤ 8 by decide)
    have hr6 := hr.mono (show 6 ≤ 8 by decide)
    have hu0 := hu_of hr
    refine ⟨_, (pss_cons (ps_set (i := 2) nd rfl (.inr rfl) (pe_cmeth (pe_glob (v := .ref C) (by rfl) gC rfl) rd oc1 oF hr6 passesF (pa_cons (pv 1) pa_nil)))
      (pss_cons (ps_set (i := 3) nd rfl (.inl rfl) pe_str)
      (pss_cons (ps_set (i := 4) nd rfl (.inl rfl) (pe_call G1 hr1 (by rfl) m1 k1 b1 .nil pass0 (pa_cons (pv 0) (pa_cons pe_int pa_nil))))
      (pss_cons (ps_set (i := 5) nd rfl (.inr rfl) pe_dnewK)
      (pss_cons (ps_for PassesOwn.never rfl (pi_range1 (by rfl) T.range (pa_cons (bLen (by rfl) T.len (pv 1)) pa_nil)) (pg_name (i := 6) nd rfl (Or.inl rfl)) (pss_one (ps_dput hu0 (pv 5) (bIxT (bIx (pv 1) (pv 6)) pe_int) (bIxS (pv 3) (pe_op op_mod (bInt (by rfl) T.int (pe_op op_add (pv 4) (pe_op op_mul pe_int (pv 6)))) pe_int)) rfl)))
      (pss_cons (ps_if (pt_cmpR (op_neD hr.units) (pe_fld (pe_meth (pv 2) M.cl rm rF hr6 rb .nil passesF (pa_cons (pv 5) pa_nil)) rfl) (bTup (by rfl) T.tuple (pe_lc (own := [("_law_pair", 7)]) (g := gName 7) (tt := tYes) (te := tTup (tCons (tDGet (tVar 5) (tOp (rIxT K) (tVar 7) (tC (.int 0)))) (tCons (tOp (rIxT K) (tVar 7) (tC (.int 1))) tNil))) rfl nd (pi_list (pv 1)) (blkOk_by (own := [("_law_pair", 7)]) (N := nNames) (sc := defScope sNames) (by decide +kernel)) (fun _ _ _ _ _ => pg_name (i := 7) nd rfl (Or.inl rfl)) (fun _ _ _ _ _ => pts_nil) (fun _ _ _ _ _ => pe_tup (pa_cons (pe_dget hu0 (pv 5) (bIxT (pv 7) pe_int) (fun _ _ => rfl)) (pa_cons (bIxT (pv 7) pe_int) pa_nil))))) (nomark _)) (pss_one ps_never) pss_nil)
      (pss_cons (ps_if (pt_cmpR (op_neD hr.units) (pe_fld (pv 2) rfl) (bTup (by rfl) T.tuple (pv 1)) (nomark _)) (pss_one ps_never) pss_nil)
      (pss_cons (ps_set (i := 8) nd rfl (.inl rfl) (bIxT (bIx (pv 1) (pe_un un_neg pe_int)) pe_int))
      (pss_cons (ps_for PassesOwn.never rfl (pi_list (pe_lst (pa_cons pe_non (pa_cons pe_str (pa_cons pe_str (pa_cons pe_int (pa_cons pe_bl (pa_cons (pe_ifExp (pt_cmpR op_gt (bLen (by rfl) T.len (pv 1)) pe_int (nomark _)) (pe_dget hu0 (pv 5) (bIxT (bIx (pv 1) pe_int) pe_int) (fun _ _ => rfl)) pe_str) (pa_cons (pe_lst (pa_cons pe_str pa_nil)) pa_nil))))))))) (pg_name (i := 9) nd rfl (Or.inr rfl)) (pss_cons (ps_set (i := 10) nd rfl (.inr rfl) (pe_callTy (call_dictP rfl) (by rfl) mDict (by decide +kernel) (pa_cons (pe_listItems rfl (pv 5) (by rfl) T.list (by decide +kernel)) pa_nil)))
      (pss_cons (ps_dput hu0 (pv 10) (pv 8) (pv 9) rfl)
      (pss_one (ps_if (pt_cmpR (op_neS hr.units) (pe_hear (T := T3) (t := fun E => tMeth C "renamed" (spRenamed K C CB) [] E (tVar 2) (tCons (tVar 10) tNil)) hr hear Hh.hm Hh.hk Hh.lk Hh.hcg Hh.hb TB hT hu (by rfl) (lamS_by (by decide +kernel)) rfl (fun _ _ _ _ _ => rfl) (fun A' outer' s' H' E f' c' hr' => pe_meth (pv 2) M.cl rm rF hr' rb .nil (passes_call (takes_of (E := E) rfl rfl rfl rfl) fun _ _ _ _ h => h) (pa_cons (pv 10) pa_nil))) (pe_lst (pa_cons pe_str pa_nil)) (nomark _)) (pss_one ps_never) pss_nil)))))
      (pss_cons (ps_set (i := 11) nd rfl (.inr rfl) (pe_callTy (call_dictP rfl) (by rfl) mDict (by decide +kernel) (pa_cons (pe_listItems rfl (pv 5) (by rfl) T.list (by decide +kernel)) pa_nil)))
      (pss_cons (ps_dput hu0 (pv 11) pe_str (bIx (pe_lc (own := [("_law_letter", 12)]) (g := gName 12) (tt := tTest (tOp (rIn K true) (tVar 12) (Sd.tListVals (tVar 5)))) (te := tVar 12) rfl nd (pi_str (pv 3)) (blkOk_by (own := [("_law_letter", 12)]) (N := nNames) (sc := defScope sNames) (by decide +kernel)) (fun _ _ _ _ _ => pg_name (i := 12) nd rfl (Or.inl rfl)) (fun _ _ _ _ _ => pts_one (pt_cmpR op_notIn_seq (pv 12) (Sd.pe_listVals rfl (pv 5) (by rfl) T.list (by decide +kernel)) rfl)) (fun _ _ _ _ _ => pv 12)) pe_int) rfl)
      (pss_cons (ps_if (pt_cmpR (op_neS hr.units) (pe_hear (T := T3) (t := fun E => tMeth C "renamed" (spRenamed K C CB) [] E (tVar 2) (tCons (tVar 11) tNil)) hr hear Hh.hm Hh.hk Hh.lk Hh.hcg Hh.hb TB hT hu (by rfl) (lamS_by (by decide +kernel)) rfl (fun _ _ _ _ _ => rfl) (fun A' outer' s' H' E f' c' hr' => pe_meth (pv 2) M.cl rm rF hr' rb .nil (passes_call (takes_of (E := E) rfl rfl rfl rfl) fun _ _ _ _ h => h) (pa_cons (pv 11) pa_nil))) (pe_lst (pa_cons pe_str pa_nil)) (nomark _)) (pss_one ps_never) pss_nil)
      (pss_cons (ps_expr (pe_dpop1 (pv 5) (pv 8) ⟨rfl, rfl, rfl, rfl⟩))
      (pss_cons (ps_for PassesOwn.never rfl (pi_list (pe_lst (pa_cons (pv 5) (pa_cons pe_non (pa_cons (pe_callTy (Sd.call_keysL rfl) (by rfl) T.list (by decide +kernel) (pa_cons (pv 5) pa_nil)) (pa_cons pe_str (pa_cons (pe_disp (pps_cons pe_str pe_str pps_nil) (by rfl) (by rfl) (fun z => by cases z) (by decide)) pa_nil))))))) (pg_name (i := 9) nd rfl (Or.inr rfl)) (pss_one (ps_if (pt_cmpR (op_neS hr.units) (pe_hear (T := T3) (t := fun E => tMeth C "renamed" (spRenamed K C CB) [] E (tVar 2) (tCons (tVar 9) tNil)) hr hear Hh.hm Hh.hk Hh.lk Hh.hcg Hh.hb TB hT hu (by rfl) (lamS_by (by decide +kernel)) rfl (fun _ _ _ _ _ => rfl) (fun A' outer' s' H' E f' c' hr' => pe_meth (pv 2) M.cl rm rF hr' rb .nil (passes_call (takes_of (E := E) rfl rfl rfl rfl) fun _ _ _ _ h => h) (pa_cons (pv 9) pa_nil))) (pe_lst (pa_cons pe_str pa_nil)) (nomark _)) (pss_one ps_never) pss_nil)))
      (pss_one (ps_ret pe_bl)))))))))))))))), ?_⟩
    have al := pd.1
    have dabc := pd.abc
    have zl : (es.map (·.1)).length = es.length := by simp
    refine ⟨rfl, _, rfl, ?_⟩
    dsimp only [tNil]
    refine of_good (.inl hl) pd l1 l4 dis fun q H1 s1 w1 => ?_
    have g1 := (Gr.start pen tabs).same s1
    refine ⟨_, rfl, c, p, 26, n, rfl, by decide, by decide, by omega, g1.pen, fun b H2 b0 b26 pen2 x2 => ?_⟩
    have g2 : Gr T3 c p (n + 1) H H2 := g1.ink ⟨x2, pen2⟩
    have g12 : Gr T3 c p (n + 1) H1 H2 := (Gr.start g1.pen g1.tabs).ink ⟨x2, pen2⟩
    have rn2 : RN T3 C c p l q (n + 1) xs es H2 := ⟨pen2, g2.tabs, w1.gr g12 g1.pen, lp, g2.at_ hl lp, pd.gr g2 pen⟩
    replace k : ∀ H', Gr T3 c p (n + 10) H2 H' → Q (.bl true) H' := fun H' g => k H' (g2.trans g)
    obtain ⟨b, rfl⟩ : ∃ j : Nat, b = j := ⟨b.toNat, by omega⟩
    have hb : b < 26 := by omega
    clear g1 g2 g12 w1 s1 x2 pen2 hl pd pen tabs lp b0 b26
    refine fun d hd0 => ?_
    have dc := rn2.pen.ne2 hd0
    have g3 := (Gr.start rn2.pen rn2.tabs).same (Same.new (o := .dK []) hd0)
    have hlt := g3.at_ rn2.hl rn2.lp
    refine ⟨_, rfl, _, xs.length, rfl, .inl ⟨_, SqL.of hlt, rfl⟩, (xs.length : Int), rfl, by omega, by omega, ?_⟩
    refine for_it walk_range (fun i σ' G => ∃ y6, σ' = [some (.ref p), some (.ref l), some (.ref q), some (.str abc), some (.int b), some (.ref d), y6, none, none, none, none, none, none] ∧ Gr T3 c p (n + 1) H2 G ∧ G d = some (.dK (kvZ ((psN (es.map (·.1)) b).take i)))) ⟨_, rfl, g3, upd_same⟩ (fun _ _ _ _ _ => trivial) ?_ ?_
    · rintro i x σ' G G' hi ⟨y6, rfl, g, hd⟩ yy
      obtain ⟨e6, ex⟩ := yy
      subst e6
      subst ex
      have hi' : i < es.length := by omega
      have rn := rn2.gr g
      obtain ⟨t, et, pt⟩ := rn.pd.2 i _ (List.getElem?_eq_getElem hi')
      have ei : (es.map (·.1))[i]'(by omega) = es[i].1 := by simp
      have tl : ((psN (es.map (·.1)) b).take i).length = i := by rw [List.length_take, psN_len]; omega
      have pe : (psN (es.map (·.1)) b)[i]? = some (es[i].1, lt b i) := by
        unfold psN
        rw [List.getElem?_map, List.getElem?_range (by omega)]
        show some ((es.map (·.1)).getD i 0, lt b i) = _
        rw [getD_at (x := es[i].1) (by rw [List.getElem?_map, List.getElem?_eq_getElem hi']; rfl)]
      have new : es[i].1 ∉ ((psN (es.map (·.1)) b).take i).map (·.1) := fun m => by
        rw [List.map_take, psN_fst] at m
        obtain ⟨j, hj, ej⟩ := List.getElem_of_mem m
        rw [List.length_take] at hj
        rw [List.getElem_take] at ej
        have := List.pairwise_iff_getElem.mp dis j i (by omega) (by omega) (by omega)
        exact this (ej.trans ei.symm)
      refine ⟨_, rfl, _, rfl, _, rfl, _, _, rfl, rfl, .inl ⟨by decide, by decide⟩, _, _, rfl, rfl, .inl ⟨_, rfl, _, _, rfl, rfl, (show (0 : Int) < 26 by decide), ?_⟩⟩
      refine ⟨abc, _, lt b i, rfl, rfl, len_small (by decide), atI_int (by omega) ?_, ?_⟩
      · rw [show (((b : Int) + 5 * (0 + (i : Int))) % 26).toNat = (b + 5 * i) % 26 from by omega]
        exact lt_ix b i
      refine ⟨_, rfl, _, rfl, _, rfl, l, xs, _, _, rfl, rfl, SqL.of rn.hl, (by rw [Int.zero_add]; exact atI_nat et), t, _, 0, _, rfl, rfl, SqT.of pt.1, rfl, ?_⟩
      refine ⟨d, _, rfl, DPut.k (k := ky es[i].1) hd (by unfold kvZ; rw [List.length_map, tl, sizeLine_eq]; omega), ?_⟩
      refine ⟨_, rfl, g.putD hd0 hd dc, ?_⟩
      rw [upd_same, List.take_add_one, pe]
      exact congrArg (fun z => some (HO.dK z)) (kvZ_put new)
    rintro σ' G ⟨y6, rfl, g, hd⟩
    have tall : (psN (es.map (·.1)) b).take ((xs.length : Int)).toNat = psN (es.map (·.1)) b := List.take_of_length_le (by rw [psN_len]; omega)
    rw [tall] at hd
    have rn3 := rn2.gr g
    have dc3 := rn3.pen.cellD hd
    have gB := g
    have pf := psN_fst (es.map (·.1)) b
    have pab := psN_abc (cs := es.map (·.1)) (b := b)
    have pnd := psN_nd (cs := es.map (·.1)) hb (by omega)
    have psn := psN_snd (es.map (·.1)) b
    have pmem := fun (i : Nat) (h : i < (es.map (·.1)).length) => psN_mem (b := b) h
    generalize psN (es.map (·.1)) b = ps at hd pf pab pnd psn pmem
    have pl : ps.length = es.length := by rw [← zl, ← pf]; simp
    clear g tall g3 hlt
    have val : ∀ e ∈ ps, valV (kvZ ps) (ky e.1) = some (sg e.2) := fun e he => kvZ_val (by rw [pf]; exact dis) he
    obtain ⟨dx, tp, hq, htp, pdq⟩ := id rn3.w
    refine ⟨_, rfl, q, dx, _, rfl, hq, wf_no rfl rfl, _, rfl, q, es, xs, .ref d, rfl, rn3.w, l1, l4, newLC_good hd pf dis (by omega) pab pnd (fun H0 s0 a' xs' G1 s1 w' => ?_)⟩
    have s01 := Same.trans s0 s1
    have rn4 := rn3.gr ((Gr.start rn3.pen rn3.tabs).same s01)
    have hd4 := s01 _ _ hd
    obtain ⟨dx', tp', hq', htp', pdq'⟩ := id w'
    refine ⟨a', C, dx', _, _, rfl, hq', M.cl, M.n2, wf_pairs _ _, _, rfl, l, rfl, ⟨_, SqL.of rn4.hl⟩, fun D hD => ?_⟩
    have qz : ∀ i (h : i < es.length), ((ps.map (·.2)).zip (es.map (·.2)))[i]? = some (ps[i].2, es[i].2) := fun i h => by
      rw [List.getElem?_zip_eq_some]
      exact ⟨by rw [List.getElem?_map, List.getElem?_eq_getElem (by omega)]; rfl, by rw [List.getElem?_map, List.getElem?_eq_getElem h]; rfl⟩
    refine lcGen walk_list (fun i G2 acc => Same G1 G2 ∧ PairsD G2 acc (((ps.map (·.2)).zip (es.map (·.2))).take i)) (by rw [sizeLine_eq]; omega) ⟨Same.new hD, rfl, fun i e h => by simp at h⟩ (fun i G2 acc _ y => SqL.of (y.1 _ _ rn4.hl)) (fun _ _ _ _ y => y.1) ?_ ?_
    · rintro i x G2 acc Q' hi hDl hl' ⟨s2, pd2⟩ ⟨_, hx⟩ qq
      have hi' : i < es.length := by rw [← al]; exact hi
      obtain ⟨t, et, pt⟩ := rn4.pd.2 i _ (List.getElem?_eq_getElem hi')
      rw [hx] at et
      cases et
      have pt2 := pt.same s2
      have pe1 : ps[i].1 = es[i].1 := by
        have := congrArg (fun z => z[i]?) pf
        simp only [List.getElem?_map] at this
        rw [List.getElem?_eq_getElem (show i < ps.length by omega), List.getElem?_eq_getElem hi'] at this
        simpa using this
      have pm : (es[i].1, ps[i].2) ∈ ps := by rw [← pe1]; exact List.getElem_mem _
      refine ⟨_, rfl, _, rfl, t, _, 0, _, rfl, rfl, SqT.of pt2.1, rfl, d, _, rfl, val _ pm ▸ DGet.k (k := ky es[i].1) (s2 _ _ hd4), _, rfl, t, _, 1, _, rfl, rfl, SqT.of pt2.1, rfl, by show 2 ≤ sizeLine; decide, fun u hu => ?_⟩
      have su := Same.new (o := .tup [sg ps[i].2, .int es[i].2]) hu
      have uD : D ≠ u := ne_of_none hDl hu
      have hDl2 := su _ _ hDl
      refine qq _ _ hDl2 ⟨Same.putNew hD (Same.trans s2 su), ?_⟩
      rw [List.take_add_one, qz i hi']
      refine pd2.snoc (fun t' c' n' h => ?_) ⟨by rw [upd_ne uD.symm]; exact upd_same, pab (es[i].1, ps[i].2) pm, pt.2.2⟩
      have h4 := h.same su
      exact ⟨by rw [upd_ne (fun z => by
        have q := h4.1
        rw [z, hDl2] at q; cases q)]; exact h4.1, h4.2⟩
    intro G2 acc hDl hlen ⟨s2, pd2⟩
    have zlen : ((ps.map (·.2)).zip (es.map (·.2))).length = es.length := by simp; omega
    rw [show ((ps.map (·.2)).zip (es.map (·.2))).take xs.length = (ps.map (·.2)).zip (es.map (·.2)) from List.take_of_length_le (by omega)] at pd2
    refine ⟨D, acc, rfl, .inl ⟨SqL.of hDl, fun u hu => ?_⟩⟩
    have su := Same.new (o := .tup acc) hu
    have s3 := Same.trans s2 su
    have pd3 := pd2.mono fun _ _ _ h => h.same su
    have shz := shapedPairs pd2.abc
    refine ⟨_, _, dpPairs (s3 _ _ htp') (pdq'.mono fun _ _ _ h => h.same s3), dpPairs upd_same pd3, shz, shz, _, rfl, ?_⟩
    rw [eqvD, decide_eq_true rfl]
    have rn5 := rn4.gr ((Gr.start rn4.pen rn4.tabs).same s3)
    have hd5 := s3 _ _ hd4
    have g5 := (Gr.start rn3.pen rn3.tabs).same (Same.trans s01 s3)
    replace gB := gB.trans g5
    clear g5 rn4 hd4 htp' pdq' hq' w' pd2 pd3 hDl su s3 s2 s01 s0 s1 hq htp pdq hd rn3
    generalize upd G2 u (.tup acc) = G5 at rn5 hd5 gB ⊢
    obtain ⟨dx, tp, hq, htp, pdq⟩ := id rn5.w
    -- pairs != tuple(listed)
    refine iteF ⟨_, rfl, q, C, dx, _, _, rfl, hq, M.cl, M.n2, wf_pairs _ _, _, rfl, l, xs, rfl, .inl ⟨SqL.of rn5.hl, fun u2 hu2 => ?_⟩⟩
    have su := Same.new (o := .tup xs) hu2
    have shp := shapedPairs dabc
    refine ⟨_, _, dpPairs (su _ _ htp) (pdq.mono fun _ _ _ h => h.same su), dpPairs upd_same (rn5.pd.mono fun _ _ _ h => h.same su), shp, shp, _, rfl, ?_⟩
    rw [eqvD, decide_eq_true rfl]
    have rn6 := rn5.gr ((Gr.start rn5.pen rn5.tabs).same su)
    have hd6 := su _ _ hd5
    have g6 := (Gr.start rn5.pen rn5.tabs).same su
    replace gB := gB.trans g6
    generalize upd G5 u2 (.tup xs) = G6 at rn6 hd6 gB ⊢
    clear g6 su hq htp pdq rn5 hd5
    -- last
    have lx : 0 < xs.length := by omega
    have hl1 : es.length - 1 < es.length := by omega
    obtain ⟨t, et, pt⟩ := rn6.pd.2 (es.length - 1) _ (List.getElem?_eq_getElem hl1)
    have elast : atI xs (-1) = some (.ref t) := by
      unfold atI ixN
      rw [if_neg (by decide), if_pos (by omega), Option.bind_some, show ((-1 : Int) + (xs.length : Int)).toNat = es.length - 1 from by omega]
      exact et
    refine iteF ⟨_, rfl, _, rfl, l, xs, _, _, rfl, rfl, SqL.of rn6.hl, elast, t, _, 0, _, rfl, rfl, SqT.of pt.1, rfl, ?_⟩
    obtain ⟨la, hla⟩ : ∃ la, la = es[es.length - 1].1 := ⟨_, rfl⟩
    have lam : la ∈ es.map (·.1) := by rw [hla]; exact List.mem_map.mpr ⟨_, List.getElem_mem _, rfl⟩
    rw [← hla]
    -- the odd names
    refine ⟨_, rfl, _, xs.length, rfl, .inl ⟨_, SqL.of rn6.hl, rfl⟩, _, _, rfl, rfl, _, rfl, ?_⟩
    refine ite_two (H := G6) (fun v => OddN K p la ps G6 v) (fun Q' k' => ?_) (fun v6 p6 => ?_)
    · by_cases h1 : (1 : Int) < (xs.length : Nat)
      · rw [decide_eq_true h1]
        obtain ⟨t0, et0, pt0⟩ := rn6.pd.2 0 _ (List.getElem?_eq_getElem (show 0 < es.length by omega))
        have h2 : 1 < es.length := by omega
        have pe1 : ps[0].1 = es[0].1 := by
          have := congrArg (fun z => z[0]?) pf
          simp only [List.getElem?_map] at this
          rw [List.getElem?_eq_getElem (show 0 < ps.length by omega), List.getElem?_eq_getElem (show 0 < es.length by omega)] at this
          simpa using this
        have pm : (es[0].1, ps[0].2) ∈ ps := by rw [← pe1]; exact List.getElem_mem _
        refine iteT ⟨_, rfl, _, rfl, l, xs, ((0 : Nat) : Int), _, rfl, rfl, SqL.of rn6.hl, atI_nat et0, t0, _, 0, _, rfl, rfl, SqT.of pt0.1, rfl, d, _, rfl, val _ pm ▸ DGet.k (k := ky es[0].1) hd6, k' _ ⟨true, fun G' _ => ltx_sg (pab _ pm), fun _ => ⟨es[0].1, ps[0].2, rfl, fun z => ?_, pm⟩⟩⟩
        rw [hla] at z
        have := List.pairwise_iff_getElem.mp dis 0 (es.length - 1) (by omega) (by omega) (by omega)
        exact this (by simpa using z)
      · rw [decide_eq_false h1]
        exact iteF (k' _ (oddNo fun G' _ => .inl ⟨_, rfl, by decide, by decide +kernel⟩))
    refine ⟨by show 1 ≤ sizeLine; decide, fun b1' hb1 => ⟨by show 7 ≤ sizeLine; decide, fun L hL => ⟨L, rfl, ⟨_, SqL.of upd_same⟩, ?_⟩⟩⟩
    have u1 := Same.new (o := .lst [.str "a"]) hb1
    have bp1 := rn6.pen.ne1 hb1
    have Lp := (rn6.pen.ext u1).ne1 hL
    have u2 := Same.new (o := .lst [.non, .str "", .str "ab", .int 7, .bl true, v6, .ref b1']) hL
    have u12 := Same.trans u1 u2
    have eb : _ = some (HO.lst [.str "a"]) := u2 _ _ (upd_same (H := G6) (a := b1') (o := .lst [.str "a"]))
    have eL := (fun (A : Hp) => (upd_same : upd A L (.lst [.non, .str "", .str "ab", .int 7, .bl true, v6, .ref b1']) L = some (.lst [.non, .str "", .str "ab", .int 7, .bl true, v6, .ref b1']))) (upd G6 b1' (.lst [.str "a"]))
    have g7 := (Gr.start rn6.pen rn6.tabs).same u12
    have rn7 := rn6.gr g7
    have hd7 := u12 _ _ hd6
    have p7 := p6.ext g7.ext
    replace gB := gB.trans g7
    clear g7 u1 u2 u12 hb1 hL p6 pt et rn6 hd6
    generalize upd (upd G6 b1' _) L _ = G7 at eb eL rn7 hd7 p7 gB ⊢
    have odd : ∀ v ∈ [V.non, .str "", .str "ab", .int 7, .bl true, v6, .ref b1'], OddN K p la ps G7 v := by
      intro v hv
      simp only [List.mem_cons, List.not_mem_nil, or_false] at hv
      rcases hv with rfl | rfl | rfl | rfl | rfl | rfl | rfl
      · exact oddNo fun G' _ => .inr ⟨rfl, _, .base .non, kit_ty (by decide +kernel)⟩
      · exact oddNo fun G' _ => .inl ⟨_, rfl, by decide, by decide +kernel⟩
      · exact oddNo fun G' _ => .inl ⟨_, rfl, by decide, by decide +kernel⟩
      · exact oddNo fun G' _ => .inr ⟨rfl, _, .base (.int _), kit_ty (by decide +kernel)⟩
      · exact oddNo fun G' _ => .inr ⟨rfl, _, .base (.bl _), kit_ty (by decide +kernel)⟩
      · exact p7
      · exact oddNo fun G' e => .inr ⟨rfl, _, .base (.lst (e _ _ bp1 (fun _ z => nomatch z) eb)), kit_ty (by decide +kernel)⟩
    have lO : [V.non, .str "", .str "ab", .int 7, .bl true, v6, .ref b1'].length = 7 := rfl
    generalize [V.non, .str "", .str "ab", .int 7, .bl true, v6, .ref b1'] = OO at odd lO eL
    clear eb bp1 p7
    have kl : (kvZ ps).length = es.length := by unfold kvZ; simp [pl]
    have knd : ((kvZ ps).map (·.1)).Nodup := by rw [kvZ_keys, pf]; exact nd_ky dis
    refine for_it walk_list (fun i σ' G => ∃ y6 y9 y10, σ' = [some (.ref p), some (.ref l), some (.ref q), some (.str abc), some (.int b), some (.ref d), y6, none, some (sg la), y9, y10, none, none] ∧ Gr T3 c p (n + 1) G7 G) ⟨_, _, _, rfl, Gr.start rn7.pen rn7.tabs⟩ (fun i σ' G _ ⟨_, _, _, _, g⟩ => SqL.of (g.at_ eL Lp)) ?_ ?_
    · rintro i v σ' G G' hi ⟨y6, y9, y10, rfl, g⟩ ⟨rfl, hv⟩
      obtain ⟨bv, lv, hbv⟩ := (odd v (List.mem_of_getElem? hv)).ext g.ext
      have rn := rn7.gr g
      have hdG := g.at_ hd7 (rn7.pen.neO hd7 fun _ z => nomatch z)
      refine ⟨_, rfl, d, kvZ ps, rfl, hdG, fun G1 p1 ts ext hp1 hts hpts hl1 pr => ?_⟩
      refine ⟨p1, ts, kvZ ps, rfl, SqL.of hl1, pr.mono fun _ _ h => SqT.of h, fun e he => ?_⟩
      rw [merge_self knd]
      refine ⟨_, rfl, _, rfl, _, rfl, e, _, rfl, DPut.k (k := ky la) upd_same (by rw [kl, sizeLine_eq]; omega), ?_⟩
      rw [upd_upd]
      have s8 := Same.trans (show Same _ G1 from ext) (Same.new (o := .dK (putK (kvZ ps) (ky la) v)) he)
      have g8 := g.same s8
      have rn8 := rn7.gr g8
      have eb : upd G1 e (.dK (putK (kvZ ps) (ky la) v)) e = some (.dK (putK (kvZ ps) (ky la) v)) := upd_same
      have x8 : Ext2 p _ (upd G1 e (.dK (putK (kvZ ps) (ky la) v))) := Ext2.of (Same.ext1 p s8)
      generalize upd G1 e (.dK (putK (kvZ ps) (ky la) v)) = G8 at g8 rn8 eb x8 ⊢
      refine heard_bad (v := .str "names") rn8.tabs (fun G2 eN t2 Qn E' r => ?_) (fun G3 h eN t3 hh => ?_)
      · have rn9 := rn8.gr ((Gr.start rn8.pen rn8.tabs).extN eN t2)
        obtain ⟨dx1, tp1, hq1, htp1, pdq1⟩ := id rn9.w
        refine ⟨_, rfl, q, dx1, _, rfl, hq1, wf_no rfl rfl, _, rfl, q, es, xs, .ref e, rfl, rn9.w, l1, l4, newLC_bent (eN _ _ eb (fun _ z => nomatch z)) pf dis (by omega) pab lam (fun H' s => lv H' ((x8.trans (Ext2.ofN eN)).trans (Ext2.of (Same.ext1 p s)))) hbv fun H' s => r H' s⟩
      · refine ⟨by show 1 ≤ sizeLine; decide, fun u hu => ?_⟩
        have g9 := g8.extN eN t3
        have su := Same.new (o := .lst [.str "names"]) hu
        refine ⟨h, u, [.str "names"], rfl, rfl, SqL.of (su _ _ hh), SqL.of upd_same, fun x hx => by rw [List.mem_singleton.mp hx]; exact .inl rfl, _, rfl, iteF ?_⟩
        exact ⟨_, _, _, rfl, g9.same su⟩
    rintro σ' G ⟨y6, y9, y10, rfl, g⟩
    replace gB := gB.trans g
    have hdG := g.at_ hd7 (rn7.pen.neO hd7 fun _ z => nomatch z)
    have rn8 := rn7.gr g
    clear g rn7 hd7 odd eL lO Lp
    -- one name more
    refine ⟨_, rfl, d, kvZ ps, rfl, hdG, fun G1 p1 ts ext hp1 hts hpts hl1 pr => ?_⟩
    refine ⟨p1, ts, kvZ ps, rfl, SqL.of hl1, pr.mono fun _ _ h => SqT.of h, fun m hm => ?_⟩
    rw [merge_self knd]
    have s9 := Same.trans (show Same G G1 from ext) (Same.new (o := .dK (kvZ ps)) hm)
    have hm0 : G m = none := by
      cases z : G m with
      | none => rfl
      | some o => rw [ext _ _ z] at hm; cases hm
    have em : upd G1 m (.dK (kvZ ps)) m = some (.dK (kvZ ps)) := upd_same
    have hd9 := s9 _ _ hdG
    generalize upd G1 m (.dK (kvZ ps)) = G9 at s9 em hd9 ⊢
    clear pr hl1 hpts hts hp1 ext hm
    refine ⟨_, rfl, abc, rfl, fun D hD => ?_⟩
    have vals_eq : (kvZ ps).map (·.2) = (ps.map (·.2)).map sg := by unfold kvZ; rw [List.map_map, List.map_map]; rfl
    refine lcSel walk_str (fun i G' acc => Same G9 G' ∧ ((b + 20) % 26 < i → acc ≠ [])) (by rw [sizeLine_eq]; decide) ⟨Same.new hD, fun h => absurd h (Nat.not_lt_zero _)⟩ (fun _ _ _ _ _ => trivial) (fun _ _ _ _ y => y.1) ?_ ?_
    · rintro i x G' acc Q' Qf hi hDl hl' ⟨s10, ne⟩ ⟨_, c', hc', rfl⟩ qq qf
      refine ⟨_, rfl, _, rfl, d, kvZ ps, rfl, s10 _ _ hd9, fun L' G'' ext hL' => ?_⟩
      have sx : Same G' G'' := ext
      rw [vals_eq] at hL'
      refine ⟨L', _, rfl, .inl (SqL.of hL'), rfl, flat_sg _, _, rfl, ?_⟩
      rw [show (if true = true then !inV (V.str ⟨#[c']⟩) ((ps.map (·.2)).map sg) else inV (V.str ⟨#[c']⟩) ((ps.map (·.2)).map sg)) = !decide (c' ∈ ps.map (·.2)) from by rw [if_pos rfl]; exact congrArg _ (inV_sg c' _)]
      have hDl2 := sx _ _ hDl
      have i26 : i < 26 := hi
      have ec : c' = 97 + i := by
        have h1 := abc_ix i i26
        have h2 : abc.cps.toList[i]? = some c' := by simpa using hc'
        rw [h1] at h2
        exact (Option.some.inj h2).symm
      by_cases hm : c' ∈ ps.map (·.2)
      · rw [decide_eq_true hm]
        refine iteF (qf G'' hDl2 ⟨Same.trans s10 sx, fun h => ?_⟩)
        by_cases hij : (b + 20) % 26 < i
        · exact ne hij
        · exfalso
          have e1 : i = (b + 20) % 26 := by omega
          rw [psn] at hm
          obtain ⟨j, hj, ej⟩ := List.mem_map.mp hm
          have hj' := List.mem_range.mp hj
          have : lt b j = lt b 4 := by
            rw [ej, ec, e1]
            rfl
          have := lt_inj hb (by omega) (by decide) this
          omega
      · rw [decide_eq_false hm]
        exact iteT ⟨_, rfl, qq _ G'' hDl2 ⟨Same.putNew hD (Same.trans s10 sx), fun _ h => by simp at h⟩⟩
    intro G10 acc hDl hlen ⟨s10, ne⟩
    have nacc := ne (show (b + 20) % 26 < 26 from Nat.mod_lt _ (by decide))
    obtain ⟨v0, r0, rfl⟩ : ∃ v0 r0, acc = v0 :: r0 := by
      cases acc with
      | nil => exact absurd rfl nacc
      | cons v0 r0 => exact ⟨v0, r0, rfl⟩
    refine ⟨D, _, ((0 : Nat) : Int), v0, rfl, rfl, SqL.of hDl, atI_nat rfl, _, rfl, m, _, rfl, DPut.k (k := .inr ("more" : Str)) (s10 _ _ em) (by rw [kl, sizeLine_eq]; omega), ?_⟩
    rw [putK_new v0 more_new]
    have s11 : Same G (upd G10 m (.dK (kvZ ps ++ [(.inr ("more" : Str), v0)]))) := Same.putNew hm0 (Same.trans s9 s10)
    have em11 : upd G10 m (.dK (kvZ ps ++ [(.inr ("more" : Str), v0)])) m = some (.dK (kvZ ps ++ [(.inr ("more" : Str), v0)])) := upd_same
    replace gB := gB.same s11
    have rn11 := rn8.gr ((Gr.start rn8.pen rn8.tabs).same s11)
    have hd11 := s11 _ _ hdG
    have kl11 : (kvZ ps ++ [((.inr ("more" : Str) : Key), v0)]).length = es.length + 1 := by rw [List.length_append, kl]; rfl
    generalize upd G10 m (.dK (kvZ ps ++ [(.inr ("more" : Str), v0)])) = G11 at s11 em11 rn11 hd11 gB ⊢
    clear s11 s10 s9 hDl hlen nacc ne em hd9 rn8 hdG hm0 hD
    refine heard_bad (v := .str "names") rn11.tabs (fun G2 eN t2 Qn E' r => ?_) (fun G12 h eN t3 hh => ?_)
    · have rn9 := rn11.gr ((Gr.start rn11.pen rn11.tabs).extN eN t2)
      obtain ⟨dx1, tp1, hq1, htp1, pdq1⟩ := id rn9.w
      exact ⟨_, rfl, q, dx1, _, rfl, hq1, wf_no rfl rfl, _, rfl, q, es, xs, .ref m, rfl, rn9.w, l1, l4, newLC_len (eN _ _ em11 (fun _ z => nomatch z)) (by rw [kl11]; omega) (by rw [kl11, zl]; omega) (r _ (Same.refl _))⟩
    refine ⟨by show 1 ≤ sizeLine; decide, fun u hu => ?_⟩
    have g12 := (Gr.start rn11.pen rn11.tabs).extN eN t3
    have su := Same.new (o := .lst [.str "names"]) hu
    refine ⟨h, u, [.str "names"], rfl, rfl, SqL.of (su _ _ hh), SqL.of upd_same, fun x hx => by rw [List.mem_singleton.mp hx]; exact .inl rfl, _, rfl, iteF ?_⟩
    have g13 := g12.same su
    replace gB := gB.trans g13
    have hd13 := g13.at_ hd11 (rn11.pen.neO hd11 fun _ z => nomatch z)
    clear g12 g13 rn11 hd11 em11 eN t3 hh
    generalize upd G12 u (.lst [.str "names"]) = G13 at gB hd13 su ⊢
    clear su
    -- names.pop(last)
    obtain ⟨dl, hdl⟩ : ∃ dl, (la, dl) ∈ ps := by
      have m := lam
      rw [← pf] at m
      obtain ⟨e, he, rfl⟩ := List.mem_map.mp m
      exact ⟨e.2, he⟩
    refine ⟨_, rfl, d, rfl, .inl ⟨kvZ ps, .inl hd13⟩, _, rfl, kvZ ps, ky la, sg dl, hd13, rfl, val _ hdl, ?_⟩
    have dlen : (dropK (kvZ ps) (ky la)).length + 1 = es.length := by
      rw [← kl]
      exact dropK_len knd (valV_in (val _ hdl))
    have gC := gB.putD (o := .dK (dropK (kvZ ps) (ky la))) hd0 hd13 dc
    have hdC : upd G13 d (.dK (dropK (kvZ ps) (ky la))) d = some (.dK (dropK (kvZ ps) (ky la))) := upd_same
    generalize upd G13 d (.dK (dropK (kvZ ps) (ky la))) = GC at gC hdC ⊢
    clear gB hd13
    have rnC := rn2.gr gC
    generalize dropK (kvZ ps) (ky la) = kd at dlen hdC
    have dpC := rnC.pen.neO hdC fun _ z => nomatch z
    refine ⟨_, rfl, _, rfl, d, kd, rfl, hdC, fun La hLa => fun Lb hLb => ?_⟩
    have u1 := Same.new (o := .lst (kd.map fun kv => L2.kV kv.1)) hLa
    refine ⟨upd_same, [(.inr ("" : Str), .str "a")], rfl, by decide, ?_⟩
    rw [upd_upd]
    have u2 : Same _ (upd (upd GC La (.lst (kd.map fun kv => L2.kV kv.1))) Lb (.dK (mergeK [] [(.inr ("" : Str), .str "a")]))) := Same.new (o := .dK (mergeK [] [(.inr ("" : Str), .str "a")])) hLb
    refine ⟨by show 5 ≤ sizeLine; decide, fun L hL => ⟨L, rfl, ⟨_, SqL.of upd_same⟩, ?_⟩⟩
    have e1 : upd GC La (.lst (kd.map fun kv => L2.kV kv.1)) La = some (.lst (kd.map fun kv => L2.kV kv.1)) := upd_same
    have e2 := (fun (A : Hp) => (upd_same : upd A Lb (.dK (mergeK [] [(.inr ("" : Str), .str "a")])) Lb = some (.dK (mergeK [] [(.inr ("" : Str), .str "a")])))) (upd GC La (.lst (kd.map fun kv => L2.kV kv.1)))
    have u3 := Same.new (o := .lst [.ref d, .non, .ref La, .str "x", .ref Lb]) hL
    have eL := (fun (A : Hp) => (upd_same : upd A L (.lst [.ref d, .non, .ref La, .str "x", .ref Lb]) L = some (.lst [.ref d, .non, .ref La, .str "x", .ref Lb]))) (upd (upd GC La (.lst (kd.map fun kv => L2.kV kv.1))) Lb (.dK (mergeK [] [(.inr ("" : Str), .str "a")])))
    have pA := rnC.pen.ne1 hLa
    have pB := (rnC.pen.ext u1).ne1 hLb
    have pL := ((rnC.pen.ext u1).ext u2).ne1 hL
    have u13 := Same.trans u1 (Same.trans u2 u3)
    have gD := gC.same u13
    have rnD := rnC.gr ((Gr.start rnC.pen rnC.tabs).same u13)
    have eA := u3 _ _ (u2 _ _ e1)
    have eB := u3 _ _ e2
    have eD := u13 _ _ hdC
    generalize upd (upd (upd GC La (.lst (kd.map fun kv => L2.kV kv.1))) Lb (.dK (mergeK [] [(.inr ("" : Str), .str "a")]))) L (.lst [.ref d, .non, .ref La, .str "x", .ref Lb]) = GD at gD rnD eA eB eD eL ⊢
    clear u1 u2 u3 u13 e1 e2 hLa hLb hL gC hdC rnC
    have odd : ∀ v ∈ [V.ref d, .non, .ref La, .str "x", .ref Lb], OddR K p (es.map (·.1)) GD v := by
      intro v hv
      simp only [List.mem_cons, List.not_mem_nil, or_false] at hv
      rcases hv with rfl | rfl | rfl | rfl | rfl
      · exact oddLen eD dpC (by omega) (by omega)
      · exact oddNot fun G' _ => ⟨_, .base .non, kit_ty (by decide +kernel)⟩
      · exact oddNot fun G' e => ⟨_, .base (.lst (e _ _ pA (fun _ z => by cases z) eA)), kit_ty (by decide +kernel)⟩
      · exact oddNot fun G' _ => ⟨_, .base (.str _), kit_ty (by decide +kernel)⟩
      · exact oddOne eB pB
    generalize [V.ref d, .non, .ref La, .str "x", .ref Lb] = OO at odd eL
    clear eA eB eD pA pB
    refine for_it walk_list (fun i σ' G => ∃ y6 y9 y10 y11, σ' = [some (.ref p), some (.ref l), some (.ref q), some (.str abc), some (.int b), some (.ref d), y6, none, some (sg la), y9, y10, y11, none] ∧ Gr T3 c p (n + 1) GD G) ⟨_, _, _, _, rfl, Gr.start rnD.pen rnD.tabs⟩ (fun i σ' G _ ⟨_, _, _, _, _, g⟩ => SqL.of (g.at_ eL pL)) ?_ ?_
    · rintro i v σ' G G' hi ⟨y6, y9, y10, y11, rfl, g⟩ ⟨rfl, hv⟩
      have ov := odd v (List.mem_of_getElem? hv)
      have rn := rnD.gr g
      refine heard_bad (v := .str "names") rn.tabs (fun G2 eN t2 Qn E' r => ?_) (fun G3 h eN t3 hh => ?_)
      · have rn9 := rn.gr ((Gr.start rn.pen rn.tabs).extN eN t2)
        obtain ⟨dx1, tp1, hq1, htp1, pdq1⟩ := id rn9.w
        exact ⟨_, rfl, q, dx1, _, rfl, hq1, wf_no rfl rfl, _, rfl, q, es, xs, v, rfl, rn9.w, l1, l4, ov G2 (g.ext.trans (Ext2.ofN eN)) _ _ r⟩
      · refine ⟨by show 1 ≤ sizeLine; decide, fun u hu => ?_⟩
        have g9 := g.extN eN t3
        have su := Same.new (o := .lst [.str "names"]) hu
        refine ⟨h, u, [.str "names"], rfl, rfl, SqL.of (su _ _ hh), SqL.of upd_same, fun x hx => by rw [List.mem_singleton.mp hx]; exact .inl rfl, _, rfl, iteF ?_⟩
        exact ⟨_, _, _, _, rfl, g9.same su⟩
    rintro σ' G ⟨y6, y9, y10, y11, rfl, g⟩
    exact k _ ((gD.trans g).mono (by omega))
end
end Kx
set_option Elab.async false
set_option maxRecDepth 100000
set_option autoImplicit false
set_option pp.maxSteps 400
set_option pp.deepTerms false
/-! what is due, what is heard -/
namespace Kx
open PySem L2 PySem.Spec PyProof.Rows Rg Er Ru LamX Tn ClX SkE LiI
/-- what is due of a list of entries -/
def DV (xs : List V) (os : List (Option (Nat × Int))) (dv : V) : Prop := (¬ (1 ≤ xs.length ∧ xs.length ≤ 4) ∧ dv = .str "many") ∨ ((1 ≤ xs.length ∧ xs.length ≤ 4) ∧ dv = dueV (badFrom 0 [] os))
def spDueV (K : PySem.W.Frag) : Sp := fun vs H Q _ => ∃ (l : Addr) (xs : List V) (os : List (Option (Nat × Int))), vs = [.ref l] ∧ H l = some (.lst xs) ∧ Ents K H xs os ∧ xs.length ≤ 1000 ∧ ∀ dv H', Same H H' → DV xs os dv → Q dv H'
theorem badFrom_lt : ∀ (os : List (Option (Nat × Int))) (i : Nat) (seen : List Nat) (j : Nat), badFrom i seen os = some j → i ≤ j ∧ j < i + os.length
  | [], _, _, _, h => by cases h
  | none :: r, i, _, j, h => by
    have : i = j := Option.some.inj h
    simp; omega
  | some (c, n) :: r, i, seen, j, h => by
    have h' : (if c ∈ seen then some i else badFrom (i + 1) (seen ++ [c]) r) = some j := h
    split at h'
    · have : i = j := Option.some.inj h'
      simp; omega
    · have := badFrom_lt r (i + 1) (seen ++ [c]) j h'
      simp; omega
theorem badFrom_all : ∀ (os : List (Option (Nat × Int))) (i : Nat) (seen : List Nat), badFrom i seen os = none → ∃ es : List (Nat × Int), os = es.map some ∧ (es.map (·.1)).Nodup ∧ ∀ c ∈ es.map (·.1), c ∉ seen
  | [], _, _, _ => ⟨[], rfl, List.Pairwise.nil, fun c h => by cases h⟩
  | none :: r, i, _, h => by cases h
  | some (c, n) :: r, i, seen, h => by
    have h' : (if c ∈ seen then some i else badFrom (i + 1) (seen ++ [c]) r) = none := h
    split at h'
    · cases h'
    · rename_i nc
      obtain ⟨es, rfl, nd, no⟩ := badFrom_all r (i + 1) (seen ++ [c]) h'
      refine ⟨(c, n) :: es, rfl, ?_, fun d hd => ?_⟩
      · rw [List.map_cons, List.nodup_cons]
        exact ⟨fun m => no c m (List.mem_append_right _ List.mem_cons_self), nd⟩
      · rw [List.map_cons] at hd
        rcases List.mem_cons.mp hd with rfl | hd
        · exact nc
        · exact fun m => no d hd (List.mem_append_left _ m)
theorem Gr.keepT {T : List (Addr × Str)} {c p : Addr} {n m : Nat} {H H' : Hp} (pen : PenAt c n H p) (g : Gr T c p m H H') : KeepT H H' := by
  refine ⟨fun q xs h => ?_, fun q xs h => g.at_ h (pen.neO h fun _ z => nomatch z)⟩
  by_cases e : q = p
  · subst e
    obtain ⟨ns, a, k, h1, _⟩ := g.pen
    exact ⟨_, h1⟩
  · exact ⟨xs, g.at_ h e⟩
theorem ExtN.keepT {H H' : Hp} (e : ExtN H H') : KeepT H H' := ⟨fun q xs h => ⟨xs, e _ _ h fun _ z => nomatch z⟩, fun q xs h => e _ _ h fun _ z => nomatch z⟩
theorem Ents.sm {K : PySem.W.Frag} {H : Hp} {xs : List V} {os : List (Option (Nat × Int))} (h : Ents K H xs os) : ∀ v ∈ xs, Sm v := fun v hv => by
  obtain ⟨i, hi, rfl⟩ := List.getElem_of_mem hv
  obtain ⟨u, hu, eu⟩ := h.2 i _ (List.getElem?_eq_getElem (by rw [← h.1]; exact hi))
  rw [List.getElem?_eq_getElem hi] at hu
  cases hu
  rcases eu with ⟨t, c, n, e, _, _⟩ | ⟨_, s, _⟩
  · exact .inr ⟨t, e⟩
  · exact s
/-- what is heard where dv is due -/
def HV (C : Addr) (G : Hp) (hv dv : V) : Prop := (∃ q, hv = .ref q ∧ G q = some (.lst [dv]) ∧ ((∃ i : Nat, i < 4 ∧ dv = .int i) ∨ dv = .str "many")) ∨ (dv = .non ∧ ∃ i es ys, hv = .ref i ∧ Wts C G i es ys)
theorem dv_kind {xs : List V} {os : List (Option (Nat × Int))} {dv : V} (al : xs.length = os.length) (h : DV xs os dv) : dv = .non ∨ (∃ i : Nat, i < 4 ∧ dv = .int i) ∨ dv = .str "many" := by
  rcases h with ⟨_, rfl⟩ | ⟨r, rfl⟩
  · exact .inr (.inr rfl)
  · cases e : badFrom 0 [] os with
    | none => exact .inl rfl
    | some i => exact .inr (.inl ⟨i, by have := (badFrom_lt _ _ _ _ e).2; omega, rfl⟩)
theorem heard_of {K : PySem.W.Frag} {C CB : Addr} {T : List (Addr × Str)} {σ : L2.St} {H : Hp} {Q : VK} {l : Addr} {xs : List V} {os : List (Option (Nat × Int))} {dv : V} (tabs : Tabs T H) (slot : σ[4]? = some (some (.ref l))) (hl : H l = some (.lst xs)) (en : Ents K H xs os) (few : xs.length ≤ 1000) (hd : DV xs os dv)
    (k : ∀ G' hv, ExtN H G' → Tabs T G' → HV C G' hv dv → Q hv G') : tLam T (TTheard CB "part") (fun E => Ck.tCMethK C 1 (spWOfA K C CB) (fun us ws => us ++ ws) E (tC (.ref C)) (tCons (tVar 4) tNil)) σ H Q := by
  refine ⟨tabs, fun G1 eN T1 H1 Q' s1 kq => ?_⟩
  have e1 : ExtN H H1 := ExtN.trans eN (ExtN.of s1)
  have t1 := T1.ext s1
  have kd := dv_kind en.1 hd
  have say : ∀ v H', Same H1 H' → v = dv → dv ≠ .non → raised CB "part" v (hears CB "part" Q) H' := fun v H' s ev nn d hd' => by
    subst ev
    refine ⟨d, v, rfl, rfl, upd_same, fun q H'' same hq => k H'' (.ref q) ?_ ?_ (.inl ⟨q, rfl, hq, ?_⟩)⟩
    · exact ExtN.trans e1 (ExtN.trans (ExtN.of s) (ExtN.of fun b o e => same b o (by rw [upd_ne (ne_of_none e hd')]; exact e)))
    · exact (t1.ext s).ext fun b o e => same b o (by rw [upd_ne (ne_of_none e hd')]; exact e)
    · rcases kd with z | z
      · exact absurd z nn
      · exact z
  refine ⟨rfl, _, slot, rfl, l, xs, os, rfl, .inl (e1 _ _ hl fun _ z => nomatch z), en.keep (ExtN.keepT e1), few, fun nb H' s => ?_, fun r => ?_⟩
  · rcases hd with ⟨_, rfl⟩ | ⟨r, _⟩
    · exact say _ H' s rfl (by simp)
    · exact absurd r nb
  · rcases hd with ⟨nb, _⟩ | ⟨_, rfl⟩
    · exact absurd r nb
    · cases e : badFrom 0 [] os with
      | some i =>
        rw [e] at say
        exact fun H' s => say _ H' s rfl (by simp [dueV])
      | none =>
        rw [e] at k
        exact fun es H' a _ s w => kq _ _ (k H' (.ref a) (ExtN.trans e1 (ExtN.of s)) (t1.ext s) (.inr ⟨rfl, a, es, xs, rfl, w⟩))
theorem heard_two {K : PySem.W.Frag} {C CB : Addr} {T : List (Addr × Str)} {σ : L2.St} {H : Hp} {Q : VK} {l : Addr} {v0 v1 : V} {os : List (Option (Nat × Int))} {dv : V} (tabs : Tabs T H) (slot : σ[4]? = some (some (.ref l))) (hl : H l = some (.lst [v0, v1])) (en : Ents K H [v0, v1] os) (hd : DV [v0, v1] os dv)
    (k : ∀ G' hv, ExtN H G' → Tabs T G' → HV C G' hv dv → Q hv G') : tLam T (TTheard CB "part") (fun E => tMakeV C (spStar 1 (spWInitA K C CB)) E (tC (.ref C)) (tCons (tOp (rIxL K) (tVar 4) (tC (.int 0))) (tCons (tOp (rIxL K) (tVar 4) (tC (.int 1))) tNil))) σ H Q := by
  refine ⟨tabs, fun G1 eN T1 H1 Q' s1 kq => ?_⟩
  have e1 : ExtN H H1 := ExtN.trans eN (ExtN.of s1)
  have t1 := T1.ext s1
  have kd := dv_kind en.1 hd
  have say : ∀ v H', Same H1 H' → v = dv → dv ≠ .non → raised CB "part" v (hears CB "part" Q) H' := fun v H' s ev nn d hd' => by
    subst ev
    refine ⟨d, v, rfl, rfl, upd_same, fun q H'' same hq => k H'' (.ref q) ?_ ?_ (.inl ⟨q, rfl, hq, ?_⟩)⟩
    · exact ExtN.trans e1 (ExtN.trans (ExtN.of s) (ExtN.of fun b o e => same b o (by rw [upd_ne (ne_of_none e hd')]; exact e)))
    · exact (t1.ext s).ext fun b o e => same b o (by rw [upd_ne (ne_of_none e hd')]; exact e)
    · rcases kd with z | z
      · exact absurd z nn
      · exact z
  have hl1 := e1 _ _ hl fun _ z => nomatch z
  refine ⟨rfl, _, slot, l, [v0, v1], ((0 : Nat) : Int), v0, rfl, rfl, SqL.of hl1, atI_nat rfl, _, slot, l, [v0, v1], ((1 : Nat) : Int), v1, rfl, rfl, SqL.of hl1, atI_nat rfl, fun x dx hx hdx ne => ⟨[.ref x], [v0, v1], rfl, rfl, by show 2 ≤ sizeLine; decide, fun p hp => ?_⟩⟩
  have s2 : Same H1 (upd (upd H1 dx (.own x)) x (.ins C dx [])) := made_same hx hdx
  have s3 : Same H1 (upd (upd (upd H1 dx (.own x)) x (.ins C dx [])) p (.tup [v0, v1])) := Same.putNew' hp s2
  refine ⟨x, dx, p, [v0, v1], os, rfl, ?_, upd_same, (en.keep (ExtN.keepT e1)).same s3, fun nb => absurd ⟨by show 1 ≤ 2; decide, by show 2 ≤ 4; decide⟩ nb, fun r => ?_⟩
  · rw [upd_ne (ne_of_none upd_same hp)]
    exact upd_same
  · rcases hd with ⟨nb, _⟩ | ⟨_, rfl⟩
    · exact absurd r nb
    · cases e : badFrom 0 [] os with
      | some i =>
        rw [e] at say
        exact fun H' s => say _ H' (Same.trans s3 s) rfl (by simp [dueV])
      | none =>
        rw [e] at k
        exact fun es H' _ x1 w => ⟨rfl, kq _ _ (k H' (.ref x) (ExtN.trans e1 (ExtN.of (same_ext1 hx s3 x1))) (t1.ext (same_ext1 hx s3 x1)) (.inr ⟨rfl, x, es, [v0, v1], rfl, w⟩))⟩
end Kx
set_option Elab.async false
set_option maxRecDepth 100000
set_option autoImplicit false
set_option pp.maxSteps 400
set_option pp.deepTerms false
/-! what the law asks of what is heard -/
namespace Kx
open PySem L2 PySem.Spec PyProof.Rows Rg Er Ru LamX Tn ClX SkE LiI
theorem due_V {K : PySem.W.Frag} (vs : List V) (H : Hp) (Q : VK) (E : XK) (h : spDueV K vs H Q E) : spDue K vs H Q E := by
  obtain ⟨l, xs, os, rfl, h1, h2, h3, k⟩ := h
  exact ⟨l, xs, os, rfl, h1, h2, h3, fun nb => k _ _ (Same.refl H) (.inl ⟨nb, rfl⟩), fun r H' s => k _ _ s (.inr ⟨r, rfl⟩)⟩
theorem isi_hv {K : PySem.W.Frag} {C : Addr} {G : Hp} {hv dv : V} {Q : VK} (I : InsT K C) (kL : PySem.W.kitOne K (.type "list") (.ref C) = some false) (kC : PySem.W.kitOne K (.ref C) (.ref C) = some true) (h : HV C G hv dv)
    (q : Q (.bl (decide (dv = .non))) G) : rIsi K [hv, .ref C] G Q := by
  rcases h with ⟨p, rfl, hp, kd⟩ | ⟨rfl, i, es, ys, rfl, w⟩
  · have : decide (dv = V.non) = false := by
      rcases kd with ⟨i, _, rfl⟩ | rfl <;> rfl
    rw [this] at q
    exact ⟨_, _, _, _, false, rfl, .own C, .base (.lst hp), kL, q⟩
  · obtain ⟨dx, p, h1, _⟩ := w
    exact ⟨_, _, _, _, true, rfl, .own C, I.ty h1, kC, q⟩
theorem t_isi {K : PySem.W.Frag} {C : Addr} {σ : L2.St} {G : Hp} {hv dv : V} {Q : Bool → Hp → Prop} (I : InsT K C) (kL : PySem.W.kitOne K (.type "list") (.ref C) = some false) (kC : PySem.W.kitOne K (.ref C) (.ref C) = some true) (h7 : σ[7]? = some (some hv)) (h6 : σ[6]? = some (some dv)) (h : HV C G hv dv)
    (q : Q false G) : tTest (tOp rNe (tCB (rIsi K) (tCons (tVar 7) (tCons (tC (.ref C)) tNil))) (tIsN (tVar 6))) σ G Q := by
  refine ⟨_, h7, ?_⟩
  dsimp only [tCons, tC, tNil]
  refine isi_hv I kL kC h ⟨_, h6, rfl, _, rfl, ?_⟩
  rw [decide_eq_true (rfl : V.bl (decide (dv = V.non)) = V.bl (decide (dv = V.non)))]
  exact q
theorem rp_due {dv : V} (kd : (∃ i : Nat, i < 4 ∧ dv = .int i) ∨ dv = .str "many") : ∃ d : PyData, (∀ (K : PySem.W.Frag) (H : Hp), Rp K H dv d) ∧ (PyData.list [d]).showable = true ∧ (PyData.list [d]).hasDict = false ∧ (PyData.list [d]).depth ≤ 20 ∧ (PyData.list [d]).shown.length ≤ sizeLine := by
  rcases kd with ⟨i, hi, rfl⟩ | rfl
  · refine ⟨.int (i : Nat), fun K H => .int _, ?_⟩
    match i, hi with
    | 0, _ => exact ⟨by decide +kernel, by decide +kernel, by decide +kernel, by decide +kernel⟩
    | 1, _ => exact ⟨by decide +kernel, by decide +kernel, by decide +kernel, by decide +kernel⟩
    | 2, _ => exact ⟨by decide +kernel, by decide +kernel, by decide +kernel, by decide +kernel⟩
    | 3, _ => exact ⟨by decide +kernel, by decide +kernel, by decide +kernel, by decide +kernel⟩
  · exact ⟨.str "many", fun K H => .str _, by decide +kernel, by decide +kernel, by decide +kernel, by decide +kernel⟩
theorem rRepr_one {K : PySem.W.Frag} {G : Hp} {q : Addr} {dv : V} {d : PyData} {Q : VK} (h : (∀ (K : PySem.W.Frag) (H : Hp), Rp K H dv d) ∧ (PyData.list [d]).showable = true ∧ (PyData.list [d]).hasDict = false ∧ (PyData.list [d]).depth ≤ 20 ∧ (PyData.list [d]).shown.length ≤ sizeLine)
    (hq : G q = some (.lst [dv])) (k : Q (.str (PyData.list [d]).shown) G) : rRepr K [.ref q] G Q :=
  ⟨q, _, rfl, .lst (SqL.of hq) (.cons (h.1 K G) .nil), h.2.1, h.2.2.1, h.2.2.2.1, h.2.2.2.2, k⟩
theorem t_repr {K : PySem.W.Frag} {C : Addr} {σ : L2.St} {G : Hp} {hv dv : V} {Q : Bool → Hp → Prop} (h7 : σ[7]? = some (some hv)) (h6 : σ[6]? = some (some dv)) (h : HV C G hv dv)
    (q : ∀ G', Same G G' → Q false G') : tAnd (tB (tNotN (tVar 6))) (tTest (tOp rNe (tCB (rRepr K) (tCons (tVar 7) tNil)) (tCB (rRepr K) (tCons (tLst (tCons (tVar 6) tNil)) tNil)))) σ G Q := by
  rcases h with ⟨p, rfl, hp, kd⟩ | ⟨rfl, i, es, ys, rfl, w⟩
  · have nn : (!decide (dv = V.non)) = true := by
      rcases kd with ⟨i, _, rfl⟩ | rfl <;> rfl
    obtain ⟨d, hd⟩ := rp_due kd
    refine ⟨_, h6, _, rfl, ?_⟩
    rw [nn]
    refine iteT ⟨_, h7, ?_⟩
    dsimp only [tCons, tC, tNil]
    refine rRepr_one hd hp ⟨_, h6, by show 1 ≤ sizeLine; decide, fun l hl => ?_⟩
    dsimp only [tCons, tC, tNil]
    refine rRepr_one (dv := dv) hd upd_same ⟨rfl, _, rfl, ?_⟩
    rw [decide_eq_true (rfl : V.str (PyData.list [d]).shown = V.str (PyData.list [d]).shown)]
    exact q _ (Same.new hl)
  · exact ⟨_, h6, _, rfl, iteF (q _ (Same.refl G))⟩
/-- v is a list of entries, not the pen -/
def LI (K : PySem.W.Frag) (p : Addr) (G : Hp) (v : V) : Prop := ∃ l ys os, v = .ref l ∧ l ≠ p ∧ G l = some (.lst ys) ∧ Ents K G ys os ∧ ys.length ≤ 5
theorem LI.gr {K : PySem.W.Frag} {T : List (Addr × Str)} {c p : Addr} {n m : Nat} {G G' : Hp} {v : V} (h : LI K p G v) (pen : PenAt c n G p) (g : Gr T c p m G G') : LI K p G' v := by
  obtain ⟨l, ys, os, rfl, h1, h2, h3, h4⟩ := h
  exact ⟨l, ys, os, rfl, h1, g.at_ h2 h1, h3.keep (g.keepT pen), h4⟩
theorem nodup_of {es : List (Nat × Int)} (b : badFrom 0 [] (es.map some) = none) : (es.map (·.1)).Nodup := by
  obtain ⟨fs, e, nd, _⟩ := badFrom_all _ 0 [] b
  rw [some_inj e] at nd
  exact nd
theorem due_none {es : List (Nat × Int)} {xs : List V} {dv : V} (h : DV xs (es.map some) dv) (al : xs.length = es.length) (l1 : 1 ≤ es.length) (l4 : es.length ≤ 4) : dv = .non → (es.map (·.1)).Nodup := fun e => by
  rcases h with ⟨nb, _⟩ | ⟨_, h⟩
  · exact absurd ⟨by omega, by omega⟩ nb
  · cases b : badFrom 0 [] (es.map some) with
    | none => exact nodup_of b
    | some i =>
      rw [b, e] at h
      cases h
end Kx
set_option Elab.async false
set_option maxRecDepth 100000
set_option autoImplicit false
set_option pp.maxSteps 400
set_option pp.deepTerms false
/-! the law -/
namespace Kx
open PySem L2 PySem.Spec PyProof.Rows Rg Er Ru LamX Tn ClX SkE LiI
abbrev sLaw : Stmt := top 27
abbrev nLaw : List Str := ["_law_script", "_law_pen_here", "_law_turn", "_law_listed", "_law_some", "_law_held", "_law_due_here", "_law_heard_here"]
theorem scLaw : FnScope nLaw ["_law_script"] (defScope sLaw) := ⟨rfl, rfl, rfl, by decide +kernel, rfl, by decide +kernel, by decide +kernel⟩
def spLaw (K : PySem.W.Frag) (T : List (Addr × Str)) : Sp := fun vs H Q _ => ∃ (a : Addr) (ns : List Int), vs = [.ref a] ∧ SqL K H a (ns.map V.int) ∧ ns.length ≤ 63 ∧ Tabs T H ∧ ∀ H', Q (.bl true) H'
theorem bRepr1 {X : Cx} {e : Expr} {te : TE} {q pos : Pos} (hg : X.A.guards = some []) (hr : Room 0 X.A) (gl : Gl X "repr") (m : X.mg "repr" = none) (he : PE X e te) (na : starEach [e] X.env = (false, eval e X.env) :: starEach [] X.env := by rfl) :
    PE X (.Call (.Name "repr" q) [e] [] pos) (tCB (rRepr X.K) (tCons te tNil)) := pe_callB (cr_repr hg hr) gl m (by decide +kernel) (pa_cons he pa_nil na) (he := na)
section
variable {P : Program} {w : World} {K : PySem.W.Frag} {mg : Str → Option Value} {base : Heap}
set_option maxHeartbeats 0 in
theorem ok_law {C CB f cd tab g fA fD fS fU fR fN : Addr} {T3 : List (Addr × Str)} {cdg oc dV kV doc pm ct oc' kV' doc' pm' ct' : Value} {an od an' od' : Option Addr} {osl osl' : Array (Option Value)} {dA dD dS dU dR dN : FuncData} (T : Txt mg) (S : WK P w K mg base C CB) (Hh : Hd K mg g cdg oc dV kV doc pm ct an od osl)
    (lkL : K.lookup f = some ⟨oc', od', .func (PySem.W.fnOf "law" "law" (defArgs sLaw) (defBody sLaw) (defScope sLaw) .none kV' doc' pm' an' (.ref cd) ct'), osl'⟩) (hcL : PySem.W.codeIn K (.ref cd) "law" = true) (TB : TabB base mg cd tab)
    (hT : (tab, lamQ "law") ∈ T3) (hu : ∀ p ∈ T3, p.1 = tab → p.2 = lamQ "law")
    (GA : FnOk P w K mg base CX0 1 fA dA ["_law_script"] (spPen K)) (mA : mg "_law_pen" = some (.ref fA)) (kA : PySem.W.keepIn K (.ref fA) = true) (bA : L2.Binds K dA ["_law_script"] [])
    (GD : FnOk P w K mg base CX0 3 fD dD ["_law_pen_here"] spDrawn) (mD : mg "_law_drawn" = some (.ref fD)) (kD : PySem.W.keepIn K (.ref fD) = true) (bD : L2.Binds K dD ["_law_pen_here"] [])
    (GS : FnOk P w K mg base CX0 3 fS dS ["_law_pen_here", "_law_listed"] (spSpoilt K)) (mS : mg "_law_spoilt" = some (.ref fS)) (kS : PySem.W.keepIn K (.ref fS) = true) (bS : L2.Binds K dS ["_law_pen_here", "_law_listed"] [])
    (GU : FnOk P w K mg base CX0 1 fU dU ["_law_listed"] (spDue K)) (mU : mg "_law_due" = some (.ref fU)) (kU : PySem.W.keepIn K (.ref fU) = true) (bU : L2.Binds K dU ["_law_listed"] [])
    (GR : FnG P w K mg base CX0 9 fR dR ["_law_pen_here", "_law_listed"] (spRight T3)) (mR : mg "_law_right" = some (.ref fR)) (kR : PySem.W.keepIn K (.ref fR) = true) (bR : L2.Binds K dR ["_law_pen_here", "_law_listed"] [])
    (GN : FnG P w K mg base CX0 9 fN dN ["_law_pen_here", "_law_listed"] (spRight T3)) (mN : mg "_law_names_right" = some (.ref fN)) (kN : PySem.W.keepIn K (.ref fN) = true) (bN : L2.Binds K dN ["_law_pen_here", "_law_listed"] []) :
    FnG P w K mg base CX0 10 f (PySem.W.fnOf "law" "law" (defArgs sLaw) (defBody sLaw) (defScope sLaw) .none kV' doc' pm' an' (.ref cd) ct') ["_law_script"] (spLaw K T3) := by
  replace GU := GU.imp due_V
  refine fnG_of lkL hcL scLaw (fun vs H Q E h => ?_) (fun A outer s H vs Q E hg hr h => ?_)
  · obtain ⟨a, ns, rfl, _⟩ := h
    rfl
  · obtain ⟨a, ns, rfl, hs, hl, tabs, k⟩ := h
    obtain ⟨M, gC, I, nfL, kL, kC, R, hear, rd, _, ⟨op_, og, ofd, oc1, oFk, kb⟩, ⟨ig, iM, iF⟩, _, _, _, _, _, _⟩ := S
    have nd := scLaw.nd
    have hg' : (A.deeper (envOfC "law" (defScope sLaw) s.heap.objs.size f (.ref cd))).guards = some [] := hg
    have hr0 := hr.mono (show 0 ≤ 9 by decide)
    have hr1 := hr.mono (show 1 ≤ 9 by decide)
    have hr3 := hr.mono (show 3 ≤ 9 by decide)
    have hr8 := hr.mono (show 8 ≤ 9 by decide)
    refine ⟨_, (pss_cons (ps_set (i := 1) nd rfl (.inl rfl) (pe_call GA hr1 (by rfl) mA kA bA .nil pass0 (pa_cons (pv 0) pa_nil)))
      (pss_cons (ps_for PassesOwn.never rfl (pi_range1 (by rfl) T.range (pa_cons pe_int pa_nil)) (pg_name (i := 2) nd rfl (Or.inl rfl)) (pss_cons (ps_set (i := 3) nd rfl (.inl rfl) (pe_call GD hr3 (by rfl) mD kD bD .nil pass0 (pa_cons (pv 1) pa_nil)))
      (pss_cons (ps_for PassesOwn.never rfl (pi_list (pe_lst (pa_cons (pv 3) (pa_cons (pe_call GS hr3 (by rfl) mS kS bS .nil pass0 (pa_cons (pv 1) (pa_cons (pv 3) pa_nil))) (pa_cons (pe_call GS hr3 (by rfl) mS kS bS .nil pass0 (pa_cons (pv 1) (pa_cons (pv 3) pa_nil))) pa_nil))))) (pg_name (i := 4) nd rfl (Or.inr rfl)) (pss_cons (ps_set (i := 5) nd rfl (.inl rfl) (bList (by rfl) T.list (pv 4)))
      (pss_cons (ps_set (i := 6) nd rfl (.inl rfl) (pe_call GU hr1 (by rfl) mU kU bU .nil pass0 (pa_cons (pv 4) pa_nil)))
      (pss_cons (ps_set (i := 7) nd rfl (.inl rfl) (pe_hear (T := T3) (t := fun E => Ck.tCMethK C 1 (spWOfA K C CB) (fun us ws => us ++ ws) E (tC (.ref C)) (tCons (tVar 4) tNil)) hr8 hear Hh.hm Hh.hk Hh.lk Hh.hcg Hh.hb TB hT hu (by rfl) (lamS_by (by decide +kernel)) rfl (fun _ _ _ _ _ => rfl) (fun A' outer' s' H' E f' c' hr' => Ck.pe_cmethK (ks := [("pairs" : Str)]) (pe_glob (v := .ref C) (by rfl) gC rfl) rd oc1 oFk hr' kb (passes_call (takes_of (E := E) rfl rfl rfl rfl) fun _ _ _ _ h => h) (pk_cons (pv 4) pk_nil))))
      (pss_cons (ps_if (PW.pt (pw_or (pt_cmpR (op_neS hr.units) (pv 5) (pv 4) (nomark _)) (pw_or1 (pt_cmpR op_ne (bIsi (by rfl) T.isi (pv 7) (pe_glob (v := .ref C) (by rfl) gC rfl)) (pe_cmp (pc_isN (pv 6))) (nomark _))))) (pss_one ps_never) pss_nil)
      (pss_cons (ps_if (PW.pt (pw_and (pt_cmp (pc_notN (pv 6))) (pw_and1 (pt_cmpR op_ne (bRepr1 hg' hr0 (by rfl) T.repr (pv 7)) (bRepr1 hg' hr0 (by rfl) T.repr (pe_lst (pa_cons (pv 6) pa_nil))) (nomark _))))) (pss_one ps_never) pss_nil)
      (pss_one (ps_if (pt_cmpR op_eq (bLen (by rfl) T.len (pv 4)) pe_int (nomark _)) (pss_cons (ps_set (i := 7) nd rfl (.inl rfl) (pe_hear (T := T3) (t := fun E => tMakeV C (spStar 1 (spWInitA K C CB)) E (tC (.ref C)) (tCons (tOp (rIxL K) (tVar 4) (tC (.int 0))) (tCons (tOp (rIxL K) (tVar 4) (tC (.int 1))) tNil))) hr8 hear Hh.hm Hh.hk Hh.lk Hh.hcg Hh.hb TB hT hu (by rfl) (lamS_by (by decide +kernel)) rfl (fun _ _ _ _ _ => rfl) (fun A' outer' s' H' E f' c' hr' => pe_makeV iM iF (hr'.mono (by decide)) (passes_call (takes_of (E := E) rfl rfl rfl rfl) fun _ _ _ _ h => h) (pe_glob (v := .ref C) (by rfl) gC rfl) (pa_cons (bIx (pv 4) pe_int) (pa_cons (bIx (pv 4) pe_int) pa_nil)))))
      (pss_one (ps_if (pt_cmpR op_ne (bIsi (by rfl) T.isi (pv 7) (pe_glob (v := .ref C) (by rfl) gC rfl)) (pe_cmp (pc_isN (pv 6))) (nomark _)) (pss_one ps_never) pss_nil))) pss_nil))))))))
      (pss_one (ps_if (PW.pt (pw_and (pt_cmp (pc_isN (pe_call GU hr1 (by rfl) mU kU bU .nil pass0 (pa_cons (pv 3) pa_nil)))) (pw_and1 (PW.pt (pw_or (pt_not (pt_val (pe_callG hg' GR hr (by rfl) mR kR bR pass0 (pa_cons (pv 1) (pa_cons (pv 3) pa_nil))))) (pw_or1 (pt_not (pt_val (pe_callG hg' GN hr (by rfl) mN kN bN pass0 (pa_cons (pv 1) (pa_cons (pv 3) pa_nil))))))))))) (pss_one ps_never) pss_nil)))))
      (pss_one (ps_ret pe_bl)))), ?_⟩
    refine ⟨_, rfl, a, ns, rfl, hs, hl, fun c p H1 s1 pen => ?_⟩
    have tabs1 := tabs.ext s1
    clear hs hl tabs s1
    refine ⟨6, rfl, by decide, by decide, ?_⟩
    refine for_it walk_range (fun i σ' G => ∃ y2 y3 y4 y5 y6 y7, σ' = [some (.ref a), some (.ref p), y2, y3, y4, y5, y6, y7] ∧ PenAt c (100 * i) G p ∧ Tabs T3 G) ⟨_, _, _, _, _, _, rfl, pen, tabs1⟩ (fun _ _ _ _ _ => trivial) ?_ ?_
    rotate_left
    · rintro σ' G ⟨y2, y3, y4, y5, y6, y7, rfl, _, _⟩
      exact k G
    rintro i x σ' G G' hi ⟨y2, y3, y4, y5, y6, y7, rfl, penG, tabs⟩ yy
    obtain ⟨eG, ex⟩ := yy
    subst eG
    have hi' : i < 6 := hi
    clear pen tabs1
    have pen : PenAt c (100 * i) G' p := penG
    refine ⟨_, rfl, c, p, 100 * i, rfl, by omega, pen, fun L G1 xs es L0 hL pd l1 l4 ink => ?_⟩
    have Lp : L ≠ p := pen.ne1 L0
    have g1 := (Gr.start pen tabs).ink ink
    refine ⟨_, rfl, _, rfl, _, rfl, c, p, L, 100 * i + 20, xs, es.map some, rfl, by omega, g1.pen, Lp, hL, ents_of pd, by rw [pd.1]; exact l1, by rw [pd.1]; exact l4, fun L1 G2 ys1 os1 L10 hL1 en1 few1 ink1 => ?_⟩
    have L1p : L1 ≠ p := g1.pen.ne1 L10
    have g12 := (Gr.start g1.pen g1.tabs).ink ink1
    have pd2 := pd.gr g12 g1.pen
    have hL2 := g12.at_ hL Lp
    refine ⟨_, rfl, _, rfl, c, p, L, 100 * i + 20 + 20, xs, es.map some, rfl, by omega, g12.pen, Lp, hL2, ents_of pd2, by rw [pd.1]; exact l1, by rw [pd.1]; exact l4, fun L2 G3 ys2 os2 L20 hL2' en2 few2 ink2 => ?_⟩
    have L2p : L2 ≠ p := g12.pen.ne1 L20
    have g23 := (Gr.start g12.pen g12.tabs).ink ink2
    have a0 : LI K p G3 (.ref L) := ⟨L, xs, _, rfl, Lp, g23.at_ hL2 Lp, ents_of (pd2.gr g23 g12.pen), by rw [pd.1]; omega⟩
    have a1 : LI K p G3 (.ref L1) := LI.gr ⟨L1, ys1, os1, rfl, L1p, hL1, en1, few1⟩ g12.pen g23
    have a2 : LI K p G3 (.ref L2) := ⟨L2, ys2, os2, rfl, L2p, hL2', en2, few2⟩
    refine ⟨by show 3 ≤ sizeLine; decide, fun l3 h3 => ?_⟩
    have g34 := (Gr.start g23.pen g23.tabs).same (Same.new (o := .lst [.ref L, .ref L1, .ref L2]) h3)
    have l3p : l3 ≠ p := g23.pen.ne1 h3
    have all : ∀ v ∈ [V.ref L, V.ref L1, V.ref L2], LI K p (upd G3 l3 (.lst [.ref L, .ref L1, .ref L2])) v := fun v hv => by
      simp only [List.mem_cons, List.not_mem_nil, or_false] at hv
      rcases hv with rfl | rfl | rfl
      · exact a0.gr g23.pen g34
      · exact a1.gr g23.pen g34
      · exact a2.gr g23.pen g34
    have hl3 : upd G3 l3 (.lst [.ref L, .ref L1, .ref L2]) l3 = some (.lst [.ref L, .ref L1, .ref L2]) := upd_same
    have al := pd.1
    replace pd := (pd2.gr g23 g12.pen).gr g34 g23.pen
    replace hL := g34.at_ (g23.at_ hL2 Lp) Lp
    clear a0 a1 a2 hL2 hL2' hL1 h3 L20 L10 L0 en1 en2 few1 few2 ink ink1 ink2 L1p L2p g1 g12 g23 pd2
    refine ⟨l3, rfl, ⟨_, SqL.of hl3⟩, ?_⟩
    generalize upd G3 l3 (.lst [.ref L, .ref L1, .ref L2]) = G4 at g34 all hl3 pd hL ⊢
    generalize [V.ref L, V.ref L1, V.ref L2] = AA at all hl3 ⊢
    have pen4 := g34.pen
    have tabs4 := g34.tabs
    clear g34
    refine for_it walk_list (fun j σ' G => ∃ y4 y5 y6 y7, σ' = [some (.ref a), some (.ref p), some x, some (.ref L), y4, y5, y6, y7] ∧ Gr T3 c p (100 * i + 60) G4 G) ⟨_, _, _, _, rfl, Gr.start (pen4.mono (by omega)) tabs4⟩ (fun j σ' G _ y => by obtain ⟨_, _, _, _, _, g⟩ := y; exact SqL.of (g.at_ hl3 l3p)) ?_ ?_
    · rintro j v σ' G G' hj ⟨y4, y5, y6, y7, rfl, g⟩ ⟨eG, ev⟩
      subst eG
      obtain ⟨l, ys, os, rfl, lp, hl, en, few⟩ := (all v (List.mem_of_getElem? ev)).gr pen4 g
      refine ⟨_, rfl, l, ys, rfl, .inl (SqL.of hl), fun e he => ?_⟩
      have g5 := g.same (Same.new (o := .lst ys) he)
      have hl5 := Same.new (o := .lst ys) he _ _ hl
      have he5 : upd G' e (.lst ys) e = some (.lst ys) := upd_same
      have en5 := en.same (Same.new (o := .lst ys) he)
      have ep : e ≠ p := g.pen.ne1 he
      generalize upd G' e (.lst ys) = G5 at g5 hl5 he5 en5 ⊢
      clear he hl en g
      refine ⟨_, rfl, l, ys, os, rfl, hl5, en5, by omega, fun dv G6 s6 hd => ?_⟩
      have g6 := g5.same s6
      have en6 := en5.same s6
      replace hl5 := s6 _ _ hl5
      replace he5 := s6 _ _ he5
      clear en5 s6 g5
      refine heard_of g6.tabs rfl hl5 en6 (by omega) hd fun G7 hv e7 t7 hh => ?_
      have g7 := g6.extN e7 t7
      have en7 := en6.keep (ExtN.keepT e7)
      replace hl5 := e7 _ _ hl5 fun _ z => nomatch z
      replace he5 := e7 _ _ he5 fun _ z => nomatch z
      clear en6 e7 t7 g6
      refine ⟨_, rfl, _, rfl, e, l, ys, rfl, rfl, SqL.of he5, SqL.of hl5, en7.sm, _, rfl, iteF ?_⟩
      refine t_isi I kL kC rfl rfl hh (iteF ?_)
      refine t_repr rfl rfl hh fun G8 s8 => iteF ?_
      have g8 := g7.same s8
      have en8 := en7.same s8
      replace hl5 := s8 _ _ hl5
      clear g7 en7 s8 hh he5
      refine ⟨_, rfl, .ref l, ys.length, rfl, .inl ⟨_, SqL.of hl5, rfl⟩, rfl, _, rfl, ?_⟩
      by_cases h2 : ys.length = 2
      · rw [decide_eq_true (show V.int (ys.length : Nat) = V.int 2 from by rw [h2]; rfl)]
        match ys, h2, hl5, en8, hd with
        | [v0, v1], _, hl5, en8, hd =>
          refine iteT (heard_two g8.tabs rfl hl5 en8 hd fun G9 hv9 e9 t9 hh9 => ?_)
          exact t_isi I kL kC rfl rfl hh9 (iteF ⟨_, _, _, _, rfl, g8.extN e9 t9⟩)
      · rw [decide_eq_false (show ¬ V.int (ys.length : Nat) = V.int 2 from fun z => h2 (Int.ofNat.inj (V.int.inj z)))]
        exact iteF ⟨_, _, _, _, rfl, g8⟩
    rintro σ' G' ⟨y4, y5, y6, y7, rfl, g⟩
    have pdG := pd.gr g pen4
    have hLG := g.at_ hL Lp
    refine ⟨_, rfl, L, xs, es.map some, rfl, hLG, ents_of pdG, by omega, fun dv G6 s6 hd => ?_⟩
    have g6 := g.same s6
    have pd6 := pdG.mono fun _ _ _ h => h.same s6
    have hL6 := s6 _ _ hLG
    refine ⟨_, rfl, ?_⟩
    by_cases hn : dv = .non
    · have nod := due_none hd al l1 l4 hn
      rw [decide_eq_true hn]
      refine iteT ⟨_, rfl, _, rfl, c, p, L, 100 * i + 60, xs, es, rfl, by omega, g6.pen, Lp, hL6, pd6, l1, l4, nod, g6.tabs, fun G7 g7 => ?_⟩
      have pd7 := pd6.gr g7 g6.pen
      have hL7 := g7.at_ hL6 Lp
      refine ⟨_, rfl, iteF ?_⟩
      refine ⟨_, rfl, _, rfl, c, p, L, 100 * i + 60 + 10, xs, es, rfl, by omega, g7.pen, Lp, hL7, pd7, l1, l4, nod, g7.tabs, fun G8 g8 => ?_⟩
      exact ⟨_, rfl, iteF ⟨_, _, _, _, _, _, rfl, g8.pen.mono (by omega), g8.tabs⟩⟩
    · rw [decide_eq_false hn]
      exact iteF (iteF ⟨_, _, _, _, _, _, rfl, g6.pen.mono (by omega), g6.tabs⟩)
end
end Kx
set_option Elab.async false
set_option maxRecDepth 100000
set_option autoImplicit false
namespace Kx
open PySem L2 PySem.Spec PyProof.Rows Rg Er Ru LamX Tn ClX SkE LiI
/-- in this heap nothing is tracked but the script at a and the tables ts -/
structure Bare1 (K : PySem.W.Frag) (a : Addr) (ts : List Addr) (H : Hp) : Prop where
  few : ∀ b, H b ≠ none → (b = a ∧ K.lookup a = none) ∨ b ∈ ts
  kind : ∀ b u, H b = some u → (∃ ob xs, u = .frz ob (.lst xs)) ∨ b ∈ ts
  tabs : ∀ b ∈ ts, H b = some (.tbl #[])
section
variable {P : Program} {w : World} {K : PySem.W.Frag} {mg mb : Str → Option Value} {a : Addr} {s₁ : Shared} {vs : List Value} {cs : List (Addr × Addr)} {H : Hp}
/-- what is no script and no table is not tracked -/
theorem Bare1.off {ts : List Addr} {b : Addr} (B : Bare1 K a ts H) (h1 : b = a → K.lookup a = none → False) (h2 : b ∉ ts) : H b = none := Decidable.by_contra fun q => by
  rcases B.few b q with ⟨e, n⟩ | e
  · exact h1 e n
  · exact h2 e
/-- the heap at the start -/
def start1 (K : PySem.W.Frag) (a : Addr) (ts : List Addr) (vs : List Value) (ns : List Int) : Hp := fun b =>
  if b ∈ ts then some (.tbl #[]) else if b = a ∧ K.lookup a = none then some (.frz { cls := .type "list", data := .seq vs.toArray } (.lst (ns.map V.int))) else none
theorem start1_bare {ts : List Addr} {ns : List Int} : Bare1 K a ts (start1 K a ts vs ns) := by
  refine ⟨fun b q => ?_, fun b u q => ?_, fun b hb => if_pos hb⟩
  · by_cases hb : b ∈ ts
    · exact .inr hb
    · by_cases h2 : b = a ∧ K.lookup a = none
      · exact .inl h2
      · exact absurd (by unfold start1; rw [if_neg hb, if_neg h2]) q
  · by_cases hb : b ∈ ts
    · exact .inr hb
    · unfold start1 at q
      rw [if_neg hb] at q
      split at q
      · cases q; exact .inl ⟨_, _, rfl⟩
      · cases q
theorem lawGT {k : Nat} {fa : Addr} {fd : FuncData} {x : Str} {sp : Sp} {ns : List Int}
    (KX : K.In s₁.heap) (hns : s₁.heap.Ns mainGlobals mg) (hb : s₁.heap.Ns builtinsNs mb) (hbb : ∀ x : Str, x ≠ "__name__" → mb x = bootBuiltins x) (hlim : s₁.heap.NoLimit) (hg : s₁.gens = #[])
    (tab : ∀ p ∈ cs, s₁.heap.get? p.2 = some (PySem.W.tabObj #[]) ∧ K.lookup p.2 = none ∧ PySem.W.CodeHd s₁.heap p.1 p.2)
    (bmn : ∃ (bm : Addr) (ob : Obj), mg "__builtins__" = some (.ref bm) ∧ bm ≠ builtinsNs ∧ s₁.heap.get? bm = some ob ∧ ob.cls = .type "module" ∧ ob.dict = some builtinsNs ∧ ob.data = .plain)
    (ha : s₁.heap.get? a = some { cls := .type "list", data := .seq vs.toArray }) (hi : IntsAre vs ns) (hl : ns.length ≤ sizeLine) (hr : Room k callerA)
    (F : ∀ base : Heap, K.In base → base.Ns mainGlobals mg → (∀ p ∈ cs, TabB base mg p.1 p.2) → FnG P w K mg base CX0 k fa fd [x] sp) (bind : ∀ (s : Shared) (u : Value), BindsTo s fd ⟨[u], []⟩ [(x, u)])
    (want : ∀ H : Hp, (∀ p ∈ cs, H p.2 = some (.tbl #[])) → SqL K H a (ns.map V.int) → sp [.ref a] H (fun v _ => v = .bl true) fun _ _ _ => False) :
    codeAny (model P w) callerA (.call (.ref fa) ⟨[.ref a], []⟩) (fun r s' => r = .ok (.ret (.bool true)) ∧ OldK s₁.heap s'.heap ∧ s'.os = s₁.os ∧ AllBare s'.gens) s₁ := by
  have inT : ∀ {b : Addr}, b ∈ cs.map (·.2) → ∃ p ∈ cs, p.2 = b := fun {b} hb => List.mem_map.mp hb
  have emp : ∀ {b : Addr} {o : Obj}, b ∈ cs.map (·.2) → s₁.heap.get? b = some o → o = PySem.W.tabObj #[] := fun {b o} hb e => by
    obtain ⟨p, hp, rfl⟩ := inT hb
    exact Option.some.inj (e.symm.trans (tab p hp).1)
  have isA : ∀ {o : Obj}, s₁.heap.get? a = some o → o = { cls := .type "list", data := .seq vs.toArray } := fun {o} e => Option.some.inj (e.symm.trans ha)
  have aT : a ∉ cs.map (·.2) := fun z => by cases (emp z ha)
  have B := start1_bare (K := K) (a := a) (ts := cs.map (·.2)) (vs := vs) (ns := ns)
  have hok : HOk P w (start1 K a (cs.map (·.2)) vs ns) s₁.heap := fun b u z => by
    unfold start1 at z
    split at z
    · rename_i hb
      cases z
      obtain ⟨p, hp, rfl⟩ := inT hb
      exact (tab p hp).1
    · split at z
      · rename_i hb
        obtain ⟨rfl, _⟩ := hb
        cases z
        exact ⟨ha, by rw [List.length_map]; exact hl, vs, _, vals_ints hi, ha⟩
      · cases z
  have seq : SqL K (start1 K a (cs.map (·.2)) vs ns) a (ns.map V.int) := by
    cases q : K.lookup a with
    | none => exact .inl (.inr ⟨{ cls := .type "list", data := .seq vs.toArray }, by unfold start1; rw [if_neg aT, if_pos ⟨rfl, q⟩]⟩)
    | some o =>
      cases isA (KX a o q)
      exact .inr ⟨_, vs.toArray, _, q, rfl, rfl, rfl, by rw [List.size_toArray, hi.length]; exact hl, by simpa using vals_ints hi⟩
  generalize start1 K a (cs.map (·.2)) vs ns = H at B hok seq
  have stay : ∀ {b : Addr} {o : Obj}, s₁.heap.get? b = some o → (o.cls = .type "list" → False) → (o.cls = .none → False) → (hidT s₁.heap H).get? b = some o := fun {b o} e h1 h2 => hidT_get e (B.off (fun q _ => by
    subst q
    exact h1 (by rw [isA e])) fun z => h2 (by rw [emp z e]))
  have dicts : ∀ {b : Addr} {m : Str → Option Value}, s₁.heap.Ns b m → (hidT s₁.heap H).Ns b m := by
    rintro b m ⟨o, es, ep, e, d, r⟩
    refine ⟨o, es, ep, hidT_get e (B.off (fun q _ => ?_) fun z => ?_), d, r⟩
    · subst q
      rw [isA e] at d
      cases d
    · rw [emp z e] at d
      cases d
  have KB : K.In (hidT s₁.heap H) := fun b o e => hidT_get (KX b o e) (B.off (fun q n => by
    subst q
    cases n.symm.trans e) fun z => by
    obtain ⟨p, hp, rfl⟩ := inT z
    cases (tab p hp).2.1.symm.trans e)
  have noG : ∀ {o : Obj} {b : Addr}, s₁.heap.get? b = some o → (∀ es ep, o.data ≠ .dict es ep) → mainGlobals ≠ b := fun {o b} e q z => by
    subst z
    obtain ⟨o', es, ep, e', d, _⟩ := hns
    cases e.symm.trans e'
    exact q _ _ d
  have TB : ∀ p ∈ cs, TabB (hidT s₁.heap H) mg p.1 p.2 := fun p hp => by
    obtain ⟨t1, _, t3⟩ := tab p hp
    obtain ⟨o, us, file, tf, flags, tg, inF, text, tt, e1, e2, rest⟩ := t3
    obtain ⟨bm, ob, b1, b2, b3, b4, b5, b6⟩ := bmn
    refine ⟨⟨o, us, file, tf, flags, tg, inF, text, tt, stay e1 (by rw [e2]; exact fun z => nomatch z) (by rw [e2]; exact fun z => nomatch z), e2, rest⟩, ⟨bm, ob, b1, b2, ?_, ?_, stay b3 (by rw [b4]; intro z; injection z with z; exact absurd z (by decide)) (by rw [b4]; exact fun z => nomatch z), b4, b5, b6⟩, noG t1 fun _ _ z => nomatch z⟩
    · exact fun z => noG b3 (by rw [b6]; exact fun _ _ z => nomatch z) z.symm
    · rintro rfl
      cases b3.symm.trans t1
      cases b4
  have none0 : ∀ b, b ∉ frs ([] : List Env) := fun b => by unfold frs; simp
  have M : Mod K mg (hidT s₁.heap H) := ⟨KB, dicts hns, ⟨mb, dicts hb, hbb⟩, let ⟨mc, h1, h2⟩ := hlim; ⟨mc, dicts h1, h2⟩⟩
  have e0 : Env0 P w K mg (hidT s₁.heap H) callerA [] s₁ H := ⟨rfl, M, fun b o e => of_hidT e, Nat.le_of_eq (hidT_size _ _), trivial, fun b q => absurd q (none0 b), hok, .of_eq hg⟩
  have tabs0 : ∀ p ∈ cs, H p.2 = some (.tbl #[]) := fun p hp => B.tabs _ (List.mem_map.mpr ⟨p, hp, rfl⟩)
  refine codeAny_mono ((F _ KB (dicts hns) TB).run callerA [] s₁ H ⟨[.ref a], []⟩ [.ref a] [.ref a] _ _ rfl hr e0 (bind s₁ (.ref a)) (.cons rfl .nil) (want H tabs0 seq)) fun r s' got => ?_
  rcases r with er | fl
  · exact False.elim got
  cases fl <;> first | exact False.elim got | skip
  obtain ⟨v, H', os, bare, un, hok', r', q⟩ := got
  subst q
  cases r'
  have kept : ∀ b o, b ∉ cs.map (·.2) → s₁.heap.get? b = some o → s'.heap.get? b = some o := fun b o nb e => by
    cases z : H b with
    | none => exact un.keep b o e z (none0 b) (by simp)
    | some u =>
      rcases B.kind b u z with ⟨ob, xs, rfl⟩ | m
      · obtain ⟨e1, _⟩ := hok b _ z
        obtain ⟨e2, _⟩ := hok' b _ (un.frzs b ob _ z)
        cases e1.symm.trans e
        exact e2
      · exact absurd m nb
  have more : ∀ b, b ∈ cs.map (·.2) → ∃ ps, s'.heap.get? b = some (PySem.W.tabObj ps) := fun b m => by
    obtain ⟨ps, z⟩ := un.tbls b #[] (B.tabs b m)
    exact ⟨_, hok' b _ z⟩
  refine ⟨rfl, ⟨fun b o e => ?_, fun b o e => ?_⟩, os, bare⟩
  · by_cases m : b ∈ cs.map (·.2)
    · obtain ⟨p, hp, rfl⟩ := inT m
      obtain ⟨ps, z⟩ := more _ m
      cases emp m e
      exact .inr (.inl ⟨((tab p hp).2.2.tab (tab p hp).1).isCodeTable, rfl, #[], ps, rfl, by rw [Array.empty_append]; exact z⟩)
    · exact .inl (kept b o m e)
  · by_cases m : b ∈ cs.map (·.2)
    · obtain ⟨ps, z⟩ := more _ m
      exact ⟨_, z⟩
    · exact ⟨o, kept b o m e⟩
end
/-- the tables of the codes of the defs named, as the head finds them -/
theorem walkGTs {l : PySem.W.OpenLaw} {n k : Nat} {q : Program} {loose : List Str} {XP : (Str → Option Value) → Heap → Prop} {YP : World → Heap → Prop} {d : DefRec} {K : Params → PySem.W.Frag} {sp : List (Addr × Addr) → World → Sp} {x : Str} (names : List Str)
    (hn : l.most = some n) (hn2 : n ≤ sizeLine) (hdf : d.params.defaults = []) (hr : Room k callerA) (hrec : ∀ y ∈ names, ((recsOf q).any fun e => e.name == y) = true) (hY : ∀ (w : World) (h : Heap), YP w h → (K w.params).In h)
    (F : ∀ (w : World) (mg : Str → Option Value) (fa : Addr) (h : Heap), (K w.params).In h → h.Ns mainGlobals mg → mg d.name = some (.ref fa) → (∀ y ∈ names, ∀ fy, mg y = some (.ref fy) → OwnTab (K w.params) fy h) →
      ∃ (fd : FuncData) (cs : List (Addr × Addr)), (∀ p ∈ cs, h.get? p.2 = some (PySem.W.tabObj #[]) ∧ (K w.params).lookup p.2 = none ∧ PySem.W.CodeHd h p.1 p.2) ∧ (∀ (s : Shared) (u : Value), BindsTo s fd ⟨[u], []⟩ [(x, u)]) ∧
        ∀ base : Heap, (K w.params).In base → base.Ns mainGlobals mg → (∀ p ∈ cs, TabB base mg p.1 p.2) → FnG l.prog w (K w.params) mg base CX0 k fa fd [x] (sp cs w))
    (want : ∀ (cs : List (Addr × Addr)) (w : World) (H : Hp) (a : Addr) (ns : List Int), ns.length ≤ n → (∀ z ∈ ns, Builtin.Int.intBits z ≤ 1048576) → (∀ p ∈ cs, H p.2 = some (.tbl #[])) → SqL (K w.params) H a (ns.map V.int) → sp cs w [.ref a] H (fun v _ => v = .bl true) fun _ _ _ => False) :
    PySem.W.WalkO q loose XP YP l.row.toRowW d [] (fun f vs => PySem.call f vs) := by
  refine Att.attach_callB hn hdf fun w s₀ s₁ mg mb fa o pm cd doc a vs ns G Y ho hd hcd hmg hobj hints hlen hbits hg => ?_
  have KX := hY w _ Y
  have own : ∀ y ∈ names, ∀ fy, mg y = some (.ref fy) → OwnTab (K w.params) fy s₁.heap := fun y hy fy my c T o1 f1 e dd us sl k1 k2 k3 k4 k5 => by
    obtain ⟨dL, hm, same⟩ := List.any_eq_true.mp (hrec y hy)
    obtain ⟨_, o2, f2, _, _, g1, g2, g3, g4, _, ⟨⟨_, _, g5, _, g6, g7⟩, at_⟩⟩ := G.T.tab dL hm
    rw [beq_iff_eq.mp same, my] at g1
    cases g1
    cases (KX _ _ k1).symm.trans g2
    cases k2.symm.trans g3
    cases k3.symm.trans g4
    cases (KX _ _ k4).symm.trans g5
    cases g6
    cases k5.symm.trans g7
    exact at_
  obtain ⟨fd, cs, ht, hb, hF⟩ := F w mg fa _ KX G.T.g hmg own
  exact lawGT KX G.T.g G.T.b G.T.builtins G.T.nolimit hg ht G.T.bmain hobj hints (Nat.le_trans hlen hn2) hr hF hb fun H tabs seq => want cs w H a ns hlen hbits tabs seq
/-- the tables by the names of the defs whose codes they hold -/
def tabsOf (names : List Str) (cs : List (Addr × Addr)) : List (Addr × Str) := (cs.map (·.2)).zip (names.map lamQ)
theorem tabs_of {names : List Str} {cs : List (Addr × Addr)} {H : Hp} (h : ∀ p ∈ cs, H p.2 = some (.tbl #[])) : Tabs (tabsOf names cs) H := fun t ht => by
  obtain ⟨t1, t2⟩ := t
  obtain ⟨p, hp, e⟩ := List.mem_map.mp (List.of_mem_zip ht).1
  have := h p hp
  rw [e] at this
  exact TabS.nil this
end Kx
set_option Elab.async false
set_option maxRecDepth 100000
set_option autoImplicit false
namespace Kx
open PySem L2 PySem.Spec PyProof.Rows Rg Er Ru LamX Tn ClX SkE LiI
abbrev sInit_B : Stmt := inClass (top 4) 0
theorem free_of {ns : List (Str × NameKind)} (h : ns.all (fun y => decide (y.2 ≠ .free) || y.1 == "__class__") = true) : ∀ x, ns.lookup x = some .free → x = "__class__" := by
  intro x e
  have m : (x, NameKind.free) ∈ ns := by
    induction ns with
    | nil => cases e
    | cons y r ih =>
      obtain ⟨y1, y2⟩ := y
      by_cases q : (x == y1) = true
      · simp only [List.lookup, q] at e
        rw [beq_iff_eq.mp q]
        cases e
        exact List.mem_cons_self
      · have q' : (x == y1) = false := by simpa using q
        simp only [List.lookup, q'] at e
        exact List.mem_cons_of_mem _ (ih (by
          rw [List.all_cons, Bool.and_eq_true] at h
          exact h.2) e)
  have := List.all_eq_true.mp h _ m
  simpa using this
theorem esB : ErrS ["self", "part"] (defScope sInit_B) := ⟨rfl, by decide +kernel, by decide +kernel, by decide +kernel, rfl, rfl, free_of (by decide +kernel), rfl, rfl, rfl⟩
section
variable {P : Program} {w : World} {K : PySem.W.Frag} {mg : Str → Option Value} {base : Heap}
theorem ok_initB {C f cda cc : Addr} {oc dV kV doc pm ct : Value} {od an : Option Addr} {osl : Array (Option Value)} (T : ErrC P K C f cc cda) (O : OexC K C) (no : PySem.W.findIn K (.ref C) "part" = some none)
    (lk : K.lookup f = some ⟨oc, od, .func (PySem.W.ksFn "__init__" "BadSigns.__init__" (defArgs sInit_B) (defBody sInit_B) (defScope sInit_B) dV kV doc pm an (.ref cda) ct cc), osl⟩) (hcd : PySem.W.codeIn K (.ref cda) "BadSigns.__init__" = true) (gs : mg "super" = none) :
    FnOk P w K mg base CX0 1 f (PySem.W.ksFn "__init__" "BadSigns.__init__" (defArgs sInit_B) (defBody sInit_B) (defScope sInit_B) dV kV doc pm an (.ref cda) ct cc) ["self", "part"] (spErr1 C "part") := by
  refine ok_err T esB lk hcd gs rfl rfl rfl (fun vs H Q E h => ?_) (fun vs H Q E h => ?_) (fun A outer s H vs Q E h => rest1 esB O no rfl rfl A outer s H vs Q E h) (fun _ => rfl) (fun _ => rfl) (fun _ => rfl)
  · obtain ⟨a, v, rfl, _⟩ := h
    rfl
  · obtain ⟨a, v, rfl, ea, _⟩ := h
    exact ⟨a, _, rfl, ea⟩
end
abbrev N3 : List Str := ["law", "_law_right", "_law_names_right"]
set_option maxHeartbeats 0 in
theorem all_mk {l : PySem.W.OpenLaw} {w : World} {K : PySem.W.Frag} {h : Heap} {mg : Str → Option Value} {fa C : Addr} {tk : Tok} (X : K.In h) (G : h.Ns mainGlobals mg) (hfa : mg "law" = some (.ref fa)) (own : ∀ y ∈ N3, ∀ fy, mg y = some (.ref fy) → OwnTab K fy h)
    {CB : Addr} {nm_B q_B : Str} {N_B : Addr} {bs_B bm_B : List Value} {sn_B : List Str} {sub_B : List Value} {ab_B : Bool} {col_B : Option Bool} {dd_B : Option Addr} {w0_B w1_B w2_B w3_B w5_B : Option Value} {fe_B cc_B cda_B : Addr} {oce_B kVe_B doce_B pme_B cte_B : Value} {ode_B ane_B : Option Addr} {osle_B : Array (Option Value)} {cl_B ccl_B : Value} {cld_B cdd_B : Option Addr} {csl_B ccs_B : Array (Option Value)} {vs_B : Array Value} {file_B : Str} {tf_B : Tok}
    {f_fromto : Addr} {od_fromto an_fromto : Option Addr} {sl_fromto : Array (Option Value)} {oc_fromto kV_fromto dc_fromto pm_fromto cd_fromto ct_fromto : Value}
    {f_isletr : Addr} {od_isletr an_isletr : Option Addr} {sl_isletr : Array (Option Value)} {oc_isletr kV_isletr dc_isletr pm_isletr cd_isletr ct_isletr : Value}
    {f_ispair : Addr} {od_ispair an_ispair : Option Addr} {sl_ispair : Array (Option Value)} {oc_ispair kV_ispair dc_ispair pm_ispair cd_ispair ct_ispair : Value}
    {f_newl : Addr} {od_newl an_newl : Option Addr} {sl_newl : Array (Option Value)} {oc_newl kV_newl dc_newl pm_newl cd_newl ct_newl : Value}
    {f_pen : Addr} {od_pen an_pen : Option Addr} {sl_pen : Array (Option Value)} {oc_pen kV_pen dc_pen pm_pen cd_pen ct_pen : Value}
    {f_draw : Addr} {od_draw an_draw : Option Addr} {sl_draw : Array (Option Value)} {oc_draw kV_draw dc_draw pm_draw cd_draw ct_draw : Value}
    {f_pick : Addr} {od_pick an_pick : Option Addr} {sl_pick : Array (Option Value)} {oc_pick kV_pick dc_pick pm_pick cd_pick ct_pick : Value}
    {f_drawn : Addr} {od_drawn an_drawn : Option Addr} {sl_drawn : Array (Option Value)} {oc_drawn kV_drawn dc_drawn pm_drawn cd_drawn ct_drawn : Value}
    {f_spoilt : Addr} {od_spoilt an_spoilt : Option Addr} {sl_spoilt : Array (Option Value)} {oc_spoilt kV_spoilt dc_spoilt pm_spoilt cd_spoilt ct_spoilt : Value}
    {f_due : Addr} {od_due an_due : Option Addr} {sl_due : Array (Option Value)} {oc_due kV_due dc_due pm_due cd_due ct_due : Value}
    {f_hrd : Addr} {od_hrd an_hrd : Option Addr} {sl_hrd : Array (Option Value)} {oc_hrd kV_hrd dc_hrd pm_hrd cd_hrd ct_hrd : Value}
    {f_right cd_right tab_right : Addr} {od_right an_right odt_right : Option Addr} {sl_right slt_right : Array (Option Value)} {oc_right kV_right dc_right pm_right ct_right oct_right : Value} {vst_right : Array Value}
    {f_names cd_names tab_names : Addr} {od_names an_names odt_names : Option Addr} {sl_names slt_names : Array (Option Value)} {oc_names kV_names dc_names pm_names ct_names oct_names : Value} {vst_names : Array Value}
    {f_law cd_law tab_law : Addr} {od_law an_law odt_law : Option Addr} {sl_law slt_law : Array (Option Value)} {oc_law kV_law dc_law pm_law ct_law oct_law : Value} {vst_law : Array Value}
    {f_winit : Addr} {od_winit an_winit : Option Addr} {sl_winit : Array (Option Value)} {oc_winit kV_winit dc_winit pm_winit cd_winit ct_winit : Value}
    {f_wof : Addr} {od_wof an_wof : Option Addr} {sl_wof : Array (Option Value)} {oc_wof kV_wof dc_wof pm_wof cd_wof ct_wof : Value}
    {p_wof : Addr} {r_wof : List Value}
    {f_wsig : Addr} {od_wsig an_wsig : Option Addr} {sl_wsig : Array (Option Value)} {oc_wsig kV_wsig dc_wsig pm_wsig cd_wsig ct_wsig : Value}
    {p_wsig : Addr} {r_wsig : List Value}
    {f_wlen : Addr} {od_wlen an_wlen : Option Addr} {sl_wlen : Array (Option Value)} {oc_wlen kV_wlen dc_wlen pm_wlen cd_wlen ct_wlen : Value}
    {f_whas : Addr} {od_whas an_whas : Option Addr} {sl_whas : Array (Option Value)} {oc_whas kV_whas dc_whas pm_whas cd_whas ct_whas : Value}
    {f_witem : Addr} {od_witem an_witem : Option Addr} {sl_witem : Array (Option Value)} {oc_witem kV_witem dc_witem pm_witem cd_witem ct_witem : Value}
    {f_weq : Addr} {od_weq an_weq : Option Addr} {sl_weq : Array (Option Value)} {oc_weq kV_weq dc_weq pm_weq cd_weq ct_weq : Value}
    {f_wren : Addr} {od_wren an_wren : Option Addr} {sl_wren : Array (Option Value)} {oc_wren kV_wren dc_wren pm_wren cd_wren ct_wren : Value}
    (aC : PySem.W.nsIn K mainGlobals "Weights" = some (some (.ref C)))
    (aCB : PySem.W.nsIn K mainGlobals "BadSigns" = some (some (.ref CB)))
    (xL_B : K.lookup CB = some (excClassObj nm_B q_B CB N_B bs_B bm_B true sn_B sub_B ab_B col_B dd_B w0_B w1_B w2_B w3_B w5_B "ValueError.__new__"))
    (rv_B : PySem.HandSPX.refsVE bm_B = true)
    (sa_B : PySem.W.findIn K (.ref CB) "__setattr__" = some (some (.builtin "object.__setattr__")))
    (ex_B : PySem.W.subIn K (.ref CB) (.type "BaseException") = some true)
    (ty_B : PySem.W.typeIn K (.ref CB) = some (.type "type"))
    (kC_B : PySem.W.keepIn K (.ref CB) = true)
    (ga_B : PySem.W.findIn K (.ref CB) "__getattribute__" = some (some (.builtin "BaseException.__getattribute__")))
    (gg_B : PySem.W.findIn K (.ref CB) "__getattr__" = some none)
    (hdc_B : PySem.W.hasDictIn K CB = true)
    (ini_B : PySem.W.findIn K (.ref CB) "__init__" = some (some (.ref fe_B)))
    (ti_B : PySem.W.typeIn K (.ref fe_B) = some (.type "function"))
    (le_B : K.lookup fe_B = some ⟨oce_B, ode_B, .func (PySem.W.ksFn "__init__" "BadSigns.__init__" (defArgs sInit_B) (defBody sInit_B) (defScope sInit_B) .none kVe_B doce_B pme_B ane_B (.ref cda_B) cte_B cc_B), osle_B⟩)
    (ce_B : PySem.W.codeIn K (.ref cda_B) "BadSigns.__init__" = true)
    (no_B : PySem.W.findIn K (.ref CB) "part" = some none)
    (su_B : PySem.W.ks_superIn K CB CB "__init__" = some (some (.builtin veInit)))
    (ve_B : PySem.W.subIn K (.ref CB) (.type "ValueError") = some true)
    (se_B : PySem.W.mroIn K CB (.ref CB) = some true)
    (cel_B : K.lookup cc_B = some ⟨cl_B, cld_B, .cell (some (.ref CB)), csl_B⟩)
    (cod_B : K.lookup cda_B = some ⟨ccl_B, cdd_B, .fields vs_B, ccs_B⟩)
    (v2_B : vs_B[2]? = some (.str file_B tf_B))
    (fl_B : ((l.prog.main.file : Str) == file_B) = true)
    (em_B : PySem.W.exmOne K (.ref CB) (.ref CB) = some true)
    (ay : PySem.W.nsIn K cStatics "thirdparty.any" = some none)
    (tp : (l.prog.main.scope.names.lookup ("super" : Str)).isSome = false)
    (cg : PySem.W.specialIn K (.builtin "object.__class__") "__get__" = some (some (.builtin "getset_descriptor.__get__")))
    (ct : PySem.W.takesIn K (.builtin "object.__class__") = some true)
    (a_fromto : PySem.W.nsIn K mainGlobals "is_from_to" = some (some (.ref f_fromto)))
    (l_fromto : K.lookup f_fromto = some ⟨oc_fromto, od_fromto, .func (PySem.W.fnOf "is_from_to" "is_from_to" (defArgs sFromTo) (defBody sFromTo) (defScope sFromTo) .none kV_fromto dc_fromto pm_fromto an_fromto cd_fromto ct_fromto), sl_fromto⟩)
    (c_fromto : PySem.W.codeIn K cd_fromto "is_from_to" = true)
    (k_fromto : PySem.W.keepIn K (.ref f_fromto) = true)
    (a_isletr : PySem.W.nsIn K mainGlobals "is_letter" = some (some (.ref f_isletr)))
    (l_isletr : K.lookup f_isletr = some ⟨oc_isletr, od_isletr, .func (PySem.W.fnOf "is_letter" "is_letter" (defArgs sIsLetter) (defBody sIsLetter) (defScope sIsLetter) .none kV_isletr dc_isletr pm_isletr an_isletr cd_isletr ct_isletr), sl_isletr⟩)
    (c_isletr : PySem.W.codeIn K cd_isletr "is_letter" = true)
    (k_isletr : PySem.W.keepIn K (.ref f_isletr) = true)
    (a_ispair : PySem.W.nsIn K mainGlobals "is_pair" = some (some (.ref f_ispair)))
    (l_ispair : K.lookup f_ispair = some ⟨oc_ispair, od_ispair, .func (PySem.W.fnOf "is_pair" "is_pair" (defArgs sIsPair) (defBody sIsPair) (defScope sIsPair) .none kV_ispair dc_ispair pm_ispair an_ispair cd_ispair ct_ispair), sl_ispair⟩)
    (c_ispair : PySem.W.codeIn K cd_ispair "is_pair" = true)
    (k_ispair : PySem.W.keepIn K (.ref f_ispair) = true)
    (a_newl : PySem.W.nsIn K mainGlobals "new_letters" = some (some (.ref f_newl)))
    (l_newl : K.lookup f_newl = some ⟨oc_newl, od_newl, .func (PySem.W.fnOf "new_letters" "new_letters" (defArgs sNewL) (defBody sNewL) (defScope sNewL) .none kV_newl dc_newl pm_newl an_newl cd_newl ct_newl), sl_newl⟩)
    (c_newl : PySem.W.codeIn K cd_newl "new_letters" = true)
    (k_newl : PySem.W.keepIn K (.ref f_newl) = true)
    (a_pen : PySem.W.nsIn K mainGlobals "_law_pen" = some (some (.ref f_pen)))
    (l_pen : K.lookup f_pen = some ⟨oc_pen, od_pen, .func (PySem.W.fnOf "_law_pen" "_law_pen" (defArgs sPen) (defBody sPen) (defScope sPen) .none kV_pen dc_pen pm_pen an_pen cd_pen ct_pen), sl_pen⟩)
    (c_pen : PySem.W.codeIn K cd_pen "_law_pen" = true)
    (k_pen : PySem.W.keepIn K (.ref f_pen) = true)
    (a_draw : PySem.W.nsIn K mainGlobals "_law_draw" = some (some (.ref f_draw)))
    (l_draw : K.lookup f_draw = some ⟨oc_draw, od_draw, .func (PySem.W.fnOf "_law_draw" "_law_draw" (defArgs sDraw) (defBody sDraw) (defScope sDraw) .none kV_draw dc_draw pm_draw an_draw cd_draw ct_draw), sl_draw⟩)
    (c_draw : PySem.W.codeIn K cd_draw "_law_draw" = true)
    (k_draw : PySem.W.keepIn K (.ref f_draw) = true)
    (a_pick : PySem.W.nsIn K mainGlobals "_law_pick" = some (some (.ref f_pick)))
    (l_pick : K.lookup f_pick = some ⟨oc_pick, od_pick, .func (PySem.W.fnOf "_law_pick" "_law_pick" (defArgs sPick) (defBody sPick) (defScope sPick) .none kV_pick dc_pick pm_pick an_pick cd_pick ct_pick), sl_pick⟩)
    (c_pick : PySem.W.codeIn K cd_pick "_law_pick" = true)
    (k_pick : PySem.W.keepIn K (.ref f_pick) = true)
    (a_drawn : PySem.W.nsIn K mainGlobals "_law_drawn" = some (some (.ref f_drawn)))
    (l_drawn : K.lookup f_drawn = some ⟨oc_drawn, od_drawn, .func (PySem.W.fnOf "_law_drawn" "_law_drawn" (defArgs sDrawn) (defBody sDrawn) (defScope sDrawn) .none kV_drawn dc_drawn pm_drawn an_drawn cd_drawn ct_drawn), sl_drawn⟩)
    (c_drawn : PySem.W.codeIn K cd_drawn "_law_drawn" = true)
    (k_drawn : PySem.W.keepIn K (.ref f_drawn) = true)
    (a_spoilt : PySem.W.nsIn K mainGlobals "_law_spoilt" = some (some (.ref f_spoilt)))
    (l_spoilt : K.lookup f_spoilt = some ⟨oc_spoilt, od_spoilt, .func (PySem.W.fnOf "_law_spoilt" "_law_spoilt" (defArgs sSpoilt) (defBody sSpoilt) (defScope sSpoilt) .none kV_spoilt dc_spoilt pm_spoilt an_spoilt cd_spoilt ct_spoilt), sl_spoilt⟩)
    (c_spoilt : PySem.W.codeIn K cd_spoilt "_law_spoilt" = true)
    (k_spoilt : PySem.W.keepIn K (.ref f_spoilt) = true)
    (a_due : PySem.W.nsIn K mainGlobals "_law_due" = some (some (.ref f_due)))
    (l_due : K.lookup f_due = some ⟨oc_due, od_due, .func (PySem.W.fnOf "_law_due" "_law_due" (defArgs sDue) (defBody sDue) (defScope sDue) .none kV_due dc_due pm_due an_due cd_due ct_due), sl_due⟩)
    (c_due : PySem.W.codeIn K cd_due "_law_due" = true)
    (k_due : PySem.W.keepIn K (.ref f_due) = true)
    (a_hrd : PySem.W.nsIn K mainGlobals "_law_heard" = some (some (.ref f_hrd)))
    (l_hrd : K.lookup f_hrd = some ⟨oc_hrd, od_hrd, .func (PySem.W.fnOf "_law_heard" "_law_heard" (defArgs sHeard) (defBody sHeard) (defScope sHeard) .none kV_hrd dc_hrd pm_hrd an_hrd cd_hrd ct_hrd), sl_hrd⟩)
    (c_hrd : PySem.W.codeIn K cd_hrd "_law_heard" = true)
    (k_hrd : PySem.W.keepIn K (.ref f_hrd) = true)
    (a_right : PySem.W.nsIn K mainGlobals "_law_right" = some (some (.ref f_right)))
    (l_right : K.lookup f_right = some ⟨oc_right, od_right, .func (PySem.W.fnOf "_law_right" "_law_right" (defArgs sRight) (defBody sRight) (defScope sRight) .none kV_right dc_right pm_right an_right (.ref cd_right) ct_right), sl_right⟩)
    (c_right : PySem.W.codeIn K (.ref cd_right) "_law_right" = true)
    (k_right : PySem.W.keepIn K (.ref f_right) = true)
    (lct_right : K.lookup cd_right = some ⟨oct_right, odt_right, .fields vst_right, slt_right⟩)
    (v11_right : vst_right[11]? = some (.ref tab_right))
    (hct_right : PySem.W.codeHdIn K cd_right tab_right = true)
    (ntb_right : K.lookup tab_right = none)
    (a_names : PySem.W.nsIn K mainGlobals "_law_names_right" = some (some (.ref f_names)))
    (l_names : K.lookup f_names = some ⟨oc_names, od_names, .func (PySem.W.fnOf "_law_names_right" "_law_names_right" (defArgs sNames) (defBody sNames) (defScope sNames) .none kV_names dc_names pm_names an_names (.ref cd_names) ct_names), sl_names⟩)
    (c_names : PySem.W.codeIn K (.ref cd_names) "_law_names_right" = true)
    (k_names : PySem.W.keepIn K (.ref f_names) = true)
    (lct_names : K.lookup cd_names = some ⟨oct_names, odt_names, .fields vst_names, slt_names⟩)
    (v11_names : vst_names[11]? = some (.ref tab_names))
    (hct_names : PySem.W.codeHdIn K cd_names tab_names = true)
    (ntb_names : K.lookup tab_names = none)
    (a_law : PySem.W.nsIn K mainGlobals "law" = some (some (.ref f_law)))
    (l_law : K.lookup f_law = some ⟨oc_law, od_law, .func (PySem.W.fnOf "law" "law" (defArgs sLaw) (defBody sLaw) (defScope sLaw) .none kV_law dc_law pm_law an_law (.ref cd_law) ct_law), sl_law⟩)
    (c_law : PySem.W.codeIn K (.ref cd_law) "law" = true)
    (k_law : PySem.W.keepIn K (.ref f_law) = true)
    (lct_law : K.lookup cd_law = some ⟨oct_law, odt_law, .fields vst_law, slt_law⟩)
    (v11_law : vst_law[11]? = some (.ref tab_law))
    (hct_law : PySem.W.codeHdIn K cd_law tab_law = true)
    (ntb_law : K.lookup tab_law = none)
    (d_law_right : tab_law ≠ tab_right)
    (d_law_names : tab_law ≠ tab_names)
    (d_right_names : tab_right ≠ tab_names)
    (a_winit : PySem.W.findIn K (.ref C) "__init__" = some (some (.ref f_winit)))
    (i_winit : PySem.W.isFn K (.ref f_winit) = true)
    (l_winit : K.lookup f_winit = some ⟨oc_winit, od_winit, .func (PySem.W.fnOf "__init__" "Weights.__init__" (defArgs sWInit) (defBody sWInit) (defScope sWInit) .none kV_winit dc_winit pm_winit an_winit cd_winit ct_winit), sl_winit⟩)
    (c_winit : PySem.W.codeIn K cd_winit "Weights.__init__" = true)
    (k_winit : PySem.W.keepIn K (.ref f_winit) = true)
    (a_wof : PySem.W.findIn K (.ref C) "of" = some (some (.ref p_wof)))
    (q_wof : PySem.W.recIn K p_wof "classmethod" = some (.ref f_wof :: r_wof))
    (fc_wof : PySem.W.findCls K (.ref C) (.type "type") "of" = some (.get (.builtin "classmethod.__get__") (.ref p_wof) .none (.ref C)))
    (fi_wof : PySem.W.fnIn K f_wof = true)
    (l_wof : K.lookup f_wof = some ⟨oc_wof, od_wof, .func (PySem.W.fnOf "of" "Weights.of" (defArgs sWOf) (defBody sWOf) (defScope sWOf) .none kV_wof dc_wof pm_wof an_wof cd_wof ct_wof), sl_wof⟩)
    (c_wof : PySem.W.codeIn K cd_wof "Weights.of" = true)
    (k_wof : PySem.W.keepIn K (.ref f_wof) = true)
    (a_wsig : PySem.W.findIn K (.ref C) "signs" = some (some (.ref p_wsig)))
    (g_wsig : PySem.W.specialIn K (.ref p_wsig) "__get__" = some (some (.builtin "property.__get__")))
    (t_wsig : PySem.W.takesIn K (.ref p_wsig) = some true)
    (q_wsig : PySem.W.recIn K p_wsig "property" = some (.ref f_wsig :: r_wsig))
    (l_wsig : K.lookup f_wsig = some ⟨oc_wsig, od_wsig, .func (PySem.W.fnOf "signs" "Weights.signs" (defArgs sWSigns) (defBody sWSigns) (defScope sWSigns) .none kV_wsig dc_wsig pm_wsig an_wsig cd_wsig ct_wsig), sl_wsig⟩)
    (c_wsig : PySem.W.codeIn K cd_wsig "Weights.signs" = true)
    (k_wsig : PySem.W.keepIn K (.ref f_wsig) = true)
    (a_wlen : PySem.W.findIn K (.ref C) "__len__" = some (some (.ref f_wlen)))
    (i_wlen : PySem.W.isFn K (.ref f_wlen) = true)
    (l_wlen : K.lookup f_wlen = some ⟨oc_wlen, od_wlen, .func (PySem.W.fnOf "__len__" "Weights.__len__" (defArgs sWLen) (defBody sWLen) (defScope sWLen) .none kV_wlen dc_wlen pm_wlen an_wlen cd_wlen ct_wlen), sl_wlen⟩)
    (c_wlen : PySem.W.codeIn K cd_wlen "Weights.__len__" = true)
    (k_wlen : PySem.W.keepIn K (.ref f_wlen) = true)
    (a_whas : PySem.W.findIn K (.ref C) "__contains__" = some (some (.ref f_whas)))
    (i_whas : PySem.W.isFn K (.ref f_whas) = true)
    (l_whas : K.lookup f_whas = some ⟨oc_whas, od_whas, .func (PySem.W.fnOf "__contains__" "Weights.__contains__" (defArgs sWHas) (defBody sWHas) (defScope sWHas) .none kV_whas dc_whas pm_whas an_whas cd_whas ct_whas), sl_whas⟩)
    (c_whas : PySem.W.codeIn K cd_whas "Weights.__contains__" = true)
    (k_whas : PySem.W.keepIn K (.ref f_whas) = true)
    (a_witem : PySem.W.findIn K (.ref C) "__getitem__" = some (some (.ref f_witem)))
    (i_witem : PySem.W.isFn K (.ref f_witem) = true)
    (j_witem : PySem.W.fnIn K f_witem = true)
    (l_witem : K.lookup f_witem = some ⟨oc_witem, od_witem, .func (PySem.W.fnOf "__getitem__" "Weights.__getitem__" (defArgs sWItem) (defBody sWItem) (defScope sWItem) .none kV_witem dc_witem pm_witem an_witem cd_witem ct_witem), sl_witem⟩)
    (c_witem : PySem.W.codeIn K cd_witem "Weights.__getitem__" = true)
    (k_witem : PySem.W.keepIn K (.ref f_witem) = true)
    (a_weq : PySem.W.findIn K (.ref C) "__eq__" = some (some (.ref f_weq)))
    (i_weq : PySem.W.isFn K (.ref f_weq) = true)
    (l_weq : K.lookup f_weq = some ⟨oc_weq, od_weq, .func (PySem.W.fnOf "__eq__" "Weights.__eq__" (defArgs sWEq) (defBody sWEq) (defScope sWEq) .none kV_weq dc_weq pm_weq an_weq cd_weq ct_weq), sl_weq⟩)
    (c_weq : PySem.W.codeIn K cd_weq "Weights.__eq__" = true)
    (k_weq : PySem.W.keepIn K (.ref f_weq) = true)
    (a_wren : PySem.W.findIn K (.ref C) "renamed" = some (some (.ref f_wren)))
    (i_wren : PySem.W.isFn K (.ref f_wren) = true)
    (l_wren : K.lookup f_wren = some ⟨oc_wren, od_wren, .func (PySem.W.fnOf "renamed" "Weights.renamed" (defArgs sRenamed) (defBody sRenamed) (defScope sRenamed) .none kV_wren dc_wren pm_wren an_wren cd_wren ct_wren), sl_wren⟩)
    (c_wren : PySem.W.codeIn K cd_wren "Weights.renamed" = true)
    (k_wren : PySem.W.keepIn K (.ref f_wren) = true)
    (pg : PySem.W.plainGet K C Str.empty = true)
    (hdi : PySem.W.hasDictIn K C = true)
    (po : PySem.W.plainOver K C = true)
    (sat : PySem.W.findIn K (.ref C) "__setattr__" = some (some (.builtin "object.__setattr__")))
    (mk : PySem.W.makesIn K C = true)
    (kc : PySem.W.keepIn K (.ref C) = true)
    (ca : PySem.W.findIn K (.ref C) "__class__" = some (some (.builtin "object.__class__")))
    (ob : PySem.W.mroIn K C (.type "object") = some true)
    (n__signs : PySem.W.findIn K (.ref C) "_signs" = some none)
    (n_pairs : PySem.W.findIn K (.ref C) "pairs" = some none)
    (rdC : PySem.W.readsIn K C (.type "type") = true)
    (gaC : PySem.W.specialIn K (.ref C) "__getattribute__" = some (some (.builtin "type.__getattribute__")))
    (wne : PySem.W.findIn K (.ref C) "__ne__" = some (some (.builtin "object.__ne__")))
    (nfL : PySem.W.notFirst K C (.type "list") = true)
    (kL : PySem.W.kitOne K (.type "list") (.ref C) = some false)
    (kC : PySem.W.kitOne K (.ref C) (.ref C) = some true)
    (aL : PySem.W.nsIn K mainGlobals "LETTERS" = some (some (.str "abcdefghijklmnopqrstuvwxyz" tk)))
    (z_len : PySem.W.nsIn K mainGlobals "len" = some none)
    (z_int : PySem.W.nsIn K mainGlobals "int" = some none)
    (z_abs : PySem.W.nsIn K mainGlobals "abs" = some none)
    (z_list : PySem.W.nsIn K mainGlobals "list" = some none)
    (z_tuple : PySem.W.nsIn K mainGlobals "tuple" = some none)
    (z_range : PySem.W.nsIn K mainGlobals "range" = some none)
    (z_repr : PySem.W.nsIn K mainGlobals "repr" = some none)
    (z_isinstance : PySem.W.nsIn K mainGlobals "isinstance" = some none)
    (z_all : PySem.W.nsIn K mainGlobals "all" = some none)
    (z_set : PySem.W.nsIn K mainGlobals "set" = some none)
    (z_bool : PySem.W.nsIn K mainGlobals "bool" = some none)
    (z_str : PySem.W.nsIn K mainGlobals "str" = some none)
    (z_super : PySem.W.nsIn K mainGlobals "super" = some none)
    (z_enumerate : PySem.W.nsIn K mainGlobals "enumerate" = some none)
    (z_dict : PySem.W.nsIn K mainGlobals "dict" = some none)
    : ∃ (fd : FuncData) (cs : List (Addr × Addr)), (∀ p ∈ cs, h.get? p.2 = some (PySem.W.tabObj #[]) ∧ K.lookup p.2 = none ∧ PySem.W.CodeHd h p.1 p.2) ∧ (∀ (s : Shared) (v : Value), BindsTo s fd ⟨[v], []⟩ [("_law_script", v)]) ∧
      ∀ base : Heap, K.In base → base.Ns mainGlobals mg → (∀ p ∈ cs, TabB base mg p.1 p.2) → FnG l.prog w K mg base CX0 10 fa fd ["_law_script"] (spLaw K (tabsOf N3 cs)) := by
  have e := hfa.symm.trans (PySem.W.mg_of X G a_law)
  cases e
  have T : Txt mg := ⟨PySem.W.mg_none_of X G z_len, PySem.W.mg_none_of X G z_int, PySem.W.mg_none_of X G z_abs, PySem.W.mg_none_of X G z_list, PySem.W.mg_none_of X G z_tuple, PySem.W.mg_none_of X G z_range, PySem.W.mg_none_of X G z_repr, PySem.W.mg_none_of X G z_isinstance, PySem.W.mg_none_of X G z_all, PySem.W.mg_none_of X G z_set⟩
  have zB := PySem.W.mg_none_of X G z_bool
  have zS := PySem.W.mg_none_of X G z_str
  have zP := PySem.W.mg_none_of X G z_super
  have zE := PySem.W.mg_none_of X G z_enumerate
  have zD := PySem.W.mg_none_of X G z_dict
  have mL : mg "LETTERS" = some (.str abc tk) := PySem.W.mg_of X G aL
  have gC : mg "Weights" = some (.ref C) := PySem.W.mg_of X G aC
  have cl : Cls K C := ⟨pg, hdi, po, sat⟩
  have M : WT K C := ⟨cl, n__signs, n_pairs⟩
  have I : InsT K C := ⟨cl, ca, cg, ct, ob⟩
  have rdd : ClX.CRead K C (.type "type") := ⟨rdC, gaC⟩
  have NeW : NeT K C f_weq := ⟨ob, wne, a_weq, i_weq⟩
  have O_B : OexC K CB := ⟨⟨_, _, _, _, _, _, _, _, _, _, _, _, _, _, _, xL_B, rv_B⟩, sa_B, ex_B, ty_B, kC_B⟩
  have R_B : ErrC l.prog K CB fe_B cc_B cda_B := ⟨⟨_, _, _, _, _, _, _, _, _, _, _, _, _, _, _, xL_B, rv_B⟩, su_B, ay, ve_B, se_B, ⟨_, _, _, cel_B⟩, ⟨_, _, _, _, _, _, cod_B, v2_B, fl_B⟩, tp⟩
  have Hp_B : HearP K mg "BadSigns" "part" CB := ⟨PySem.W.mg_of X G aCB, ⟨ga_B, gg_B, ex_B, hdc_B⟩, em_B, no_B⟩
  have F_fromto := fun_mk (st := sFromTo) l_fromto c_fromto k_fromto
  have b_fromto := F_fromto.binds (ps := ["value", "low", "high"]) fun _ _ _ _ _ _ us hl => match us, hl with | [_, _, _], _ => rfl
  have F_isletr := fun_mk (st := sIsLetter) l_isletr c_isletr k_isletr
  have b_isletr := F_isletr.binds (ps := ["value"]) fun _ _ _ _ _ _ us hl => match us, hl with | [_], _ => rfl
  have F_ispair := fun_mk (st := sIsPair) l_ispair c_ispair k_ispair
  have b_ispair := F_ispair.binds (ps := ["value"]) fun _ _ _ _ _ _ us hl => match us, hl with | [_], _ => rfl
  have F_newl := fun_mk (st := sNewL) l_newl c_newl k_newl
  have b_newl := F_newl.binds (ps := ["signs", "names"]) fun _ _ _ _ _ _ us hl => match us, hl with | [_, _], _ => rfl
  have F_pen := fun_mk (st := sPen) l_pen c_pen k_pen
  have b_pen := F_pen.binds (ps := ["_law_script"]) fun _ _ _ _ _ _ us hl => match us, hl with | [_], _ => rfl
  have F_draw := fun_mk (st := sDraw) l_draw c_draw k_draw
  have b_draw := F_draw.binds (ps := ["_law_pen_here", "_law_many"]) fun _ _ _ _ _ _ us hl => match us, hl with | [_, _], _ => rfl
  have F_pick := fun_mk (st := sPick) l_pick c_pick k_pick
  have b_pick := F_pick.binds (ps := ["_law_pen_here", "_law_things"]) fun _ _ _ _ _ _ us hl => match us, hl with | [_, _], _ => rfl
  have F_drawn := fun_mk (st := sDrawn) l_drawn c_drawn k_drawn
  have b_drawn := F_drawn.binds (ps := ["_law_pen_here"]) fun _ _ _ _ _ _ us hl => match us, hl with | [_], _ => rfl
  have F_spoilt := fun_mk (st := sSpoilt) l_spoilt c_spoilt k_spoilt
  have b_spoilt := F_spoilt.binds (ps := ["_law_pen_here", "_law_listed"]) fun _ _ _ _ _ _ us hl => match us, hl with | [_, _], _ => rfl
  have F_due := fun_mk (st := sDue) l_due c_due k_due
  have b_due := F_due.binds (ps := ["_law_listed"]) fun _ _ _ _ _ _ us hl => match us, hl with | [_], _ => rfl
  have F_hrd := fun_mk (st := sHeard) l_hrd c_hrd k_hrd
  have b_hrd := F_hrd.binds (ps := ["_law_asking"]) fun _ _ _ _ _ _ us hl => match us, hl with | [_], _ => rfl
  have F_right := fun_mk (st := sRight) l_right c_right k_right
  have b_right := F_right.binds (ps := ["_law_pen_here", "_law_listed"]) fun _ _ _ _ _ _ us hl => match us, hl with | [_, _], _ => rfl
  have F_names := fun_mk (st := sNames) l_names c_names k_names
  have b_names := F_names.binds (ps := ["_law_pen_here", "_law_listed"]) fun _ _ _ _ _ _ us hl => match us, hl with | [_, _], _ => rfl
  have F_law := fun_mk (st := sLaw) l_law c_law k_law
  have b_law := F_law.binds (ps := ["_law_script"]) fun _ _ _ _ _ _ us hl => match us, hl with | [_], _ => rfl
  have F_winit := fun_mk (st := sWInit) l_winit c_winit k_winit
  have F_wof := fun_mk (st := sWOf) l_wof c_wof k_wof
  have b_wof := F_wof.binds (ps := ["cls", "pairs"]) fun _ _ _ _ _ _ us hl => match us, hl with | [_, _], _ => rfl
  have F_wsig := fun_mk (st := sWSigns) l_wsig c_wsig k_wsig
  have b_wsig := F_wsig.binds (ps := ["self"]) fun _ _ _ _ _ _ us hl => match us, hl with | [_], _ => rfl
  have F_wlen := fun_mk (st := sWLen) l_wlen c_wlen k_wlen
  have b_wlen := F_wlen.binds (ps := ["self"]) fun _ _ _ _ _ _ us hl => match us, hl with | [_], _ => rfl
  have F_whas := fun_mk (st := sWHas) l_whas c_whas k_whas
  have b_whas := F_whas.binds (ps := ["self", "x"]) fun _ _ _ _ _ _ us hl => match us, hl with | [_, _], _ => rfl
  have F_witem := fun_mk (st := sWItem) l_witem c_witem k_witem
  have b_witem := F_witem.binds (ps := ["self", "at"]) fun _ _ _ _ _ _ us hl => match us, hl with | [_, _], _ => rfl
  have F_weq := fun_mk (st := sWEq) l_weq c_weq k_weq
  have b_weq := F_weq.binds (ps := ["self", "other"]) fun _ _ _ _ _ _ us hl => match us, hl with | [_, _], _ => rfl
  have F_wren := fun_mk (st := sRenamed) l_wren c_wren k_wren
  have b_wren := F_wren.binds (ps := ["self", "names"]) fun _ _ _ _ _ _ us hl => match us, hl with | [_, _], _ => rfl
  have m_fromto := PySem.W.mg_of X G a_fromto
  have m_isletr := PySem.W.mg_of X G a_isletr
  have m_ispair := PySem.W.mg_of X G a_ispair
  have m_newl := PySem.W.mg_of X G a_newl
  have m_pen := PySem.W.mg_of X G a_pen
  have m_draw := PySem.W.mg_of X G a_draw
  have m_pick := PySem.W.mg_of X G a_pick
  have m_drawn := PySem.W.mg_of X G a_drawn
  have m_spoilt := PySem.W.mg_of X G a_spoilt
  have m_due := PySem.W.mg_of X G a_due
  have m_hrd := PySem.W.mg_of X G a_hrd
  have m_right := PySem.W.mg_of X G a_right
  have m_names := PySem.W.mg_of X G a_names
  have m_law := PySem.W.mg_of X G a_law
  have kbF : KBn K _ ["cls", "pairs"] 1 ["pairs"] (fun us ws => us ++ ws) (fun us ws => us ++ ws) := kbMk F_wof (fun _ _ _ _ _ _ us ws l1 l2 => match us, ws, l1, l2 with | [_], [_], _, _ => rfl) fun a b => vapp a b
  have cm : ClX.CMet K C (.type "type") "of" p_wof f_wof := ⟨fc_wof, ⟨_, q_wof⟩, fi_wof⟩
  refine ⟨PySem.W.fnOf "law" "law" (defArgs sLaw) (defBody sLaw) (defScope sLaw) .none kV_law dc_law pm_law an_law (.ref cd_law) ct_law, [(cd_law, tab_law), (cd_right, tab_right), (cd_names, tab_names)], fun p hp => ?_, fun s v => .of_eq rfl, fun base _ _ TB => ?_⟩
  · simp only [List.mem_cons, List.not_mem_nil, or_false] at hp
    rcases hp with rfl | rfl | rfl
    · exact ⟨own _ (by decide) _ m_law _ _ _ _ _ _ _ _ l_law rfl rfl lct_law v11_law, ntb_law, PySem.W.codeHd_of_K X hct_law⟩
    · exact ⟨own _ (by decide) _ m_right _ _ _ _ _ _ _ _ l_right rfl rfl lct_right v11_right, ntb_right, PySem.W.codeHd_of_K X hct_right⟩
    · exact ⟨own _ (by decide) _ m_names _ _ _ _ _ _ _ _ l_names rfl rfl lct_names v11_names, ntb_names, PySem.W.codeHd_of_K X hct_names⟩
  have tbL := TB (cd_law, tab_law) (by simp)
  have tbR := TB (cd_right, tab_right) (by simp)
  have tbN := TB (cd_names, tab_names) (by simp)
  show FnG _ _ _ _ _ _ _ _ _ _ (spLaw K [(tab_law, lamQ "law"), (tab_right, lamQ "_law_right"), (tab_names, lamQ "_law_names_right")])
  have B_B : ErrB l.prog w K mg base "BadSigns" "part" CB := ⟨O_B, PySem.W.mg_of X G aCB, _, _, ["self", "part"], ini_B, ti_B, ok_initB R_B O_B no_B le_B ce_B zP, L2.Binds.all fun us hl => match us, hl with | [_, _], _ => rfl⟩
  have mk' : Mk K C f_winit := ⟨mk, a_winit, i_winit, kc⟩
  have po' : PropOf K C "signs" p_wsig f_wsig := ⟨a_wsig, g_wsig, t_wsig, _, q_wsig⟩
  have G_fromto := ok_fromToA (P := l.prog) (w := w) (base := base) F_fromto T zB
  have G_isletr := ok_isLetterA (P := l.prog) (w := w) (base := base) F_isletr T zS mL
  have G_ispair := ok_isPairA F_ispair T T.tuple G_isletr m_isletr k_isletr b_isletr G_fromto m_fromto k_fromto b_fromto
  have G_newl := ok_newL F_newl T zD B_B G_isletr m_isletr k_isletr b_isletr
  have G_winit := ok_wInitA F_winit T M B_B zE G_fromto m_fromto k_fromto b_fromto G_ispair m_ispair k_ispair b_ispair
  have G_wof := ok_wOfA F_wof mk' G_winit
  have G_wsig := ok_wSigns (P := l.prog) (w := w) (mg := mg) (base := base) F_wsig M
  have G_wlen := ok_wLen (P := l.prog) (w := w) (mg := mg) (base := base) F_wlen T M
  have G_whas := ok_wHas F_whas M G_isletr m_isletr k_isletr b_isletr po' G_wsig b_wsig
  have G_witem := ok_wItem F_witem M B_B G_whas b_whas a_whas i_whas po' G_wsig b_wsig
  have G_weq := ok_wEq (P := l.prog) (w := w) (base := base) F_weq T M gC I kC
  have G_wren := ok_renamed F_wren M zE gC G_newl m_newl k_newl b_newl po' G_wsig b_wsig mk' G_winit
  have S : WK l.prog w K mg base C CB := ⟨M, gC, I, nfL, kL, kC, B_B, Hp_B, rdd, ⟨_, _, cm, Er.fnR_of G_wof b_wof⟩, ⟨_, _, _, cm, G_wof, kbF⟩, ⟨_, mk', G_winit⟩, ⟨_, _, _, po', G_wsig, b_wsig⟩, ⟨_, _, a_wlen, i_wlen, G_wlen, b_wlen⟩,
    ⟨_, _, a_whas, i_whas, G_whas, b_whas⟩, ⟨_, _, a_witem, j_witem, i_witem, G_witem, b_witem⟩, ⟨_, _, NeW, G_weq, b_weq⟩, ⟨_, _, ⟨a_wren, i_wren, k_wren⟩, G_wren, b_wren⟩⟩
  have Hh : Hd K mg f_hrd cd_hrd oc_hrd .none kV_hrd dc_hrd pm_hrd ct_hrd an_hrd od_hrd sl_hrd := ⟨m_hrd, k_hrd, l_hrd, c_hrd, b_hrd⟩
  have G_draw := ok_draw (P := l.prog) (w := w) (base := base) F_draw T
  have G_pick := ok_pick F_pick T G_draw m_draw k_draw b_draw
  have G_drawn := ok_drawn F_drawn T G_draw m_draw k_draw b_draw G_pick m_pick k_pick b_pick
  have G_spoilt := ok_spoilt F_spoilt T G_draw m_draw k_draw b_draw G_pick m_pick k_pick b_pick
  have G_due := ok_due (P := l.prog) (w := w) (base := base) F_due T zS T.tuple zB
  have G_right := ok_right (T3 := [(tab_law, lamQ "law"), (tab_right, lamQ "_law_right"), (tab_names, lamQ "_law_names_right")]) T S Hh l_right c_right tbR (by simp) (fun p hp e => by
    simp only [List.mem_cons, List.not_mem_nil, or_false] at hp
    rcases hp with rfl | rfl | rfl
    · exact absurd e d_law_right
    · rfl
    · exact absurd e.symm d_right_names) G_draw m_draw k_draw b_draw G_pick m_pick k_pick b_pick
  have G_names := ok_names (T3 := [(tab_law, lamQ "law"), (tab_right, lamQ "_law_right"), (tab_names, lamQ "_law_names_right")]) T zD S Hh l_names c_names tbN (by simp) (fun p hp e => by
    simp only [List.mem_cons, List.not_mem_nil, or_false] at hp
    rcases hp with rfl | rfl | rfl
    · exact absurd e d_law_names
    · exact absurd e d_right_names
    · rfl) G_draw m_draw k_draw b_draw
  exact ok_law T S Hh l_law c_law tbL (by simp) (fun p hp e => by
    simp only [List.mem_cons, List.not_mem_nil, or_false] at hp
    rcases hp with rfl | rfl | rfl
    · rfl
    · exact absurd e.symm d_law_right
    · exact absurd e.symm d_law_names) (ok_pen F_pen T) m_pen k_pen b_pen G_drawn m_drawn k_drawn b_drawn G_spoilt m_spoilt k_spoilt b_spoilt G_due m_due k_due b_due G_right m_right k_right b_right G_names m_names k_names b_names
end Kx
set_option Elab.async false
open PySem PySem.W PyProof.Rows in
set_option maxRecDepth 100000 in
set_option maxHeartbeats 0 in
theorem PySem.Challenge.cw_rowgames_k02_weights_made_holds : PySem.Challenge.rw_rowgames_k02_weights_made.Holds := by
  w_on; o_law; k_head; (case hw => w_witness2)
  k_fill
  refine Kx.walkGTs (l := PySem.Challenge.rw_rowgames_k02_weights_made) (n := 63) (k := 10) (x := "_law_script") (sp := fun cs w => Kx.spLaw _ (Kx.tabsOf Kx.N3 cs)) Kx.N3 rfl (by decide) rfl ⟨rfl, by decide, by decide⟩ (by decide +kernel) (fun w h Y => PySem.W.km_in_of Y) ?F (fun cs _ _ a ns hl _ tb hS => ⟨a, ns, rfl, hS, hl, Kx.tabs_of tb, fun _ => rfl⟩)
  case F =>
    intro w mg fa h KX G hmg own
    refine' Kx.all_mk KX G hmg own ?aC ?aCB ?xL_B ?rv_B ?sa_B ?ex_B ?ty_B ?kC_B ?ga_B ?gg_B ?hdc_B ?ini_B ?ti_B ?le_B ?ce_B ?no_B ?su_B ?ve_B ?se_B ?cel_B ?cod_B ?v2_B ?fl_B ?em_B ?ay ?tp ?cg ?ct ?a_fromto ?l_fromto ?c_fromto ?k_fromto ?a_isletr ?l_isletr ?c_isletr ?k_isletr ?a_ispair ?l_ispair ?c_ispair ?k_ispair ?a_newl ?l_newl ?c_newl ?k_newl ?a_pen ?l_pen ?c_pen ?k_pen ?a_draw ?l_draw ?c_draw ?k_draw ?a_pick ?l_pick ?c_pick ?k_pick ?a_drawn ?l_drawn ?c_drawn ?k_drawn ?a_spoilt ?l_spoilt ?c_spoilt ?k_spoilt ?a_due ?l_due ?c_due ?k_due ?a_hrd ?l_hrd ?c_hrd ?k_hrd ?a_right ?l_right ?c_right ?k_right ?lct_right ?v11_right ?hct_right ?ntb_right ?a_names ?l_names ?c_names ?k_names ?lct_names ?v11_names ?hct_names ?ntb_names ?a_law ?l_law ?c_law ?k_law ?lct_law ?v11_law ?hct_law ?ntb_law ?d_law_right ?d_law_names ?d_right_names ?a_winit ?i_winit ?l_winit ?c_winit ?k_winit ?a_wof ?q_wof ?fc_wof ?fi_wof ?l_wof ?c_wof ?k_wof ?a_wsig ?g_wsig ?t_wsig ?q_wsig ?l_wsig ?c_wsig ?k_wsig ?a_wlen ?i_wlen ?l_wlen ?c_wlen ?k_wlen ?a_whas ?i_whas ?l_whas ?c_whas ?k_whas ?a_witem ?i_witem ?j_witem ?l_witem ?c_witem ?k_witem ?a_weq ?i_weq ?l_weq ?c_weq ?k_weq ?a_wren ?i_wren ?l_wren ?c_wren ?k_wren ?pg ?hdi ?po ?sat ?mk ?kc ?ca ?ob ?n__signs ?n_pairs ?rdC ?gaC ?wne ?nfL ?kL ?kC ?aL ?z_len ?z_int ?z_abs ?z_list ?z_tuple ?z_range ?z_repr ?z_isinstance ?z_all ?z_set ?z_bool ?z_str ?z_super ?z_enumerate ?z_dict
    (case aC => k_is)
    (case aCB => k_is)
    (case xL_B => k_is)
    (case rv_B => first | rfl | decide +kernel | k_is)
    (case sa_B => k_is)
    (case ex_B => k_is)
    (case ty_B => k_is)
    (case kC_B => k_is)
    (case ga_B => k_is)
    (case gg_B => k_is)
    (case hdc_B => k_is)
    (case ini_B => k_is)
    (case ti_B => k_is)
    (case le_B => k_is)
    (case ce_B => k_is)
    (case no_B => k_is)
    (case su_B => first | kernel_rfl | decide +kernel | rfl | k_is)
    (case ve_B => k_is)
    (case se_B => first | k_is | kernel_rfl | decide +kernel)
    (case cel_B => k_is)
    (case cod_B => k_is)
    (case v2_B => first | rfl | decide +kernel | k_is)
    (case fl_B => first | rfl | decide +kernel | k_is)
    (case em_B => first | kernel_rfl | decide +kernel | rfl | k_is)
    (case ay => k_is)
    (case tp => first | rfl | decide +kernel | k_is)
    (case cg => k_is)
    (case ct => k_is)
    (case a_fromto => k_is)
    (case l_fromto => k_is)
    (case c_fromto => k_is)
    (case k_fromto => k_is)
    (case a_isletr => k_is)
    (case l_isletr => k_is)
    (case c_isletr => k_is)
    (case k_isletr => k_is)
    (case a_ispair => k_is)
    (case l_ispair => k_is)
    (case c_ispair => k_is)
    (case k_ispair => k_is)
    (case a_newl => k_is)
    (case l_newl => k_is)
    (case c_newl => k_is)
    (case k_newl => k_is)
    (case a_pen => k_is)
    (case l_pen => k_is)
    (case c_pen => k_is)
    (case k_pen => k_is)
    (case a_draw => k_is)
    (case l_draw => k_is)
    (case c_draw => k_is)
    (case k_draw => k_is)
    (case a_pick => k_is)
    (case l_pick => k_is)
    (case c_pick => k_is)
    (case k_pick => k_is)
    (case a_drawn => k_is)
    (case l_drawn => k_is)
    (case c_drawn => k_is)
    (case k_drawn => k_is)
    (case a_spoilt => k_is)
    (case l_spoilt => k_is)
    (case c_spoilt => k_is)
    (case k_spoilt => k_is)
    (case a_due => k_is)
    (case l_due => k_is)
    (case c_due => k_is)
    (case k_due => k_is)
    (case a_hrd => k_is)
    (case l_hrd => k_is)
    (case c_hrd => k_is)
    (case k_hrd => k_is)
    (case a_right => k_is)
    (case l_right => k_is)
    (case c_right => k_is)
    (case k_right => k_is)
    (case lct_right => k_is)
    (case v11_right => first | rfl | decide +kernel | k_is)
    (case hct_right => first | kernel_rfl | decide +kernel | rfl)
    (case ntb_right => first | kernel_rfl | decide +kernel | rfl)
    (case a_names => k_is)
    (case l_names => k_is)
    (case c_names => k_is)
    (case k_names => k_is)
    (case lct_names => k_is)
    (case v11_names => first | rfl | decide +kernel | k_is)
    (case hct_names => first | kernel_rfl | decide +kernel | rfl)
    (case ntb_names => first | kernel_rfl | decide +kernel | rfl)
    (case a_law => k_is)
    (case l_law => k_is)
    (case c_law => k_is)
    (case k_law => k_is)
    (case lct_law => k_is)
    (case v11_law => first | rfl | decide +kernel | k_is)
    (case hct_law => first | kernel_rfl | decide +kernel | rfl)
    (case ntb_law => first | kernel_rfl | decide +kernel | rfl)
    (case d_law_right => first | decide | decide +kernel)
    (case d_law_names => first | decide | decide +kernel)
    (case d_right_names => first | decide | decide +kernel)
    (case a_winit => k_is)
    (case i_winit => k_is)
    (case l_winit => k_is)
    (case c_winit => k_is)
    (case k_winit => k_is)
    (case a_wof => k_is)
    (case q_wof => k_is)
    (case fc_wof => first | kernel_rfl | decide +kernel | rfl | k_is)
    (case fi_wof => k_is)
    (case l_wof => k_is)
    (case c_wof => k_is)
    (case k_wof => k_is)
    (case a_wsig => k_is)
    (case g_wsig => k_is)
    (case t_wsig => k_is)
    (case q_wsig => k_is)
    (case l_wsig => k_is)
    (case c_wsig => k_is)
    (case k_wsig => k_is)
    (case a_wlen => k_is)
    (case i_wlen => k_is)
    (case l_wlen => k_is)
    (case c_wlen => k_is)
    (case k_wlen => k_is)
    (case a_whas => k_is)
    (case i_whas => k_is)
    (case l_whas => k_is)
    (case c_whas => k_is)
    (case k_whas => k_is)
    (case a_witem => k_is)
    (case i_witem => k_is)
    (case j_witem => k_is)
    (case l_witem => k_is)
    (case c_witem => k_is)
    (case k_witem => k_is)
    (case a_weq => k_is)
    (case i_weq => k_is)
    (case l_weq => k_is)
    (case c_weq => k_is)
    (case k_weq => k_is)
    (case a_wren => k_is)
    (case i_wren => k_is)
    (case l_wren => k_is)
    (case c_wren => k_is)
    (case k_wren => k_is)
    (case pg => k_is)
    (case hdi => k_is)
    (case po => k_is)
    (case sat => k_is)
    (case mk => k_is)
    (case kc => k_is)
    (case ca => k_is)
    (case ob => k_is)
    (case n__signs => k_is)
    (case n_pairs => k_is)
    (case rdC => first | kernel_rfl | decide +kernel | rfl | k_is)
    (case gaC => first | k_is | kernel_rfl | decide +kernel)
    (case wne => k_is)
    (case nfL => first | kernel_rfl | decide +kernel | rfl | k_is)
    (case kL => first | kernel_rfl | decide +kernel | rfl | k_is)
    (case kC => first | kernel_rfl | decide +kernel | rfl | k_is)
    (case aL => k_is)
    (case z_len => k_is)
    (case z_int => k_is)
    (case z_abs => k_is)
    (case z_list => k_is)
    (case z_tuple => k_is)
    (case z_range => k_is)
    (case z_repr => k_is)
    (case z_isinstance => k_is)
    (case z_all => k_is)
    (case z_set => k_is)
    (case z_bool => k_is)
    (case z_str => k_is)
    (case z_super => k_is)
    (case z_enumerate => k_is)
    (case z_dict => k_is)
#print axioms PySem.Challenge.cw_rowgames_k02_weights_made_holds
