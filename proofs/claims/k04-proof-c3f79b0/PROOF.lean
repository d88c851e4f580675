import PyProof.Rows.All
import Wide.All
import OpenK.AllK
import Wide.FinOn
import HandS.ForMost
import HandS.Defaults
import HandS.MakeKwOnly
import HandS.Property
import HandS.Strs
import PyProof.StrWalks
import HandS.EndBits
import PyProof.ReprRoads
import HandS.ExcInit
import KE.KExcSuper
import HandS.WordsExc
import HandS.ExcValue
import HandS.ExcField
import HandS.IsInst
import KE.KExcIs
import HandS.ClsMeth
import HandS.SlotsOwn
import HandS.StrMore
import HandS.FStr
import HandS.Style
import PyProof.StrOps2
import PyProof.CallStr
import PyProof.ListStr
import HandS.Walk
import HandS.RaiseOp
import HandS.Codes
import PySem.Challenge.RW_rowgames_k04_rules_made
import PyProof.ReprLen
import HandS.CallSlots
set_option Elab.async false
set_option maxRecDepth 100000
/-! Rules of my own over the hand layer: what a class of one's own says of len, [ ], in; a method called by keywords alone. -/
namespace Rg
open PySem L2 PySem.Spec PyProof.Rows
theorem rvRef (a : Addr) : RelV (.ref a) (Value.ref a) := rfl
section
variable {X : Cx} {CX : CXT} {k : Nat} {C f : Addr} {fd : FuncData} {ps : List Str} {sp : Sp} {E : XK} {pins : List (Addr × Obj)} {σ : L2.St} {H : Hp} {s : Shared}

/-- a def of the text, run one step further in -/
theorem runIn {Q : VK} {us : List Value} {vs : List V} (F : FnOk X.prog X.w X.K X.mg X.base CX k f fd ps sp) (room : Room (k + 1) X.A) (bd : Binds X.K fd ps []) (ex : Passes CX X E)
    (I : Inv X pins σ H s) (r : Vals vs us) (want : sp vs H Q E) : wpAny (model X.prog X.w) X.A.in1 (call (.ref f) us) (EP X pins σ Q) X.xe s := by
  have len : us.length = ps.length := r.length.symm.trans (F.len _ _ _ _ want)
  have bt : BindsTo s fd ⟨us, []⟩ (ps.zip us) := by
    have z := bd s us I.kIn (by rw [List.append_nil]; exact len)
    rw [List.append_nil] at z
    exact z
  refine wpAny_call (codeAny_mono (F.run X.A.in1 X.stack s H ⟨us, []⟩ us vs Q E room.in1 I.env0.in1 bt r want) fun res s' got => ?_)
  rcases res with e | fl
  · exact ex pins σ H s e s' I got
  · cases fl <;> first | exact I.after got | exact False.elim got

/-- the instance at a, as the walk's lemmas want it -/
theorem instAt {a dx : Addr} {fs : List (Str × V)} (I : Inv X pins σ H s) (e : H a = some (.ins C dx fs)) : ∃ od, PySem.W.InstAt s.heap a (PySem.W.instObj C dx) C od := by
  obtain ⟨mA, O, _⟩ := ins_get I.hok e
  obtain ⟨od, J, _⟩ := O.look
  exact ⟨od, J⟩

/-- len(o) -/
def rLen (C : Addr) (sp : Sp) (E : XK) : List V → Hp → VK → Prop := fun xs H Q => ∃ a dx fs, xs = [.ref a] ∧ H a = some (.ins C dx fs) ∧ sp [.ref a] H (fun v H' => ∃ n : Int, v = .int n ∧ 0 ≤ n ∧ n < 2 ^ 63 ∧ Q (.int n) H') E
theorem cr_len (F : FnOk X.prog X.w X.K X.mg X.base CX k f fd ps sp) (room : Room (k + 1) X.A) (bd : Binds X.K fd ps []) (ex : Passes CX X E)
    (at_ : PySem.W.findIn X.K (.ref C) "__len__" = some (some (.ref f))) (fn : PySem.W.isFn X.K (.ref f) = true) : CallR X (.builtin "len") (rLen C sp E) := by
  rintro pins s σ H xs us Q I r ⟨a, dx, fs, rfl, e, want⟩
  obtain ⟨od, J⟩ := instAt I e
  obtain ⟨m, fr⟩ := I.fr
  cases r with
  | cons r0 r1 =>
    cases r1
    cases r0
    refine PySem.W.len_K fr I.ok.mod.kin J at_ fn (thn (runIn F room bd ex I (.cons (rvRef a) .nil) want) ?_)
    rintro u s' ⟨v, H', I', rv, n, rfl, n0, n1, q⟩
    obtain ⟨t, rfl⟩ := rv
    exact ⟨⟨n0, n1⟩, .int n, H', I'.tok _, ⟨_, rfl⟩, q⟩

/-- o[i] -/
def rItem (C : Addr) (sp : Sp) (E : XK) : R2 := fun x y H Q => ∃ a dx fs, x = .ref a ∧ H a = some (.ins C dx fs) ∧ sp [x, y] H Q E
theorem pe_item {a b : Expr} {ta tb : TE} {pos : Pos} (F : FnOk X.prog X.w X.K X.mg X.base CX k f fd ps sp) (room : Room (k + 1) X.A) (bd : Binds X.K fd ps []) (ex : Passes CX X E)
    (at_ : PySem.W.findIn X.K (.ref C) "__getitem__" = some (some (.ref f))) (fi : PySem.W.fnIn X.K f = true) (fn : PySem.W.isFn X.K (.ref f) = true) (ha : PE X a ta) (hb : PE X b tb)
    (hs : ∀ o i, subscripted b true o i = runValue (.builtin "lifetime.subscript" ⟨[o, i], []⟩) := by intro _ _; with_unfolding_all rfl) : PE X (.Subscript a b pos) (tOp (rItem C sp E) ta tb) := by
  refine ⟨fun pins s σ H Q I h => Subscript_ (binT ha hb I h ?_)⟩
  rintro v u s2 x y H2 I2 rx ry ⟨o, dx, fs, rfl, e, want⟩
  obtain rfl : v = Value.ref o := rx
  obtain ⟨od, J⟩ := instAt I2 e
  obtain ⟨m, fr⟩ := I2.fr
  exact PySem.W.sub_K fr I2.ok.mod.kin J at_ fi fn (runIn F room bd ex I2 (.cons (rvRef o) (.cons ry .nil)) want) (hs _ _)

/-- x in o, x not in o -/
def rHas (neg : Bool) (C : Addr) (sp : Sp) (E : XK) : R2 := fun x y H Q => ∃ a dx fs, y = .ref a ∧ H a = some (.ins C dx fs) ∧ sp [y, x] H (fun v H' => ∃ b, v = .bl b ∧ Q (.bl (if neg then !b else b)) H') E
theorem op_has (F : FnOk X.prog X.w X.K X.mg X.base CX k f fd ps sp) (room : Room k X.A) (bd : Binds X.K fd ps []) (ex : Passes CX X E)
    (at_ : PySem.W.findIn X.K (.ref C) "__contains__" = some (some (.ref f))) (fn : PySem.W.isFn X.K (.ref f) = true) : OpR X (compareOp .In) (rHas false C sp E) := by
  rintro pins s σ H x y v u Q I rx ry ⟨a, dx, fs, rfl, e, want⟩
  obtain rfl : u = Value.ref a := ry
  obtain ⟨od, J⟩ := instAt I e
  obtain ⟨m, fr⟩ := I.fr
  refine PySem.W.in_K fr I.ok.mod.kin J at_ fn (thn (run_fn (ds := []) (dvs := []) F room bd .nil ex I (.cons (rvRef a) (.cons rx .nil)) want) ?_)
  rintro z s' ⟨v', H', I', rv, b, rfl, q⟩
  obtain rfl : z = Value.bool b := rv
  exact wpAny_truthy_bool ⟨.bl b, H', I', rfl, q⟩
theorem op_hasnt (F : FnOk X.prog X.w X.K X.mg X.base CX k f fd ps sp) (room : Room k X.A) (bd : Binds X.K fd ps []) (ex : Passes CX X E)
    (at_ : PySem.W.findIn X.K (.ref C) "__contains__" = some (some (.ref f))) (fn : PySem.W.isFn X.K (.ref f) = true) : OpR X (compareOp .NotIn) (rHas true C sp E) := by
  rintro pins s σ H x y v u Q I rx ry ⟨a, dx, fs, rfl, e, want⟩
  obtain rfl : u = Value.ref a := ry
  obtain ⟨od, J⟩ := instAt I e
  obtain ⟨m, fr⟩ := I.fr
  refine PySem.W.notIn_K fr I.ok.mod.kin J at_ fn (thn (run_fn (ds := []) (dvs := []) F room bd .nil ex I (.cons (rvRef a) (.cons rx .nil)) want) ?_)
  rintro z s' ⟨v', H', I', rv, b, rfl, q⟩
  obtain rfl : z = Value.bool b := rv
  exact wpAny_truthy_bool ⟨.bl (!b), H', I', rfl, q⟩

/-- o.m(k = v, ..), no value by place -/
def tMethK (C : Addr) (m : Str) (sp : Sp) (gV : List V → List V → List V) (n : Nat) (E : XK) (ta : TE) (tk : TA) : TE := fun σ H Q => ta σ H fun x H1 => ∃ a dx fs, x = .ref a ∧ H1 a = some (.ins C dx fs) ∧ fs.lookup m = none ∧
  tk σ H1 fun zs H2 => zs.length = n ∧ sp (gV [x] zs) H2 Q E
theorem pe_methK {pl : Sem Bool} {o : Expr} {m : Str} {kws : List Keyword} {ks : List Str} {ta : TE} {tk : TA} {pos apos : Pos} {g : List Value → List Value → List Value} {gV : List V → List V → List V}
    (he : PE X o ta) (c : Cls X.K C) (hm : Meth X.K C m f) (F : FnOk X.prog X.w X.K X.mg X.base CX k f fd ps sp) (room : Room k X.A) (kb : KBn X.K fd ps 1 ks g gV) (ex : Passes CX X E) (hk : PK X kws tk)
    (hall : (backToKw pos (keywordEach kws X.env)).all (·.1.isSome) = true := by rfl) (hks : (backToKw pos (keywordEach kws X.env)).filterMap (·.1) = ks := by rfl)
    (hpl : ((backTo pos (starEach [] X.env)).any (·.1) || (backToKw pos (keywordEach kws X.env)).any (·.1.isNone)) = false := by rfl)
    (ht : eval (.Call (.Attribute o m apos) [] kws pos) X.env = (do
      let ov ← eval o X.env
      standAt apos.atName
      let (f, first) ← holding [ov] (getMethod ov m pl)
      callWith pos f first (backTo pos (starEach [] X.env)) (backToKw pos (keywordEach kws X.env))) := by rfl) :
    PE X (.Call (.Attribute o m apos) [] kws pos) (tMethK C m sp gV ks.length E ta tk) := by
  refine ⟨fun pins s σ H Q I h => PySem.W.methodCall_KW (pl := pl) (thn (he.run pins s σ H _ I h) ?_) ht⟩
  rintro u s1 ⟨x, H1, I1, rx, a, dx, fs, rfl, e, no, q⟩
  obtain rfl : u = Value.ref a := rx
  refine getmeth_ok I1 e c hm no (PySem.W.callWith_KW0 (first := [.ref a]) (h₀ := X.base) I1.ok.mod.kin hm.kp hall (thn (hk.run pos pins s1 σ H1 _ I1 q) ?_) hpl)
  rintro ws s2 ⟨zs, H2, I2, rz, lz, want⟩
  refine ⟨I2.kIn, ?_⟩
  rw [hks]
  have lw : ws.length = ks.length := rz.length.symm.trans lz
  have rr : Vals (gV [V.ref a] zs) (g [Value.ref a] ws) := kb.rel (.cons (rvRef a) .nil) rz
  refine wpAny_call (codeAny_mono (F.run X.A X.stack s2 H2 ⟨[.ref a], ks.zip ws⟩ (g [.ref a] ws) (gV [.ref a] zs) Q E room I2.env0 (kb.to s2 [.ref a] ws I2.kIn rfl lw) rr want) fun res s' got => ?_)
  rcases res with er | fl
  · exact ex pins σ H2 s2 er s' I2 got
  · cases fl <;> first | exact I2.after got | exact False.elim got
end
end Rg
set_option Elab.async false
set_option maxRecDepth 100000
/-! len(set(text)) where no sign stands twice. -/
namespace Rg
open PySem L2 PySem.Spec PyProof.Rows
section
variable {prog : Program} {w : World} {A : Around}
/-- the signs of a text, each a text -/
def signs (x : Str) : List Str := x.cps.toList.map fun c => ⟨#[c]⟩
theorem signs_len (x : Str) : (signs x).length = x.cps.size := by unfold signs; simp
theorem signAt {x : Str} {i : Nat} {v : Value} (h : SignAt x i v) : ∃ z t, (signs x)[i]? = some z ∧ v = .str z t := by
  obtain ⟨c, u, e, rfl⟩ := h
  refine ⟨⟨#[c]⟩, u, ?_, rfl⟩
  unfold signs
  rw [List.getElem?_map, Array.getElem?_toList, e] <;> rfl
theorem take_has {zs : List Str} {i : Nat} {z : Str} (e : zs[i]? = some z) (k : Str) : ((zs.take i).any (· == k) || decide (k = z)) = (zs.take (i + 1)).any (· == k) := by
  rw [List.take_add_one, e, List.any_append]
  congr 1
  by_cases h : k = z
  · subst h; simp
  · have h' : (z == k) = false := by simpa using fun q : z = k => h q.symm
    simp [h, h']
theorem take_no {zs : List Str} {i : Nat} {z : Str} (nd : zs.Nodup) (e : zs[i]? = some z) : (zs.take i).any (· == z) = false := by
  rw [Bool.eq_false_iff]
  intro q
  obtain ⟨y, hy, ey⟩ := List.any_eq_true.mp q
  have : y = z := by simpa using ey
  subst this
  obtain ⟨j, hj, ej⟩ := List.getElem_of_mem hy
  rw [List.length_take] at hj
  obtain ⟨hi, ei⟩ := List.getElem?_eq_some_iff.mp e
  rw [List.getElem_take] at ej
  exact absurd (ej.trans ei.symm) (List.pairwise_iff_getElem.mp nd j i (by omega) hi (by omega))

/-- the loop of set(..) over a walk that hands out the texts zs -/
theorem fill {R : Result → Shared → Prop} {it S : Addr} {fp wr : List Addr} {G : Array GenState → Array GenState → Prop} {n : Nat} {P : Nat → Value → Prop} {St : Nat → Shared → Prop}
    (W : WalksS prog w A.in1 it fp wr G n P St) (far : S ∉ fp) (zs : List Str) (nd : zs.Nodup) (zn : zs.length = n) (few : n + 1 < scanBound) (val : ∀ i v, P i v → ∃ z t, zs[i]? = some z ∧ v = .str z t) (j : Nat) :
    ∀ (i : Nat) (s : Shared), i + j = n → St i s → s.heap.SetOf (PySem.strKind prog w) S (fun k => (zs.take i).any (· == k)) i →
      (∀ s', Moved (S :: wr) G s s' → s'.heap.SetOf (PySem.strKind prog w) S (fun k => (zs.take n).any (· == k)) n → R (.ok (.ret .none)) s') →
      codeAny (model prog w) A (.builtin "set.update.loop" ⟨[.ref S, .ref it], []⟩) R s := by
  have far' : S ∉ wr := fun q => far (W.sub _ q)
  have more : ∀ b ∈ wr, b ∈ S :: wr := fun _ q => List.mem_cons_of_mem _ q
  have keepS : ∀ {s s' : Shared} {f : Str → Bool} {m : Nat}, Moved wr G s s' → s.heap.SetOf (PySem.strKind prog w) S f m → s'.heap.SetOf (PySem.strKind prog w) S f m :=
    fun mv ⟨o, es, ep, t, ho, r⟩ => ⟨o, es, ep, t, mv.heap S _ far' ho, r⟩
  induction j with
  | zero =>
    intro i s hi st hS out
    obtain rfl : i = n := by omega
    refine codeAny_builtin PyProof.Rows.F.entry_set_update_loop ?_; rw [Around.under_plainId PyProof.Rows.F.plain_set_update_loop _]
    show wpAny _ A.in1 (pyNext (.ref it) >>= _) _ _ s; refine wpAny_bind (W.done s _ _ st fun s' mv => ?_)
    exact wpAny_pure (out s' (mv.mono more) (keepS mv hS))
  | succ j ih =>
    intro i s hi st hS out
    refine codeAny_builtin PyProof.Rows.F.entry_set_update_loop ?_; rw [Around.under_plainId PyProof.Rows.F.plain_set_update_loop _]
    show wpAny _ A.in1 (pyNext (.ref it) >>= _) _ _ s; refine wpAny_bind (W.item i s _ _ (by omega) st fun v s' hP st' mv => ?_)
    obtain ⟨z, t, ez, rfl⟩ := val i v hP
    have hS' := keepS mv hS
    show wpAny _ A.in1 (holding [Value.str z t] (setAdd S (.str z t)) >>= _) _ _ s'
    refine wpAny_bind (wpAny_holding ?_); unfold setAdd; refine wpAny_holding (wpAny_bind ((PySem.strKind prog w).pyHash (k := z) (strKind_is _ _ _ _) ?_))
    refine wpAny_setAddHashed_of (knd := PySem.strKind prog w) (s := { s' with toks := s'.toks + 1 }) (strKind_is _ _ _ _) rfl hS' (by omega) fun h' same new => ?_
    have new' : h'.SetOf (PySem.strKind prog w) S (fun k => (zs.take (i + 1)).any (· == k)) (i + 1) :=
      SetOf_congr new (fun k => take_has ez k) (by rw [take_no nd ez]; rfl)
    have other : ∀ b, b ≠ S → ∀ o, s'.heap.get? b = some o → h'.get? b = some o := fun b hb o e => (same.2 b hb).trans e
    refine wpAny_pure ⟨plainId_quiet PyProof.Rows.F.plain_set_update_loop _, ih (i + 1) _ (by omega) (W.frame _ s' _ _ st' (Nat.le_succ _) fun b hb o e => other b (fun q => far (q ▸ hb)) o e) new' fun s2 mv2 hS2 => ?_⟩
    exact out s2 (Moved.trans W.gtrans ((mv.mono more).then_heap (Nat.le_succ _) fun b o hb e => other b (fun q => hb (q ▸ List.mem_cons_self)) o e) mv2) hS2
end

section
variable {prog : Program} {w : World} {A : Around} {E : Value → Shared → Prop} {s : Shared}
abbrev bare (led : Bool) : Obj := { cls := .type "set", dict := none, data := .set #[] 0 (.fresh 0 0 led) }
set_option maxHeartbeats 3200000 in
theorem set_text {x : Str} {t : Tok} {Q : Value → Shared → Prop} (calm : A.handled = none) (nd : (signs x).Nodup) (few : x.cps.size + 1 < scanBound)
    (out : ∀ (h' : Heap) (tk : Nat), h'.SetOf (PySem.strKind prog w) s.heap.objs.size (fun k => ((signs x).take x.cps.size).any (· == k)) x.cps.size →
      (∀ b o, s.heap.get? b = some o → h'.get? b = some o) → Q (.ref s.heap.objs.size) { s with heap := h', toks := tk }) :
    wpAny (model prog w) A (call (.type "set") [.str x t]) Q E s := by
  obtain ⟨c, tl, hmro⟩ := PySem.F.called_set.mro
  have hmade := PySem.F.called_set.made
  have hsub := PySem.F.called_set.sub
  refine wpAny_call (codeAny_of_tree ?_); show wpAny _ _ (callAny (.type "set") _) _ _ _
  refine wpAny_pure ⟨Code.quiet_builtin _ (by decide +kernel), codeAny_builtin PySem.F.entry_type_call ?_⟩
  rw [Around.under_plain (weight_type_call_type "set" [.str x t] []) rfl]
  have h1 := PySem.F.called_set.notType
  have h2 := PySem.F.called_set.canCreate
  have hct := PySem.F.typeCall_set_1 (.str x t)
  repeat (any_goals (first | assumption | wp_step))
  refine codeAny_mono (code_set_new_1 (.str x t) (E := E) (Q₁ := fun v s1 => ∃ led : Bool, v = .ref s.heap.objs.size ∧ s1 = { s with heap := s.heap.push (bare led) }) fun led => ⟨led, rfl, rfl⟩) fun r s1 got => ?_
  rcases r with e | fl
  · exact got
  cases fl <;> first | exact got.elim | skip
  obtain ⟨led, rfl, rfl⟩ := got
  have hS : (s.heap.push (bare led)).get? s.heap.objs.size = some (bare led) := Heap.get?_push_size _ rfl
  have hT : Shared.TypeIs { s with heap := s.heap.push (bare led) } (.ref s.heap.objs.size) "set" := ⟨_, hS, rfl⟩
  have hli := PySem.F.called_set.init.lookup
  have hbi := PySem.F.called_set.init.bind (.ref s.heap.objs.size)
  repeat (any_goals (first | assumption | wp_step))
  refine codeAny_mono (codeAny_call_builtin (R := wants (fun r s2 => r = .none ∧ ∃ h' tk, s2 = { s with heap := h', toks := tk } ∧ h'.SetOf (PySem.strKind prog w) s.heap.objs.size (fun k => ((signs x).take x.cps.size).any (· == k)) x.cps.size ∧
      (∀ b o, s.heap.get? b = some o → h'.get? b = some o)) E) PySem.F.called_set.init.plain PySem.F.entry_set_init (check_set_init_1 hT ?_)) fun r2 s2 got2 => ?_
  · have e1 := PySem.F.sub_str_set
    have e2 := PySem.F.sub_str_frozenset
    unfold Builtin.«set.__init__» noKeywords Builtin.Frozenset.updateFrom
    generalize hPI : pyIter = PI
    wp_walk
    subst hPI
    refine wpAny_pyIter_str fun o St W st0 => wpAny_bind (wpAny_runValue ?_)
    have lt : s.heap.objs.size < (s.heap.push (bare led)).objs.size := by rw [Heap.size_push]; exact Nat.lt_succ_self _
    have apart : s.heap.objs.size ∉ [(s.heap.push (bare led)).objs.size] := fun q => absurd (List.mem_singleton.mp q) (Nat.ne_of_lt lt)
    refine fill ((W _ (by simp [calm])).toS) apart (signs x) nd (signs_len x) few (fun i v q => signAt q) x.cps.size 0 _ (Nat.zero_add _) st0 ?_ ?_
    · exact SetOf_congr ((setObjOf_fresh (knd := PySem.strKind prog w) led).setOf (Heap.get?_push_of_some _ hS) (by unfold scanBound; omega)) (fun _ => rfl) rfl
    · rintro ⟨h', g', d', tk', os'⟩ mv hS'
      obtain rfl : g' = s.gens := mv.gens
      obtain rfl : d' = s.drawn := mv.drawn
      obtain rfl : os' = s.os := mv.os
      refine wpAny_pure (wpAny_pure ⟨rfl, h', tk', rfl, hS', fun b o q => ?_⟩)
      have nb : b < s.heap.objs.size := Heap.lt_size q
      refine mv.heap b o ?_ (Heap.get?_push_of_some _ (Heap.get?_push_of_some _ q))
      intro m
      rcases List.mem_cons.mp m with e | m
      · exact absurd e (Nat.ne_of_lt nb)
      · exact absurd (List.mem_singleton.mp m) (Nat.ne_of_lt (Nat.lt_trans nb lt))
  · rcases r2 with e | fl2
    · exact got2
    cases fl2 <;> first | exact got2.elim | skip
    obtain ⟨rfl, h', tk, rfl, hS', keep⟩ := got2
    repeat (any_goals (first | assumption | wp_step))
    exact out _ _ hS' keep
end

section
variable {X : Cx}
/-- len(set(x)), x a text of few signs, none twice -/
def tLenSet (ta : TE) : TE := fun σ H Q => ta σ H fun v H1 => ∃ x : Str, v = .str x ∧ (signs x).Nodup ∧ x.cps.size ≤ 100 ∧ Q (.int x.cps.size) H1
theorem pe_lenSetT {a : Expr} {ta : TE} {p p2 q pos : Pos} (hc : X.calm = true) (g1 : Gl X "len") (m1 : X.mg "len" = none) (g2 : Gl X "set") (m2 : X.mg "set" = none) (ha : PE X a ta)
    (na : starEach [a] X.env = (false, eval a X.env) :: starEach [] X.env := by rfl) : PE X (.Call (.Name "len" p) [.Call (.Name "set" p2) [a] [] q] [] pos) (tLenSet ta) := by
  refine ⟨fun pins s σ H Q I h => Call_ (ld_blt I g1 m1 PySem.boot_len (callWith_builtin1 (args_cons (Call_ (ld_blt I g2 m2 boot_set (callWith_type1 (args_cons (thn (ha.run pins s σ H _ I h) ?_) na) na rfl))) rfl) rfl rfl))⟩
  rintro v s1 ⟨y, H1, I1, r1, x, rfl, nd, few, q1⟩
  obtain ⟨t, rfl⟩ := r1
  refine args_nil (set_text (I1.ok.hd hc) nd (by unfold scanBound; omega) fun h' tk hS keep => args_nil ?_)
  obtain ⟨o, es, ep, tb, ho, hex, hd, _, _, _, hf, hn⟩ := hS
  have I2 : Inv X pins σ H1 { s1 with heap := h', toks := tk } := I1.kept fun b o e => keep b o e
  exact call_len_set ho hex hd hf (by rw [hn]; omega) ⟨.int x.cps.size, H1, I2.tok _, ⟨_, by rw [hn]⟩, q1⟩
end
end Rg
set_option Elab.async false
set_option maxRecDepth 100000
/-! A def that is told that no repr runs around it; repr of data; the law's end with such a def. -/
namespace Rg
open PySem L2 PySem.Spec PyProof.Rows

/-- as FnOk, where nothing guards around the call -/
structure FnG (P : Program) (w : World) (K : PySem.W.Frag) (mg : Str → Option Value) (base : Heap) (CX : CXT) (k : Nat) (f : Addr) (fd : FuncData) (ps : List Str) (sp : Sp) : Prop where
  len : ∀ vs H Q E, sp vs H Q E → vs.length = ps.length
  run : ∀ (A : Around) (outer : List Env) (s : Shared) (H : Hp) (args : Args) (us : List Value) (vs : List V) (Q : VK) (E : XK), A.guards = some [] → Room k A → Env0 P w K mg base A outer s H → BindsTo s fd args (ps.zip us) → Vals vs us → sp vs H Q E →
    codeAny (model P w) A (.call (.ref f) args) (CR CX outer P w H s Q E) s

section
variable {P : Program} {w : World} {K : PySem.W.Frag} {mg : Str → Option Value} {base : Heap}
theorem funG {x qual : Str} {st : Stmt} {f : Addr} {fd : FuncData} {N ps : List Str} {k : Nat} {sp : Sp} (F : Fun K x qual st f fd) (S : FnScope N ps (defScope st)) (len : ∀ vs H Q E, sp vs H Q E → vs.length = ps.length)
    (body : ∀ (cdv : Value) (A : Around) (outer : List Env) (s : Shared) (H : Hp) (vs : List V) (Q : VK) (E : XK), A.guards = some [] → Room k (A.deeper (envOfC qual (defScope st) s.heap.objs.size f cdv)) → sp vs H Q E →
      ∃ t, PSs (cxOf CX0 P w K mg base N qual (defScope st) f cdv A outer s H E).nox (defBody st) t ∧ t { nx := fun _ H' => Q .non H', rt := Q } (start N vs) H) : FnG P w K mg base CX0 (k + 1) f fd ps sp := by
  obtain ⟨oc, od, kV, doc, pm, an, cdv, ct, osl, rfl, lk, hcd⟩ := F.ex
  refine ⟨len, fun A outer s H args us vs Q E hg hr e0 hb r want => ?_⟩
  have there : ∀ b o, base.get? b = some o → s.heap.get? b = some o := fun b o e => (e0.bs b o e).1
  have KX := e0.mod.kin.keeps there
  have kinds : ∀ y ∈ ps.zip us, (defScope st).names.lookup y.1 = some .local ∨ ((defScope st).names.lookup y.1 = some .cell ∧ ((cellsFrom (s.heap.objs.size + 1) (defScope st).names []).lookup y.1).isSome = true) := by
    rintro ⟨n, v⟩ hy
    rcases S.par n (List.of_mem_zip hy).1 with q | q
    · exact Or.inl q
    · exact Or.inr ⟨q, PySem.W.cellsFrom_some _ _ _ (Or.inl q)⟩
  refine codeAny_call_function hr.depth (KX _ _ lk) rfl S.co S.gen rfl (PySem.W.codeRec_of KX hcd) (hb _ _ _ _ (wpAny_newFunctionEnv_cells S.kind kinds ?_))
  intro env he s1 x
  subst he
  obtain ⟨t, ht, q⟩ := body cdv A outer s H vs Q E hg (hr.deeper _) want
  have I : Inv (cxOf CX0 P w K mg base N qual (defScope st) f cdv A outer s H E) [] (start N vs) H s1 := inv_start S hr.hd e0 (len _ _ _ _ want) r x
  refine ⟨(e0.mod.nolimit.keeps there).keeps x.toInCall.keep, codeAny_func (wpAny_mono (ht.nox.run [] s1 (start N vs) H _ I q) ?_ fun _ _ z => z)⟩
  intro fl s2 out
  cases fl with
  | ret u => obtain ⟨v, _, H2, J, rv, q2⟩ := out; exact ⟨v, H2, J.os, J.bare, J.base, J.hok, rv, q2⟩
  | next => obtain ⟨_, H2, J, q2⟩ := out; exact ⟨V.non, H2, J.os, J.bare, J.base, J.hok, rfl, q2⟩
  | brk => obtain ⟨_, _, _, q2⟩ := out; exact q2.elim
  | cont => obtain ⟨_, _, _, q2⟩ := out; exact q2.elim
end

section
variable {X : Cx} {CX : CXT} {k : Nat} {f : Addr} {fd : FuncData} {ps : List Str} {sp : Sp} {E : XK} {x : Str} {p pos : Pos} {e : Expr} {es : List Expr} {t : TA}
/-- f(e, ..), f such a def -/
theorem pe_callG (hg0 : X.A.guards = some []) (F : FnG X.prog X.w X.K X.mg X.base CX k f fd ps sp) (hr : Room k X.A) (hg : Gl X x) (hm : X.mg x = some (.ref f)) (hk : PySem.W.keepIn X.K (.ref f) = true) (bd : Binds X.K fd ps []) (ex : Passes CX X E)
    (ha : PA X (e :: es) t) (hdb : (x == ("__debug__" : Str)) = false := by decide) (he : starEach (e :: es) X.env = (false, eval e X.env) :: starEach es X.env := by rfl) (hpl : (backTo pos (starEach es X.env)).any (·.1) = false := by rfl) :
    PE X (.Call (.Name x p) (e :: es) [] pos) (tCall sp [] E t) := by
  refine ⟨fun pins s σ H Q I h => wpAny_Call_Name_kw (ld_glob I hg hm (PySem.W.callWith_K (h₀ := X.base) I.ok.mod.kin hk (thn (ha.run pos pins s σ H _ I h) ?_) he hpl) hdb)⟩
  rintro us s1 ⟨vs, H1, I1, r, want⟩
  rw [List.append_nil] at want
  refine ⟨I1.kIn, ?_⟩
  have len : us.length = ps.length := r.length.symm.trans (F.len _ _ _ _ want)
  have bt : BindsTo s1 fd ⟨us, []⟩ (ps.zip us) := by
    have z := bd s1 us I1.kIn (by rw [List.append_nil]; exact len)
    rw [List.append_nil] at z
    exact z
  refine wpAny_call (codeAny_mono (F.run X.A X.stack s1 H1 ⟨us, []⟩ us vs Q E hg0 hr I1.env0 bt r want) fun res s' got => ?_)
  rcases res with er | fl
  · exact ex pins σ H1 s1 er s' I1 got
  · cases fl <;> first | exact I1.after got | exact False.elim got
end

/-! ### repr -/
section
/-- how a value of the layer reads as data: no dict, no object of one's own -/
inductive Rp (K : PySem.W.Frag) (H : Hp) : V → PyData → Prop
  | non : Rp K H .non .none
  | bl (b) : Rp K H (.bl b) (.bool b)
  | int (i) : Rp K H (.int i) (.int i)
  | str (x) : Rp K H (.str x) (.str x)
  | lst {a xs ds} : SqL K H a xs → Paired (Rp K H) xs ds → Rp K H (.ref a) (.list ds)
  | tup {a xs ds} : SqT K H a xs → Paired (Rp K H) xs ds → Rp K H (.ref a) (.tuple ds)
variable {X : Cx} {pins : List (Addr × Obj)} {σ : L2.St} {H : Hp} {s : Shared}
mutual
theorem Rp.reads (I : Inv X pins σ H s) : ∀ {v : V} {d : PyData} {u : Value}, Rp X.K H v d → RelV v u → ∃ as, Reads s.heap u d as
  | _, _, _, .non, r => by cases r; exact ⟨_, .none⟩
  | _, _, _, .bl b, r => by cases r; exact ⟨_, .bool b⟩
  | _, _, _, .int i, r => by obtain ⟨t, rfl⟩ := r; exact ⟨_, .int i t⟩
  | _, _, _, .str x, r => by obtain ⟨t, rfl⟩ := r; exact ⟨_, .str x t⟩
  | _, _, _, .lst h all, r => by
    cases r
    obtain ⟨its, rv, ⟨o, n, eo, hc, _, hd⟩, _⟩ := I.list h
    obtain ⟨as, ra⟩ := Rp.readsAll I all rv
    exact ⟨_, .list eo hc hd ra⟩
  | _, _, _, .tup h all, r => by
    cases r
    obtain ⟨its, rv, ⟨o, eo, hc, n, hd⟩, _⟩ := I.tuple h
    obtain ⟨as, ra⟩ := Rp.readsAll I all rv
    exact ⟨_, .tuple eo hc hd ra⟩
theorem Rp.readsAll (I : Inv X pins σ H s) : ∀ {vs : List V} {ds : List PyData} {us : List Value}, Paired (Rp X.K H) vs ds → Vals vs us → ∃ as, ReadsAll s.heap us ds as
  | _, _, _, .nil, .nil => ⟨_, .nil⟩
  | _, _, _, .cons a b, .cons r t => by
    obtain ⟨as, h1⟩ := Rp.reads I a r
    obtain ⟨bs, h2⟩ := Rp.readsAll I b t
    exact ⟨_, .cons h1 h2⟩
end
/-- repr(v), v a list of data -/
def rRepr (K : PySem.W.Frag) : List V → Hp → VK → Prop := fun vs H Q => ∃ a d, vs = [.ref a] ∧ Rp K H (.ref a) d ∧ d.showable = true ∧ d.hasDict = false ∧ d.depth ≤ 20 ∧ d.shown.length ≤ sizeLine ∧ Q (.str d.shown) H
theorem cr_repr (hg : X.A.guards = some []) (hr : Room 0 X.A) : CallR X (.builtin "repr") (rRepr X.K) := by
  rintro pins s σ H xs us Q I r ⟨a, d, rfl, rd, h1, h2, h3, h4, q⟩
  cases r with
  | cons r0 r1 =>
    cases r1
    obtain ⟨as, R⟩ := Rp.reads I rd r0
    cases r0
    refine repr_of_reads' R h1 (fun z => absurd (h2.symm.trans z) Bool.false_ne_true) hg (by have := hr.un; omega) (fun _ _ e => e) (fun h' u tk keep => ?_) h4
    exact ⟨.str d.shown, H, I.kept keep, ⟨u, rfl⟩, q⟩
end

/-! ### the law's end -/
theorem lawG {P : Program} {w : World} {K : PySem.W.Frag} {mg mb : Str → Option Value} {k : Nat} {fa a : Addr} {fd : FuncData} {x : Str} {sp : Sp} {s₁ : Shared} {vs : List Value} {ns : List Int}
    (KX : K.In s₁.heap) (hns : s₁.heap.Ns mainGlobals mg) (hb : s₁.heap.Ns builtinsNs mb) (hbb : ∀ x : Str, x ≠ "__name__" → mb x = bootBuiltins x) (hlim : s₁.heap.NoLimit) (hg : s₁.gens = #[])
    (ha : s₁.heap.get? a = some { cls := .type "list", data := .seq vs.toArray }) (hi : IntsAre vs ns) (hl : ns.length ≤ sizeLine) (hr : Room k callerA)
    (F : ∀ base : Heap, K.In base → base.Ns mainGlobals mg → FnG P w K mg base CX0 k fa fd [x] sp) (bind : ∀ (s : Shared) (u : Value), BindsTo s fd ⟨[u], []⟩ [(x, u)])
    (want : ∀ H : Hp, Only H → SqL K H a (ns.map V.int) → sp [.ref a] H (fun v _ => v = .bl true) fun _ _ _ => False) :
    codeAny (model P w) callerA (.call (.ref fa) ⟨[.ref a], []⟩) (fun r s' => r = .ok (.ret (.bool true)) ∧ OldK s₁.heap s'.heap ∧ s'.os = s₁.os ∧ AllBare s'.gens) s₁ := by
  have rv := vals_ints hi
  have ln := hi.length
  -- H tracks the script at most
  have main : ∀ H : Hp, Only H → SqL K H a (ns.map V.int) → HOk P w H s₁.heap → (∀ b, H b ≠ none → b = a ∧ K.lookup a = none) →
      codeAny (model P w) callerA (.call (.ref fa) ⟨[.ref a], []⟩) (fun r s' => r = .ok (.ret (.bool true)) ∧ OldK s₁.heap s'.heap ∧ s'.os = s₁.os ∧ AllBare s'.gens) s₁ := by
    intro H only seq hok few
    have none_of : ∀ {b : Addr}, ¬ (b = a ∧ K.lookup a = none) → H b = none := fun {b} z => Decidable.by_contra fun q => z (few b q)
    have dicts : ∀ {b : Addr} {m : Str → Option Value}, s₁.heap.Ns b m → (hidT s₁.heap H).Ns b m := by
      rintro b m ⟨o, es, ep, e, d, r⟩
      refine ⟨o, es, ep, hidT_get e (none_of ?_), d, r⟩
      rintro ⟨rfl, _⟩
      cases ha.symm.trans e
      cases d
    have KB : K.In (hidT s₁.heap H) := fun b o e => hidT_get (KX b o e) (none_of (by
      rintro ⟨rfl, z⟩
      cases z.symm.trans e))
    have M : Mod K mg (hidT s₁.heap H) := ⟨KB, dicts hns, ⟨mb, dicts hb, hbb⟩, let ⟨mc, h1, h2⟩ := hlim; ⟨mc, dicts h1, h2⟩⟩
    have none0 : ∀ b, b ∉ frs ([] : List Env) := fun b => by unfold frs; simp
    have e0 : Env0 P w K mg (hidT s₁.heap H) callerA [] s₁ H := ⟨rfl, M, fun b o e => of_hidT e, Nat.le_of_eq (hidT_size _ _), trivial, fun b q => absurd q (none0 b), hok, .of_eq hg⟩
    refine codeAny_mono ((F _ KB (dicts hns)).run callerA [] s₁ H ⟨[.ref a], []⟩ [.ref a] [.ref a] _ _ rfl hr e0 (bind s₁ (.ref a)) (.cons rfl .nil) (want H only seq)) fun r s' got => ?_
    rcases r with er | fl
    · exact False.elim got
    cases fl <;> first | exact False.elim got | skip
    obtain ⟨v, H', os, bare, un, hok', r', q⟩ := got
    subst q
    cases r'
    refine ⟨rfl, OldK.of_keep fun b o e => ?_, os, bare⟩
    rcases only b with z | ⟨ob, xs, z⟩
    · exact un.keep b o e z (none0 b) (by simp)
    · obtain ⟨e1, _⟩ := hok b _ z
      obtain ⟨e2, _⟩ := hok' b _ (un.frzs b ob _ z)
      cases e1.symm.trans e
      exact e2
  cases hk : K.lookup a with
  | some o =>
    have e := KX a o hk
    cases ha.symm.trans e
    exact main (fun _ => none) (fun _ => Or.inl rfl) (Or.inr ⟨_, vs.toArray, _, hk, rfl, rfl, rfl, by rw [List.size_toArray, ln]; exact hl, by simpa using rv⟩) (fun b u z => by cases (show (none : Option HO) = some u from z)) fun b z => absurd rfl z
  | none =>
    let ob : Obj := { cls := .type "list", data := .seq vs.toArray }
    have at_ : ∀ {b : Addr} {u : HO}, (if b = a then some (HO.frz ob (.lst (ns.map V.int))) else none) = some u → b = a ∧ u = HO.frz ob (.lst (ns.map V.int)) := by
      intro b u z
      by_cases q : b = a
      · rw [if_pos q] at z; exact ⟨q, (Option.some.inj z).symm⟩
      · rw [if_neg q] at z; cases z
    refine main (fun b => if b = a then some (.frz ob (.lst (ns.map V.int))) else none) (fun b => ?_) (Or.inl (Or.inr ⟨ob, if_pos rfl⟩)) (fun b u z => ?_) (fun b z => ?_)
    · by_cases q : b = a
      · exact Or.inr ⟨_, _, if_pos q⟩
      · exact Or.inl (if_neg q)
    · obtain ⟨rfl, rfl⟩ := at_ z
      exact ⟨ha, by rw [List.length_map]; exact hl, vs, _, rv, ha⟩
    · cases q : (if b = a then some (HO.frz ob (.lst (ns.map V.int))) else none) with
      | none => exact absurd q z
      | some u => exact ⟨(at_ q).1, hk⟩
theorem walkG {l : PySem.W.OpenLaw} {n k : Nat} {q : Program} {loose : List Str} {XP : (Str → Option Value) → Heap → Prop} {YP : World → Heap → Prop} {d : DefRec} {K : Params → PySem.W.Frag} {sp : World → Sp} {x : Str}
    (hn : l.most = some n) (hn2 : n ≤ sizeLine) (hdf : d.params.defaults = []) (hr : Room k callerA) (hY : ∀ (w : World) (h : Heap), YP w h → (K w.params).In h)
    (F : ∀ (w : World) (mg : Str → Option Value) (fa : Addr) (h : Heap), (K w.params).In h → h.Ns mainGlobals mg → mg d.name = some (.ref fa) →
      ∃ fd : FuncData, (∀ (s : Shared) (u : Value), BindsTo s fd ⟨[u], []⟩ [(x, u)]) ∧ ∀ base : Heap, (K w.params).In base → base.Ns mainGlobals mg → FnG l.prog w (K w.params) mg base CX0 k fa fd [x] (sp w))
    (want : ∀ (w : World) (H : Hp) (a : Addr) (ns : List Int), ns.length ≤ n → (∀ z ∈ ns, Builtin.Int.intBits z ≤ 1048576) → Only H → SqL (K w.params) H a (ns.map V.int) → sp w [.ref a] H (fun v _ => v = .bl true) fun _ _ _ => False) :
    PySem.W.WalkO q loose XP YP l.row.toRowW d [] (fun f vs => PySem.call f vs) := by
  refine Att.attach_callB hn hdf fun w s₀ s₁ mg mb fa o pm cd doc a vs ns G Y ho hd hcd hmg hobj hints hlen hbits hg => ?_
  obtain ⟨fd, hb, hF⟩ := F w mg fa _ (hY w _ Y) G.T.g hmg
  exact lawG (hY w _ Y) G.T.g G.T.b G.T.builtins G.T.nolimit hg hobj hints (Nat.le_trans hlen hn2) hr hF hb fun H only seq => want w H a ns hlen hbits only seq
end Rg
set_option Elab.async false
set_option maxRecDepth 100000
set_option autoImplicit false
/-! An error class of the program whose __init__ hands a text to the one above and keeps its fields. -/
namespace Er
open PySem L2 PySem.Spec PyProof.Rows PySem.Calls
abbrev veInit : String := "ValueError.__init__"
section
variable {prog : Program} {w : World} {A : Around} {E : Value → Shared → Prop} {K : PySem.W.Frag} {h : Heap} {g : Array GenState} {d : Drawn} {t : Nat} {os : OsState}
variable {nm q : Str} {C N : Addr} {bs bm : List Value} {sn : List Str} {sub : List Value} {ab : Bool} {col : Option Bool} {dd : Option Addr} {k0 k1 k2 k3 k5 : Option Value}
/-- the bound wrapper is called: the args are laid, else all stays -/
theorem wrapCall {u e t0 : Addr} {rest : List Value} {Q : Value → Shared → Prop} (hC : h.get? C = some (excClassObj nm q C N bs bm true sn sub ab col dd k0 k1 k2 k3 k5 "ValueError.__new__"))
    (hu : h.get? u = some (PySem.W.kxs_mw veInit e)) (he : h.get? e = some (PySem.HandSPX.excO C t0)) (few : rest.length ≤ sizeLine)
    (go : ∀ h' t1, (∀ b o, b ≠ e → h.get? b = some o → h'.get? b = some o) → h'.get? e = some (PySem.HandSPX.excO C t1) → Q .none ⟨h', g, d, t, os⟩) : wpAny (model prog w) A (call (.ref u) rest) Q E ⟨h, g, d, t, os⟩ := by
  refine wpAny_call (codeAny_of_tree ?_)
  show wpAny (model prog w) A.in1 (callAny (.ref u) ⟨rest, []⟩) _ _ _
  simp only [callAny]
  refine wpAny_bind (wpAny_load hu ?_)
  have k1' : (Value.type "method-wrapper" == Value.type "method" || Value.type "method-wrapper" == Value.type "builtin_function_or_method" || Value.type "method-wrapper" == Value.type "method-wrapper") = true := by decide
  simp only [k1', if_true]
  refine PySem.W.KFB.if_so (by decide) (wpAny_bind ?_)
  refine PySem.W.check_bound_init PySem.F.excBase_ValueError.toExcCallFacts hC he rfl (wpAny_bind (wpAny_pure (wpAny_pure ⟨plainId_quiet PySem.F.excBase_ValueError.init.plain _, codeAny_builtin PySem.F.excBase_ValueError.initEntry ?_⟩)))
  refine PySem.W.exc_init_tree (cls := .ref C) (t0 := t0) (dv := none) (c2 := .none) (c3 := .none) (b4 := .bool false) he few fun h' a b _ => go h' _ a b
/-- what is written of such a class, and of its __init__ at fI, whose cell is at cc, whose code at cda -/
structure ErrC (prog : Program) (K : PySem.W.Frag) (C fI cc cda : Addr) : Prop where
  cls : ∃ nm q N bs bm sn sub ab col dd k0 k1 k2 k3 k5, K.lookup C = some (excClassObj nm q C N bs bm true sn sub ab col dd k0 k1 k2 k3 k5 "ValueError.__new__") ∧ PySem.HandSPX.refsVE bm = true
  sup : PySem.W.ks_superIn K C C "__init__" = some (some (.builtin veInit))
  any_ : PySem.W.nsIn K cStatics "thirdparty.any" = some none
  ve : PySem.W.subIn K (.ref C) (.type "ValueError") = some true
  self_ : PySem.W.mroIn K C (.ref C) = some true
  cell : ∃ cl cld csl, K.lookup cc = some ⟨cl, cld, .cell (some (.ref C)), csl⟩
  code : ∃ ccl cdd vs ccs file tf, K.lookup cda = some ⟨ccl, cdd, .fields vs, ccs⟩ ∧ vs[2]? = some (.str file tf) ∧ ((prog.main.file : Str) == file) = true
  top : (prog.main.scope.names.lookup ("super" : Str)).isSome = false
/-- super().__init__("..") -/
theorem superLine {fI cc cda x L t0 : Addr} {fd : FuncData} {oc : Value} {od : Option Addr} {osl : Array (Option Value)} {ar : Arg} {m mg mb : Str → Option Value} {qual msg : Str} {scope : Scope} {body : List Stmt} {j : Nat} {p0 p1 p2 p3 p4 p5 : Pos} {pl : Sem Bool} {Q : Flow → Shared → Prop}
    (T : ErrC prog K C fI cc cda) (X : K.In h) (lk : K.lookup fI = some ⟨oc, od, .func fd, osl⟩) (hp : (fd.params.posonlyargs ++ fd.params.args).head? = some ar) (hks : scope.names.lookup ("super" : Str) = some .globalImplicit) (hkc : scope.names.lookup ("__class__" : Str) = some .free)
    (hka : scope.names.lookup ar.arg = some .local) (hk : scope.kind = .function) (hns : h.Ns L m) (hself : m ar.arg = some (.ref x)) (hx : h.get? x = some (PySem.HandSPX.excO C t0)) (gl : h.Ns mainGlobals mg) (gs : mg "super" = none) (bl : h.Ns builtinsNs mb) (bb : mb "super" = bootBuiltins "super")
    (go : ∀ h' tk t1, (∀ b o, b ≠ x → h.get? b = some o → h'.get? b = some o) → h'.get? x = some (PySem.HandSPX.excO C t1) → Q .next ⟨h', g, d, tk, os⟩)
    (he : eval (.Call (.Attribute (.Call (.Name "super" p0) [] [] p1) "__init__" p2) [.Constant (.str msg) j p3] [] p4) (PySem.W.ksEnv qual scope L fI (.ref cda) cc) = (do
        let ov ← attributeBase (.Call (.Name "super" p0) [] [] p1) "__init__" (PySem.W.ksEnv qual scope L fI (.ref cda) cc) (eval (.Call (.Name "super" p0) [] [] p1) (PySem.W.ksEnv qual scope L fI (.ref cda) cc))
        standAt p2.atName
        let (f, first) ← holding [ov] (getMethod ov "__init__" pl)
        callWith p4 f first (backTo p4 (starEach [.Constant (.str msg) j p3] (PySem.W.ksEnv qual scope L fI (.ref cda) cc))) []) := by rfl)
    (hi : interactive (PySem.W.ksEnv qual scope L fI (.ref cda) cc) = false := by rfl) (hsw : swapsWith (.Call (.Attribute (.Call (.Name "super" p0) [] [] p1) "__init__" p2) [.Constant (.str msg) j p3] [] p4) none p5.line (PySem.W.ksEnv qual scope L fI (.ref cda) cc) = pure false := by rfl) :
    _root_.PySem.wpAt (model prog w) A (.func body (PySem.W.ksEnv qual scope L fI (.ref cda) cc)) (exec (.Expr (.Call (.Attribute (.Call (.Name "super" p0) [] [] p1) "__init__" p2) [.Constant (.str msg) j p3] [] p4) p5) (PySem.W.ksEnv qual scope L fI (.ref cda) cc)) Q E ⟨h, g, d, t, os⟩ := by
  obtain ⟨nm, q, N, bs, bm, sn, sub, ab, col, dd, k0, k1, k2, k3, k5, hC, hbm⟩ := T.cls
  obtain ⟨ccl, cdd, vs, ccs, file, tf, hcode, hvs, hfile⟩ := T.code
  obtain ⟨cl, cld, csl, hcell⟩ := T.cell
  have hcd : ∃ cd, PySem.W.clsIn K C = some cd ∧ PySem.W.alongIn K "__init__" ((cd.mro.dropWhile (· != .ref C)).drop 1) = some (some (.builtin veInit)) := Option.bind_eq_some_iff.mp T.sup
  obtain ⟨cd, hcd, along⟩ := hcd
  have I0 : PySem.W.InstAt h x (PySem.HandSPX.excO C t0) C none := ⟨hx, rfl, rfl, trivial⟩
  have ne : x ≠ C := PySem.W.ks_ne X I0 hcd
  refine PySem.ks_wpAt_Expr_any (PySem.ks_wpAt_MethodCall (PySem.ks_wpAt_super_base (env := PySem.W.ksEnv qual scope L fI (.ref cda) cc) hks hkc (by decide) rfl (X _ _ lk) rfl hp rfl (X _ _ hcode) rfl hvs hfile T.top ?_) he) hi hsw
  refine PySem.W.ks_loadName_global hk hks (loadGlobal_builtin (env := PySem.W.ksEnv qual scope L fI (.ref cda) cc) gl gs bl (bb.trans (by decide +kernel : bootBuiltins "super" = some (.type "super"))) ⟨rfl, ?_⟩)
  refine wpAny_loadName_free hk hkc rfl ⟨_, X _ _ hcell, rfl⟩ (wpAny_loadName_local hk hka hns hself (PySem.ks_wpAny_isType_cls (X _ _ hC) rfl ⟨rfl, ?_⟩))
  refine PySem.ks_wpAny_call_super (X _ _ hC) rfl hx rfl (fun c e => by cases e) (PySem.W.looks_mroIn X T.self_) (fun h1 hso keep => ?_)
  have X1 := X.keeps keep
  have hx1 := keep _ _ hx
  have I1 : PySem.W.InstAt h1 x (PySem.HandSPX.excO C t0) C none := ⟨hx1, rfl, rfl, trivial⟩
  refine PySem.W.kxs_getMethod PySem.W.kxs_ValueError hso (PySem.W.looks_opaque X1 T.any_) (l₀ := cd.mro) (fun A Q E s k q => wpAny_bind (PySem.W.looks_clsIn X1 hcd A _ E s k (wpAny_pure q))) rfl X1 along (I1.type.andThen (PySem.W.looks_subIn X1 T.ve)) ne (by decide) ?_
  have hu : (h1.push (PySem.W.kxs_mw veInit x)).get? h1.objs.size = some (PySem.W.kxs_mw veInit x) := by heap_get
  have k2 : ∀ b o, h1.get? b = some o → (h1.push (PySem.W.kxs_mw veInit x)).get? b = some o := fun b o e => Heap.get?_push_of_some _ e
  refine PySem.W.kxs_callWith (i := veInit) (x := x) rfl (evalArgs_plain (spliced_cons (@Constant_str _ _ _ _ _ _ j p3 _ (spliced_nil ⟨hu, ?_⟩))))
  have keep2 : ∀ b o, h.get? b = some o → (h1.push (PySem.W.kxs_mw veInit x)).get? b = some o := fun b o e => k2 b o (keep b o e)
  refine wrapCall (X.keeps keep2 _ _ hC) hu (keep2 _ _ hx) (by show 1 ≤ sizeLine; decide) fun h' t1 k3 hx' => ?_
  exact (go h' _ t1 (fun b o n e => k3 b o n (keep2 b o e)) hx')
end
end Er
set_option Elab.async false
set_option maxRecDepth 100000
set_option autoImplicit false
namespace Er
open PySem L2 PySem.Spec PyProof.Rows PySem.Calls
/-! ### such an __init__ as a def of the hand's layer -/
theorem lookup_mem {α : Type} {x : Str} {u : α} : ∀ {l : List (Str × α)}, (l.map (·.1)).Nodup → (x, u) ∈ l → l.lookup x = some u
  | [], _, h => absurd h List.not_mem_nil
  | (y, v) :: r, nd, h => by
    rw [List.map_cons, List.nodup_cons] at nd
    rcases List.mem_cons.mp h with e | h'
    · cases e
      simp [List.lookup]
    · have ne : x ≠ y := by
        rintro rfl
        exact nd.1 (List.mem_map.mpr ⟨(_, u), h', rfl⟩)
      have e : (x == y) = false := by simpa using ne
      simp only [List.lookup, e]
      exact lookup_mem nd.2 h'
theorem zip_rev {ps : List Str} {us : List Value} {i : Nat} {x : Str} {u : Value} (nd : ps.Nodup) (l : us.length = ps.length) (h1 : ps[i]? = some x) (h2 : us[i]? = some u) : (ps.zip us).reverse.lookup x = some u := by
  refine lookup_mem ?_ (List.mem_reverse.mpr ?_)
  · rw [List.map_reverse, List.map_fst_zip (by omega)]
    unfold List.Nodup
    rw [List.pairwise_reverse]
    exact nd.imp fun h => h.symm
  · refine List.mem_of_getElem? (i := i) ?_
    rw [List.getElem?_zip_eq_some]
    exact ⟨h1, h2⟩
def exX (P : Program) (w : World) (K : PySem.W.Frag) (mg : Str → Option Value) (base : Heap) (N : List Str) (qual : Str) (scope : Scope) (f cda cc : Addr) (A : Around) (outer : List Env) (s : Shared) (H : Hp) : Cx where
  prog := P
  w := w
  K := K
  mg := mg
  base := base
  A := A.deeper (PySem.W.ksEnv qual scope s.heap.objs.size f (.ref cda) cc)
  N := N
  s_0 := s
  H_0 := H
  env := PySem.W.ksEnv qual scope s.heap.objs.size f (.ref cda) cc
  outer := outer
  stack := PySem.W.ksEnv qual scope s.heap.objs.size f (.ref cda) cc :: outer
  ex := []
  calm := true
  fn := fun _ => false
  pn := []
  xe := fun _ _ => False
/-- the scope of such an __init__ -/
structure ErrS (ps : List Str) (scope : Scope) : Prop where
  kind : scope.kind = .function
  nd : ps.Nodup
  par : ∀ x ∈ ps, scope.names.lookup x = some .local
  nocell : ∀ x ∈ scope.names, x.2 ≠ .cell
  sup : scope.names.lookup ("super" : Str) = some .globalImplicit
  cls : scope.names.lookup ("__class__" : Str) = some .free
  free : ∀ x, scope.names.lookup x = some .free → x = "__class__"
  self_ : ps[0]? = some ("self" : Str)
  co : scope.isCoroutine = false
  gen : scope.isGenerator = false
section
variable {P : Program} {w : World} {K : PySem.W.Frag} {mg : Str → Option Value} {base : Heap}
theorem start_inv {ps : List Str} {qual : Str} {scope : Scope} {C f cda cc : Addr} {A : Around} {outer : List Env} {s : Shared} {H : Hp} {us : List Value} {vs : List V} {h0 : Heap} {tk : Nat} (S : ErrS ps scope) (T : ErrC P K C f cc cda) (hd : A.handled = none) (e0 : Env0 P w K mg base A outer s H)
    (hl : vs.length = ps.length) (r : Vals vs us) (hns : h0.Ns s.heap.objs.size (fun x => (ps.zip us).reverse.lookup x)) (keep : ∀ b o, s.heap.get? b = some o → h0.get? b = some o) :
    Inv (exX P w K mg base ps qual scope f cda cc A outer s H) [] (L2.start ps vs) H { s with heap := h0, toks := tk } := by
  obtain ⟨cl, cld, csl, hcell⟩ := T.cell
  have bc := e0.mod.kin _ _ hcell
  have one : ∀ {x : Str} {c : Addr}, ([(("__class__" : Str), cc)] : List (Str × Addr)).lookup x = some c → x = "__class__" ∧ c = cc := by
    intro x c e
    by_cases q : x = "__class__"
    · subst q
      have z : some cc = some c := e
      exact ⟨rfl, (Option.some.inj z).symm⟩
    · have q2 : (x == ("__class__" : Str)) = false := by simpa using q
      simp [List.lookup, q2] at e
  have noex : ∀ b : Addr, b ∉ (exX P w K mg base ps qual scope f cda cc A outer s H).ex := fun b z => absurd (show b ∈ ([] : List Addr) from z) (by simp)
  refine ⟨⟨e0.mod, S.kind, rfl, rfl, Nat.le_refl _, fun x y c h1 h2 => ?_, fun x hx => ?_, fun x c z _ => absurd (show false = true from z) Bool.false_ne_true, fun _ => hd, Around.frames_deeper e0.frames, .inr ⟨rfl, rfl⟩, fun b z => absurd z (noex b), e0.bs, e0.bsz, fun b _ _ => noex b, fun b z => absurd z (noex b), e0.funs, e0.frf⟩,
    rfl, e0.bare, Un.kept keep, ⟨_, hns, fun i x v h1 h2 h3 => ?_⟩, fun x c h => ?_, e0.hok.fresh (Nat.le_refl _), fun x c h => ?_, fun p hp => absurd (show p ∈ ([] : List (Addr × Obj)) from hp) (by simp), e0.hok.kept keep, ?_⟩
  · exact (one h1).1.trans (one h2).1.symm
  · have hx' : scope.names.lookup x = some .cell ∨ scope.names.lookup x = some .free := hx
    rcases hx' with z | z
    · exact absurd rfl (S.nocell _ (PySem.mem_of_lookup z))
    · refine ⟨cc, ?_⟩
      show ([(("__class__" : Str), cc)] : List (Str × Addr)).lookup x = some cc
      rw [S.free x z]
      rfl
  · have hi : i < vs.length := by
      have q := (List.getElem?_eq_some_iff.mp h1).1
      have q : i < ps.length := q
      omega
    have ha : vs[i]? = some v := by
      unfold L2.start at h2
      rw [List.getElem?_append_left (by simpa using hi), List.getElem?_map] at h2
      cases e : vs[i]? with
      | none => rw [e] at h2; cases h2
      | some a => rw [e] at h2; cases h2; rfl
    obtain ⟨u, hu, rv⟩ := r.get ha
    have hp : ps[i]? = some x := h1
    exact ⟨u, rv, .inl ⟨S.par x (List.mem_of_getElem? hp), zip_rev S.nd (r.length.symm.trans hl) hp hu⟩⟩
  · obtain ⟨_, rfl⟩ := one h
    exact ⟨_, _, keep _ _ (e0.bs _ _ bc).1, rfl⟩
  · obtain ⟨_, rfl⟩ := one h
    exact (e0.bs _ _ bc).2
  · unfold L2.start
    show _ = ps.length
    rw [List.length_append, List.length_map, List.length_replicate]
    omega
end
end Er
set_option Elab.async false
set_option maxRecDepth 100000
set_option autoImplicit false
namespace Er
open PySem L2 PySem.Spec PyProof.Rows PySem.Calls
section
variable {P : Program} {w : World} {K : PySem.W.Frag} {mg : Str → Option Value} {base : Heap}
theorem ok_err {ps : List Str} {name qual msg : Str} {params : Arguments} {body rest : List Stmt} {scope : Scope} {C f cda cc : Addr} {oc dV kV doc pm ct : Value} {od an : Option Addr} {osl : Array (Option Value)} {ar : Arg} {sp : Sp} {j : Nat} {p0 p1 p2 p3 p4 p5 : Pos} {pl : Sem Bool}
    (T : ErrC P K C f cc cda) (S : ErrS ps scope) (lk : K.lookup f = some ⟨oc, od, .func (PySem.W.ksFn name qual params body scope dV kV doc pm an (.ref cda) ct cc), osl⟩) (hcd : PySem.W.codeIn K (.ref cda) qual = true) (gs : mg "super" = none)
    (hp : (params.posonlyargs ++ params.args).head? = some ar) (har : ar.arg = "self") (hb : body = .Expr (.Call (.Attribute (.Call (.Name "super" p0) [] [] p1) "__init__" p2) [.Constant (.str msg) j p3] [] p4) p5 :: rest)
    (len : ∀ vs H Q E, sp vs H Q E → vs.length = ps.length) (first : ∀ vs H Q E, sp vs H Q E → ∃ a ws, vs = .ref a :: ws ∧ H a = some (exo a C none))
    (hbody : ∀ (A : Around) (outer : List Env) (s : Shared) (H : Hp) (vs : List V) (Q : VK) (E : XK), sp vs H Q E →
      ∃ t, PSs (exX P w K mg base ps qual scope f cda cc A outer s H) rest t ∧ t { nx := fun _ H' => Q .non H', rt := Q } (L2.start ps vs) H)
    (he : ∀ L, eval (.Call (.Attribute (.Call (.Name "super" p0) [] [] p1) "__init__" p2) [.Constant (.str msg) j p3] [] p4) (PySem.W.ksEnv qual scope L f (.ref cda) cc) = (do
        let ov ← attributeBase (.Call (.Name "super" p0) [] [] p1) "__init__" (PySem.W.ksEnv qual scope L f (.ref cda) cc) (eval (.Call (.Name "super" p0) [] [] p1) (PySem.W.ksEnv qual scope L f (.ref cda) cc))
        standAt p2.atName
        let (g, first) ← holding [ov] (getMethod ov "__init__" pl)
        callWith p4 g first (backTo p4 (starEach [.Constant (.str msg) j p3] (PySem.W.ksEnv qual scope L f (.ref cda) cc))) []))
    (hi : ∀ L, interactive (PySem.W.ksEnv qual scope L f (.ref cda) cc) = false) (hsw : ∀ L, swapsWith (.Call (.Attribute (.Call (.Name "super" p0) [] [] p1) "__init__" p2) [.Constant (.str msg) j p3] [] p4) none p5.line (PySem.W.ksEnv qual scope L f (.ref cda) cc) = pure false) :
    FnOk P w K mg base CX0 1 f (PySem.W.ksFn name qual params body scope dV kV doc pm an (.ref cda) ct cc) ps sp := by
  refine ⟨len, fun A outer s H args us vs Q E hr e0 hbind r hsp => ?_⟩
  obtain ⟨a, ws, ev, ea⟩ := first _ _ _ _ hsp
  have there : ∀ b o, base.get? b = some o → s.heap.get? b = some o := fun b o e => (e0.bs b o e).1
  have KX : K.In s.heap := e0.mod.kin.keeps there
  have hl := len _ _ _ _ hsp
  refine ks_codeAny_call_defAt hr.depth (KX _ _ lk) rfl (e0.mod.nolimit.keeps there) (PySem.W.codeRec_of KX hcd) rfl hbind S.nocell (fun x hx => S.par _ (List.of_mem_zip hx).1) (fun h0 hns keep => ?_) S.co S.gen S.kind
  have I0 := start_inv (w := w) (qual := qual) (tk := s.toks + (ps.zip us).length) S T hr.hd e0 hl r hns keep
  obtain ⟨t1, ho⟩ := exo_at I0.hok ea
  obtain ⟨t, ht, q⟩ := hbody A outer s H _ Q E hsp
  obtain ⟨mb, hmb, hbb⟩ := e0.mod.blt
  have old : ∀ b o, base.get? b = some o → h0.get? b = some o := fun b o e => keep b o (there b o e)
  have hs0 : (ps.zip us).reverse.lookup ar.arg = some (.ref a) := by
    rw [har]
    subst ev
    cases r with
    | cons r0 r1 =>
      obtain rfl : _ = Value.ref a := r0
      refine zip_rev (i := 0) S.nd ?_ S.self_ rfl
      rw [List.length_cons, ← r1.length]
      exact hl
  have hka : scope.names.lookup ar.arg = some .local := by
    rw [har]
    exact S.par _ (List.mem_of_getElem? S.self_)
  rw [hb]
  refine ks_wpAt_execs_cons ?_
  refine superLine T (e0.mod.kin.keeps old) lk hp S.sup S.cls hka S.kind hns hs0 ho (e0.mod.glob.keeps old) gs (hmb.keeps old) (hbb _ (by decide)) (fun h' tk t2 k3 hx => ?_) (he _) (hi _) (hsw _)
  have J := I0.write (t' := tk) (x := a) (e := a) (o := exo a C none) (by rw [ea]; exact True.intro) (.inl rfl) k3 ⟨_, hx⟩ (exo_ok hx)
  have eu : upd H a (exo a C none) = H := by
    funext b
    by_cases z : b = a
    · rw [z, upd_same, ea]
    · rw [upd_ne z]
  rw [eu] at J
  refine wpAt_of_wpAny (wpAny_mono (ht.run [] _ _ H _ J q) (fun fl s2 out => ?_) fun _ _ z => False.elim z)
  cases fl with
  | ret u => obtain ⟨v, _, H2, J2, rv, q2⟩ := out; exact ⟨v, H2, J2.os, J2.bare, J2.base, J2.hok, rv, q2⟩
  | next => obtain ⟨_, H2, J2, q2⟩ := out; exact ⟨V.non, H2, J2.os, J2.bare, J2.base, J2.hok, rfl, q2⟩
  | brk => obtain ⟨_, _, _, q2⟩ := out; exact q2.elim
  | cont => obtain ⟨_, _, _, q2⟩ := out; exact q2.elim
end
end Er
set_option Elab.async false
set_option maxRecDepth 100000
set_option autoImplicit false
namespace Er
open PySem L2 PySem.Spec PyProof.Rows PySem.Calls
/-- self.f = p behind the text -/
def spErr1 (C : Addr) (f : Str) : Sp := fun vs H Q _ => ∃ a v, vs = [.ref a, v] ∧ H a = some (exo a C none) ∧ ∀ dx, H dx = none → dx ≠ a → Q .non (upd (upd H dx (exd dx [(f, v)])) a (exo a C (some dx)))
def spErr2 (C : Addr) (f g : Str) : Sp := fun vs H Q _ => ∃ a v u, vs = [.ref a, v, u] ∧ H a = some (exo a C none) ∧ ∀ dx, H dx = none → dx ≠ a → Q .non (upd (upd (upd H dx (exd dx [(f, v)])) a (exo a C (some dx))) dx (exd dx [(g, u), (f, v)]))
section
variable {P : Program} {w : World} {K : PySem.W.Frag} {mg : Str → Option Value} {base : Heap}
theorem rest1 {p f qual : Str} {scope : Scope} {C fi cda cc : Addr} {q1 q2 q3 q4 : Pos} (S : ErrS ["self", p] scope) (O : OexC K C) (no : PySem.W.findIn K (.ref C) f = some none) (d1 : (p == ("__debug__" : Str)) = false) (d2 : (p == ("__classdict__" : Str)) = false)
    (A : Around) (outer : List Env) (s : Shared) (H : Hp) (vs : List V) (Q : VK) (E : XK) (h : spErr1 C f vs H Q E) :
    ∃ t, PSs (exX P w K mg base ["self", p] qual scope fi cda cc A outer s H) [.Assign [.Attribute (.Name "self" q1) f q2] (.Name p q3) q4] t ∧ t { nx := fun _ H' => Q .non H', rt := Q } (L2.start ["self", p] vs) H := by
  obtain ⟨a, v, rfl, ea, k⟩ := h
  refine ⟨_, pss_one (ps_ost (pe_var (i := 0) (x := "self") rfl (.inl (S.par _ (by simp)))) (pe_var (i := 1) (x := p) rfl (.inl (S.par _ (by simp))) d1 d2)), ?_⟩
  exact ⟨_, rfl, _, rfl, a, C, rfl, O, no, .inl ⟨ea, fun dx n ne => k dx n ne⟩⟩
theorem rest2 {p p' f g qual : Str} {scope : Scope} {C fi cda cc : Addr} {q1 q2 q3 q4 r1 r2 r3 r4 : Pos} (S : ErrS ["self", p, p'] scope) (O : OexC K C) (no : PySem.W.findIn K (.ref C) f = some none) (no' : PySem.W.findIn K (.ref C) g = some none) (d1 : (p == ("__debug__" : Str)) = false) (d2 : (p == ("__classdict__" : Str)) = false) (d3 : (p' == ("__debug__" : Str)) = false) (d4 : (p' == ("__classdict__" : Str)) = false)
    (A : Around) (outer : List Env) (s : Shared) (H : Hp) (vs : List V) (Q : VK) (E : XK) (h : spErr2 C f g vs H Q E) :
    ∃ t, PSs (exX P w K mg base ["self", p, p'] qual scope fi cda cc A outer s H) [.Assign [.Attribute (.Name "self" q1) f q2] (.Name p q3) q4, .Assign [.Attribute (.Name "self" r1) g r2] (.Name p' r3) r4] t ∧ t { nx := fun _ H' => Q .non H', rt := Q } (L2.start ["self", p, p'] vs) H := by
  obtain ⟨a, v, u, rfl, ea, k⟩ := h
  refine ⟨_, pss_cons (ps_ost (pe_var (i := 0) (x := "self") rfl (.inl (S.par _ (by simp)))) (pe_var (i := 1) (x := p) rfl (.inl (S.par _ (by simp))) d1 d2)) (pss_one (ps_ost (pe_var (i := 0) (x := "self") rfl (.inl (S.par _ (by simp)))) (pe_var (i := 2) (x := p') rfl (.inl (S.par _ (by simp))) d3 d4))), ?_⟩
  refine ⟨_, rfl, _, rfl, a, C, rfl, O, no, .inl ⟨ea, fun dx n ne => ?_⟩⟩
  refine ⟨_, rfl, _, rfl, a, C, rfl, O, no', .inr ⟨dx, _, upd_same, ?_, by show 1 ≤ 900; decide, k dx n ne⟩⟩
  rw [upd_ne ne, upd_same]
end

/-! ### raise C(e) -/
/-- the exception's own dict alone is left in sight -/
theorem left1 {H : Hp} {a d C : Addr} {fs gs : List (Str × V)} (na : H a = none) (o : Option Addr) : upd (del (upd (upd (upd H a (exo a C none)) d (exd d gs)) a (exo a C o)) a) d (.xd fs) = upd H d (.xd fs) := by
  funext b
  by_cases hd : b = d
  · rw [hd, upd_same, upd_same]
  rw [upd_ne hd, upd_ne hd]
  by_cases ha : b = a
  · rw [ha, del_same, na]
  · rw [del_ne ha, upd_ne ha, upd_ne hd, upd_ne ha]
def tRaise1 (C : Addr) (f : Str) (W : WX) (te : TE) : TS := fun _ σ H => te σ H fun v H1 => ∀ d, H1 d = none → W (.ref C) (some d) σ (upd H1 d (.xd [(f, v)]))
/-- a reading, closed upwards -/
def up (te : TE) : TE := fun σ H Q => ∃ R : V → Hp → Prop, te σ H R ∧ ∀ v H1, R v H1 → Q v H1
section
variable {X : Cx}
theorem pe_up {e : Expr} {te : TE} (he : PE X e te) : PE X e (up te) := ⟨fun pins s σ H Q I ⟨R, h, m⟩ => wpAny_mono (he.run pins s σ H R I h) (fun u s1 ⟨v, H1, I1, r, q⟩ => ⟨v, H1, I1, r, m v H1 q⟩) fun _ _ z => z⟩
theorem ps_raise1 {x f : Str} {C fi : Addr} {k : Nat} {fd : FuncData} {ps : List Str} {e : Expr} {te : TE} {W : WX} {p pos pos2 : Pos} (hc : X.calm = true) (tk : Takes X W) (O : OexC X.K C) (iC : PySem.W.findIn X.K (.ref C) "__init__" = some (some (.ref fi))) (tI : PySem.W.typeIn X.K (.ref fi) = some (.type "function"))
    (F : FnOk X.prog X.w X.K X.mg X.base CX0 k fi fd ps (spErr1 C f)) (hr : Room (k + 1) X.A) (hb : Binds X.K fd ps []) (hg : Gl X x) (hm : X.mg x = some (.ref C)) (he : PE X e te) (hdb : (x == ("__debug__" : Str)) = false := by decide)
    (hs : starEach [e] X.env = (false, eval e X.env) :: starEach [] X.env := by rfl) : PS X (.Raise (some (.Call (.Name x p) [e] [] pos)) none pos2) (tRaise1 C f W te) := by
  have R := ps_raise (pos := pos2) hc tk (pmk_oex (p := p) (pos := pos) O iC tI F hr hb .nil pass0 hg hm (pa_cons (pe_up he) pa_nil hs) hdb hs)
  refine ⟨fun pins s σ H D I h => R.run pins s σ H D I ?_⟩
  refine ⟨_, h, fun v H1 q => ⟨by show 1 ≤ 1000; decide, fun a na => ⟨a, v, rfl, upd_same, fun d nd ne => ⟨rfl, d, [(f, v)], upd_same, ?_, ?_, ?_⟩⟩⟩⟩
  · rw [upd_ne ne, upd_same]
  · rw [upd_ne ne] at nd; exact nd
  · rw [upd_ne ne] at nd
    rw [left1 na]
    exact q d nd
end
end Er
set_option Elab.async false
set_option maxRecDepth 100000
set_option autoImplicit false
/-! try: .. except G as n: y = n, and y is looked at behind it: the error stays in sight. -/
namespace Er
open PySem L2 PySem.Spec PyProof.Rows PySem.Calls
/-- at a: a caught error of the class cls, with the dict d -/
def keptE (cls : Value) (d : Option Addr) (a : Addr) : HO := .ext fun h => ∃ (oe : Obj) (vs : Array Value), h.get? a = some oe ∧ Zc cls d oe ∧ oe.data = .fields vs
section
variable {X : Cx} {pins : List (Addr × Obj)} {σ : L2.St} {H : Hp} {s : Shared}
theorem kept_ok {P : Program} {w : World} {G : Hp} {h : Heap} {a : Addr} {cls : Value} {d : Option Addr} {oe : Obj} {vs : Array Value} (e : h.get? a = some oe) (z : Zc cls d oe) (dd : oe.data = .fields vs) : ObjOk P w G h a (keptE cls d a) :=
  ⟨⟨oe, vs, e, z, dd⟩, ⟨oe, e⟩, fun h1 h2 ⟨o1, v1, e1, z1, d1⟩ k => ⟨o1, v1, k _ e1, z1, d1⟩⟩
/-- an object of none of the tracked ones, made behind the entry, comes into sight -/
theorem track {a : Addr} {o : HO} {ob : Obj} {vs : Array Value} (I : Inv X pins σ H s) (hx : X.ex = []) (old : X.s_0.heap.get? a = none) (na : H a = none) (nl : a ≠ X.env.locals) (ha : s.heap.get? a = some ob) (hd : ob.data = .fields vs) (np : ∀ p ∈ X.pn ++ pins, p.1 ≠ a)
    (new : ObjOk X.prog X.w (upd H a o) s.heap a o) : Inv X pins σ (upd H a o) s := by
  have off : ∀ {b : Addr} {u : HO}, H b = some u → upd H a o b = some u := fun {b u} e => by rw [upd_ne (ne_of_none e na)]; exact e
  refine ⟨I.ok, I.os, I.bare, ⟨I.base.keep, I.base.slot, fun b u e n x => ?_, I.base.there, fun b xs e => off (I.base.tups b xs e), fun b u v e => off (I.base.frzs b u v e), fun b ps e => ?_⟩, I.loc, I.cell, ?_, fun x c e => ?_, fun p hp => ?_, I.hok.laidN (fun b u e => e) na new, I.len⟩
  · have ne : b ≠ a := by
      rintro rfl
      rw [old] at e; cases e
    rw [upd_ne ne]
    exact I.base.free b u e n x
  · obtain ⟨more, q⟩ := I.base.tbls b ps e
    exact ⟨more, off q⟩
  · rw [upd_ne nl.symm]; exact I.free
  · have ne : c ≠ a := by
      rintro rfl
      obtain ⟨v, oc, e1, e2⟩ := I.cell x c e
      rw [ha] at e1
      cases e1
      rw [hd] at e2; cases e2
    rw [upd_ne ne]; exact I.freeC x c e
  · obtain ⟨q1, q2, q3⟩ := I.pin p hp
    exact ⟨q1, by rw [upd_ne (np p hp)]; exact q2, q3⟩
end
end Er
set_option Elab.async false
set_option maxRecDepth 100000
set_option autoImplicit false
namespace Er
open PySem L2 PySem.Spec PyProof.Rows PySem.Calls
/-- what 'except G as n: y = n' wishes of an error of the body: i is n's slot, j is y's -/
def wKeep (K : PySem.W.Frag) (c : Value) (i j m : Nat) (Wout : WX) (D : Ends) : WX := fun cls d σ H =>
  ∃ b, PySem.W.exmOne K cls c = some b ∧ (b = true → σ.length = m → ∀ a, H a = none → D.nx (((σ.set i (some (.ref a))).set j (some (.ref a))).set i none) (upd H a (keptE cls d a))) ∧ (b = false → Wout cls d σ H)
section
variable {X : Cx} {x n y : Str} {c : Value} {i j : Nat} {body : List Stmt} {np yp np2 sp pos pos' : Pos} {tb : WX → TS} {Wout : WX}
theorem ps_try_keep (hs : X.stack = X.env :: X.outer) (hf : X.env.frame = some X.env.locals) (hex : X.ex = []) (hN : X.N.Nodup) (hi : X.N[i]? = some n) (hj : X.N[j]? = some y) (hln : X.env.kindOf n = some .local) (hly : X.env.kindOf y = some .local) (hc : Names X x c) (tk : Takes X Wout)
    (hdn : (n == ("__debug__" : Str)) = false) (hcn : (n == ("__classdict__" : Str)) = false) (hsw : swapsWith (.Name n np2) (some (.Name y yp)) sp.line X.env = pure false)
    (hb : ∀ (W : WX) (pn : List (Addr × Obj)) (xe : Value → Shared → Prop), Takes (X.tr pn xe) W → PassesOwn (model X.prog X.w) X.A X.env xe → PSs (X.tr pn xe) body (tb W)) :
    PS X (.Try body [.ExceptHandler (some (.Name x np)) (some n) [.Assign [.Name y yp] (.Name n np2) sp] pos'] [] [] pos) (fun D σ H => tb (wKeep X.K c i j X.N.length Wout D) D σ H) := by
  constructor
  intro pins s σ H D I h
  have fine := I.ok
  have frames : X.A.frames = some (X.env :: X.outer) := fine.frames.trans (congrArg some hs)
  have run := (hb (wKeep X.K c i j X.N.length Wout D) (X.pn ++ pins) (fun e s₁ => wpAny (model X.prog X.w) X.A (noteFrame e X.env) (fun _ s₂ => wpAny (model X.prog X.w) X.A (setFlight e none) (fun _ s₃ =>
    wpAny (model X.prog X.w) X.A (handleBy e X.env [.ExceptHandler (some (.Name x np)) (some n) [.Assign [.Name y yp] (.Name n np2) sp] pos']) (SP X pins D) X.xe s₃) X.xe s₂) X.xe s₁) ?hit PassesOwn.looking).run [] s σ H D (I.toTry _) h
  case hit =>
    rintro u s' ⟨a, B, sI, pins1, σ1, H1, cls, d, rfl, J0, ground, up0, sky0, na, os, ag, b, test, yes, no⟩
    have J : Inv X pins σ1 H1 sI := J0.ofTry fine
    have sky : Sky B (X.env :: X.outer) a (Zc cls d) X.env.locals s'.heap := hs ▸ sky0
    show wpAny (model X.prog X.w) X.A (noteFrame (.ref a) X.env) _ _ _
    refine Sky.land Zc.steady frames hf sky fun g3 fly3 up3 => ?_
    have J3 : Inv X pins σ1 H1 { s' with heap := g3 } := J.landed ground fly3.1 (up0.trans up3) os ag
    obtain ⟨o3, v3, e3, z3, d3⟩ := fly3.there
    have away : a ∉ frs (X.env :: X.outer) := fun mem => by
      obtain ⟨_, o, e, no_⟩ := fly3.2.2.1.mem mem
      rw [e3] at e; cases e
      exact no_ _ d3
    have awayL : a ≠ X.env.locals := fun z => away (List.mem_filterMap.mpr ⟨X.env, List.mem_cons_self, hf.trans (congrArg some z.symm)⟩)
    have awayF : a ∉ X.fs := fun mem => by
      obtain ⟨e, m1, m2⟩ := List.mem_filterMap.mp mem
      exact away (List.mem_filterMap.mpr ⟨e, List.mem_cons_of_mem _ m1, m2⟩)
    -- the error is younger than the entry
    have young : sI.heap.get? a = none := by
      cases q : sI.heap.get? a with
      | none => rfl
      | some o =>
        have qB := ground a o q (by rw [hs]; exact away)
        rw [fly3.2.1] at qB; cases qB
    have entry : X.s_0.heap.get? a = none := by
      cases q : X.s_0.heap.get? a with
      | none => rfl
      | some o =>
        obtain ⟨o', q'⟩ := J.base.there a o q (by rw [hex]; exact List.not_mem_nil)
        rw [young] at q'; cases q'
    have apart : ∀ p ∈ X.pn ++ pins, p.1 ≠ a := fun p hp z => by
      have q := (J.pin p hp).1
      rw [z, young] at q; cases q
    have S3 := J3.suite e3 d3 na awayL awayF
    refine wpAny_handleBy_cons (codeAny_handlers_test ?_) (by intro q; cases q)
    have LT : PySem.W.Looks (model X.prog X.w) g3 (typeOf (.ref a)) cls := fun _ _ _ _ k q => wpAny_typeOf_ref (k _ _ e3) (by rw [z3.1]; exact q)
    have LM := PySem.W.exm_one (M := model X.prog X.w) J3.kIn LT test
    have named : ∀ {Q : Value → Shared → Prop} {E : Value → Shared → Prop}, Q c { s' with heap := g3 } → wpAny (model X.prog X.w) (X.A.mark (some (.ref a))) (eval (.Name x np) X.env) Q E { s' with heap := g3 } := fun {Q E} q => by
      rcases hc with ⟨hg, hdbg, hm | ⟨hm, hv, hnn⟩⟩
      · exact ld_glob (X := X.suite a ((a, o3) :: (X.pn ++ pins))) S3 hg hm q hdbg
      · exact ld_blt (X := X.suite a ((a, o3) :: (X.pn ++ pins))) S3 hg hm hv q hnn hdbg
    refine named (LM.here ?_)
    cases b with
    | true =>
      refine codeAny_handlers_suite_as (HandSPX.lands_againZ fly3 fun g4 fly4 up4 => ?_)
      have J4 : Inv X pins σ1 H1 { s' with heap := g4 } := J.landed ground fly4.1 ((up0.trans up3).trans up4) os ag
      obtain ⟨o4, v4, e4, z4, d4⟩ := fly4.there
      have S4 := J4.suite e4 d4 na awayL awayF
      refine store_ok (X := X.suite a ((a, o4) :: (X.pn ++ pins))) (v := .ref a) S4 hN hi (.inl hln) rfl (fun s5 S5 => ?_) (.inr hln)
      have il : i < σ1.length := by
        rw [S4.len]
        exact (List.getElem?_eq_some_iff.mp hi).1
      have one := pss_one (X := X.suite a ((a, o4) :: (X.pn ++ pins))) (ps_set (pos := sp) (pos' := yp) (i := j) hN hj (.inl hly) (pe_var (i := i) (pos := np2) hi (.inl hln) hdn hcn) hsw (.inr hly))
      refine wpAny_mono (one.run [] s5 _ H1 { nx := fun σ' H' => σ' = (σ1.set i (some (.ref a))).set j (some (.ref a)) ∧ H' = H1, rt := fun _ _ => False } S5 ⟨.ref a, by rw [List.getElem?_set_self il], rfl, rfl⟩) (fun fl s6 got => ?_) (fun _ _ z => False.elim z)
      cases fl with
      | next =>
        obtain ⟨_, _, S6, rfl, rfl⟩ := got
        have there := (S6.pin (a, o4) (List.mem_append_left _ List.mem_cons_self)).1
        exact gone_ok (track (S6.unsuite fine) hex entry na awayL there d4 apart (kept_ok there z4 d4)) hN hi hln fun s7 J7 => ⟨_, _, J7, yes rfl S4.len a na⟩
      | ret u => obtain ⟨_, _, _, _, _, z⟩ := got; exact z.elim
      | brk => obtain ⟨_, _, _, z⟩ := got; exact z.elim
      | cont => obtain ⟨_, _, _, z⟩ := got; exact z.elim
    | false =>
      show wpAny (model X.prog X.w) X.A (handleBy (.ref a) X.env []) _ _ _
      refine wpAny_handleBy_nil ?_
      obtain ⟨_, _, _, oe, vs, T, oT, us, q1, q2, q3, q4, q5⟩ := id fly3
      unfold PySem.passOn
      refine wpAny_bind (wpAny_field q1 q3 q4 ?_)
      rw [if_neg (by simp)]
      have out : wpAny (model X.prog X.w) X.A (setFlight (.ref a) X.env.frame) (fun _ s4 => wpAny (model X.prog X.w) X.A (throw (.ref a) : Sem Flow) (SP X pins D) X.xe s4) X.xe { s' with heap := g3 } := by
        rw [hf]
        exact HandSPX.setFlight_upZ fly3 fun g4 held up4 => wpAny_throw (tk _ _ ⟨a, B, sI, pins, σ1, H1, cls, d, rfl, J, ground, (up0.trans up3).trans up4, .inr (.inr (by rw [hs]; exact held)), na, os, ag, no rfl⟩)
      first
        | exact wpAny_bind (wpAny_pure (wpAny_bind out))
        | exact wpAny_bind out
  refine wpAny_Try_except (wpAny_mono run (fun f s1 got => ?_) fun e s1 he => he)
  cases f with
  | next => obtain ⟨σ', H', J', q⟩ := got; exact wpAny_execs_nil ⟨σ', H', J'.ofTry fine, q⟩
  | brk => obtain ⟨σ', H', J', q⟩ := got; exact ⟨σ', H', J'.ofTry fine, q⟩
  | cont => obtain ⟨σ', H', J', q⟩ := got; exact ⟨σ', H', J'.ofTry fine, q⟩
  | ret u => obtain ⟨v, σ', H', J', r, q⟩ := got; exact ⟨v, σ', H', J'.ofTry fine, r, q⟩
end
end Er
set_option Elab.async false
set_option maxRecDepth 100000
set_option autoImplicit false
namespace Er
open PySem L2 PySem.Spec PyProof.Rows PySem.Calls
/-- what is written of a class of errors, so that its errors may be asked what they are -/
structure KeptC (K : PySem.W.Frag) (C : Addr) : Prop where
  xf : XfC K C
  cls : (PySem.W.clsIn K C).isSome = true
  at_ : PySem.W.findIn K (.ref C) "__class__" = some (some (.builtin "object.__class__"))
  get : PySem.W.specialIn K (.builtin "object.__class__") "__get__" = some (some (.builtin "getset_descriptor.__get__"))
  tak : PySem.W.takesIn K (.builtin "object.__class__") = some true
  obj : PySem.W.mroIn K C (.type "object") = some true
/-- at a: such an error, its fields fs -/
def KeptAt (H : Hp) (a C d : Addr) (fs : List (Str × V)) : Prop := H a = some (keptE (.ref C) (some d) a) ∧ H d = some (.xd fs)
def rIsErr (K : PySem.W.Frag) : List V → Hp → VK → Prop := fun xs H Q => ∃ (a C d : Addr) (fs : List (Str × V)) (c : V) (cv : Value) (b : Bool), xs = [.ref a, c] ∧ KeptAt H a C d fs ∧ KeptC K C ∧ ClsV c cv ∧ PySem.W.kitOne K (.ref C) cv = some b ∧ Q (.bl b) H
section
variable {X : Cx} {pins : List (Addr × Obj)} {σ : L2.St} {H : Hp} {s : Shared}
theorem inst_of {a C d : Addr} {fs : List (Str × V)} (I : Inv X pins σ H s) (k : KeptAt H a C d fs) : ∃ (oe od : Obj) (mA : Str → Option Value), PySem.W.InstAt s.heap a oe C (some od) ∧ (∀ f, PySem.W.lookIn f od = some (mA f)) ∧ ∀ f, RelO (fs.lookup f) (mA f) := by
  have oa := I.hok a _ k.1
  obtain ⟨⟨oe, vs, ha, hz, hd⟩, _, _⟩ := oa
  have hx : ObjOk X.prog X.w H s.heap d (.xd fs) := I.hok d _ k.2
  obtain ⟨mA, hns, hr⟩ := hx
  obtain ⟨od, ho, hl⟩ := lookIn_ns hns
  exact ⟨oe, od, mA, ⟨ha, hz.1, by unfold PySem.W.notCls; rw [hd] <;> rfl, by rw [hz.2]; exact ho⟩, hl, hr⟩
theorem call_isErr : CallR X (.builtin "isinstance") (rIsErr X.K) := by
  rintro pins s σ H xs us Q I r ⟨a, C, d, fs, c, cv, b, rfl, k, T, kc, e, q⟩
  obtain ⟨u1, u2, rfl, r1, r2⟩ := vals2 r
  obtain rfl : u1 = Value.ref a := r1
  have e2 := kc.eq r2
  subst e2
  obtain ⟨oe, od, mA, J, _, _⟩ := inst_of I k
  exact PySem.W.kia_one (PySem.W.kitx_exc (ox := oe) (od := some od) T.cls T.xf.ga T.xf.gg T.xf.exC T.at_ T.get T.tak T.obj) I.kIn J e (fun z => by cases z) fun tk => ⟨.bl b, H, I.tok tk, rfl, q⟩
/-- e.f, e such an error -/
def tKf (K : PySem.W.Frag) (f : Str) (te : TE) : TE := fun σ H Q => te σ H fun x H1 => ∃ a C d fs v, x = .ref a ∧ KeptAt H1 a C d fs ∧ XfC K C ∧ PySem.W.findIn K (.ref C) f = some none ∧ fs.lookup f = some v ∧ Q v H1
theorem pe_kf {e : Expr} {te : TE} {f : Str} {pos : Pos} (he : PE X e te) (hb : attributeBase e f X.env (eval e X.env) = eval e X.env := by rfl) : PE X (.Attribute e f pos) (tKf X.K f te) := by
  refine ⟨fun pins s σ H Q I h => attr_of hb (thn (he.run pins s σ H _ I h) ?_)⟩
  rintro u s1 ⟨x, H1, I1, rx, a, C, d, fs, v, rfl, k, T, no, l, q⟩
  obtain rfl : u = Value.ref a := rx
  obtain ⟨oe, od, mA, J, look, rel⟩ := inst_of I1 k
  obtain ⟨z, hz, rz⟩ := RelO.some_of (v := v) (o := mA f) (by rw [← l]; exact rel f)
  exact HandSPX.exc_get I1.kIn J T.ga T.gg T.exC (PySem.W.findObj_own T.hdC no rfl (by rw [look, hz])) (handed_of rz) ⟨v, H1, I1.tok _, rz, q⟩
end
end Er
set_option Elab.async false
set_option maxRecDepth 100000
set_option autoImplicit false
/-! Rules: str(x) by an own __str__; x == y by an own __eq__, y anything; list(text); text * number; x is True. -/
namespace Ru
open PySem L2 PySem.Spec PyProof.Rows Rg
section
variable {prog : Program} {w : World} {A : Around} {E : Value → Shared → Prop} {s : Shared} {K : PySem.W.Frag} {x C f : Addr} {ox : Obj} {od : Option Obj}
theorem strOf_own (hu : A.units < cLine) {Q : Value → Shared → Prop} (X : K.In s.heap) (I : PySem.W.InstAt s.heap x ox C od) (hs : PySem.W.findIn K (.ref C) "__str__" = some (some (.ref f))) (hf : PySem.W.isFn K (.ref f) = true)
    (h : wpAny (model prog w) A (call (.ref f) [.ref x]) (fun r s₁ => ∃ z t, r = Value.str z t ∧ Q r s₁) E s) : wpAny (model prog w) A (Builtin.Str.strOf (.ref x)) Q E s := by
  unfold Builtin.Str.strOf
  rw [show Builtin.Str.isExactStr (.ref x) = false from rfl]
  refine wpAny_bind (m := cRoomFor _ _) (wpAny_cRoomFor hu ?_)
  refine wpAny_bind (m := callSpecial? (.ref x) (Str.ofString "__str__")) (PySem.W.special_fn X I hs (beq_iff_eq.mp hf) (wpAny_mono h (fun r s₁ h₁ => ?_) fun _ _ e => e))
  obtain ⟨z, t, rfl, hq⟩ := h₁
  exact wpAny_pure hq
theorem str_own (hu : A.units + 2 < cLine) {Q : Value → Shared → Prop} (X : K.In s.heap) (I : PySem.W.InstAt s.heap x ox C od) (hs : PySem.W.findIn K (.ref C) "__str__" = some (some (.ref f))) (hf : PySem.W.isFn K (.ref f) = true)
    (h : wpAny (model prog w) A.in1.in1 (call (.ref f) [.ref x]) (fun r s₁ => ∃ z t, r = Value.str z t ∧ Q r s₁) E s) : wpAny (model prog w) A (call (.type "str") [.ref x]) Q E s := by
  refine callType_codes (T := "str") (Bi := Builtin.«object.__init__») (Q₁ := fun r s₁ => ∃ n u, r = Value.str n u ∧ Q r s₁) PySem.F.called_str (PySem.F.typeCall_str_1 _) PySem.F.entry_object_init ?_ ?_
  · refine codeAny_of_tree ?_
    show wpAny _ A.in1.in1 (do checkBuiltinCall "str.__new__" ⟨[.type "str", .ref x], []⟩; again (.builtin "str.__new__" ⟨[.type "str", .ref x], []⟩)) _ _ s
    refine wpAny_bind (wpAny_of_eq (PySem.F.newCall_str_1 _) (wpAny_pure ⟨plainId_quiet (by decide +kernel) _, codeAny_builtin PySem.F.entry_str_new ?_⟩))
    rw [Around.under_plainId (by decide +kernel) _, str_new_tree]
    refine wpAny_bind (wpAny_pure ?_)
    refine wpAny_bind (wpAny_of_eq isSubtype_str_str ?_)
    refine wpAny_bind (strOf_own (by show A.units + 1 + 1 < cLine; omega) X I hs hf (wpAny_mono h (fun r s₁ hr => ?_) fun _ _ y => y))
    obtain ⟨n, u, rfl, hq⟩ := hr
    exact ⟨n, u, rfl, wpAny_pure ⟨n, u, rfl, hq⟩⟩
  · rintro obj s₁ ⟨n, u, rfl, hq⟩
    exact ⟨typeIs_str _ _ _, PySem.F.args_object_init_2 _ _, object_init_meets PySem.F.called_str.init.lookup PySem.F.called_str.made (by decide) prog w A.in1 _ s₁ ⟨typeIs_str _ _ _, rfl, hq⟩⟩
end
section
variable {X : Cx} {CX : CXT} {k : Nat} {C f : Addr} {fd : FuncData} {ps : List Str} {sp : Sp} {E : XK} {pins : List (Addr × Obj)} {σ : L2.St} {H : Hp} {s : Shared}
/-- a def of the text, run within A -/
theorem runAt {A : Around} {Q : VK} {us : List Value} {vs : List V} (F : FnOk X.prog X.w X.K X.mg X.base CX k f fd ps sp) (room : Room k A) (e0 : Env0 X.prog X.w X.K X.mg X.base A X.stack s H) (bd : Binds X.K fd ps []) (ex : Passes CX X E)
    (I : Inv X pins σ H s) (r : Vals vs us) (want : sp vs H Q E) : wpAny (model X.prog X.w) A (call (.ref f) us) (EP X pins σ Q) X.xe s := by
  have len : us.length = ps.length := r.length.symm.trans (F.len _ _ _ _ want)
  have bt : BindsTo s fd ⟨us, []⟩ (ps.zip us) := by
    have z := bd s us I.kIn (by rw [List.append_nil]; exact len)
    rw [List.append_nil] at z
    exact z
  refine wpAny_call (codeAny_mono (F.run A X.stack s H ⟨us, []⟩ us vs Q E room e0 bt r want) fun res s' got => ?_)
  rcases res with e | fl
  · exact ex pins σ H s e s' I got
  · cases fl <;> first | exact I.after got | exact False.elim got
/-- str(o), o an instance of the class at C -/
def rStrOwn (C : Addr) (sp : Sp) (E : XK) : List V → Hp → VK → Prop := fun xs H Q => ∃ a dx fs, xs = [.ref a] ∧ H a = some (.ins C dx fs) ∧ sp [.ref a] H (fun v H' => ∃ z : Str, v = .str z ∧ Q (.str z) H') E
theorem call_strOwn (F : FnOk X.prog X.w X.K X.mg X.base CX k f fd ps sp) (room : Room (k + 2) X.A) (bd : Binds X.K fd ps []) (ex : Passes CX X E)
    (at_ : PySem.W.findIn X.K (.ref C) "__str__" = some (some (.ref f))) (fn : PySem.W.isFn X.K (.ref f) = true) : CallR X (.type "str") (rStrOwn C sp E) := by
  rintro pins s σ H xs us Q I r ⟨a, dx, fs, rfl, e, want⟩
  obtain ⟨od, J⟩ := instAt I e
  cases r with
  | cons r0 r1 =>
    cases r1
    cases r0
    have hr2 : Room k X.A.in1.in1 := (show Room (k + 1) X.A.in1 from Room.in1 room).in1
    refine str_own (by have := room.un; omega) I.kIn J at_ fn (thn (runAt F hr2 I.env0.in1.in1 bd ex I (.cons (rvRef a) .nil) want) ?_)
    rintro u s' ⟨v, H', I', rv, z, rfl, q⟩
    obtain ⟨t, rfl⟩ := rv
    exact ⟨z, t, rfl, .str z, H', I', ⟨t, rfl⟩, q⟩
/-- o == y, y of another kind, or of the class itself -/
def rEqOwn (K : PySem.W.Frag) (C : Addr) (sp : Sp) (E : XK) : R2 := fun x y H Q => ∃ a dx fs t, x = .ref a ∧ H a = some (.ins C dx fs) ∧ TyX K H y t ∧ PySem.W.notFirst K C t = true ∧ sp [x, y] H (fun v H' => ∃ b, v = .bl b ∧ Q (.bl b) H') E
theorem op_eqOwn (F : FnOk X.prog X.w X.K X.mg X.base CX k f fd ps sp) (room : Room k X.A) (bd : Binds X.K fd ps []) (ex : Passes CX X E)
    (at_ : PySem.W.findIn X.K (.ref C) "__eq__" = some (some (.ref f))) (fn : PySem.W.isFn X.K (.ref f) = true) : OpR X (compareOp .Eq) (rEqOwn X.K C sp E) := by
  rintro pins s σ H x y v u Q I rx ry ⟨a, dx, fs, t, rfl, e, ty, nf, want⟩
  obtain rfl : v = Value.ref a := rx
  obtain ⟨od, J⟩ := instAt I e
  obtain ⟨m, hF⟩ := I.fr
  show wpAny (model X.prog X.w) X.A (richCompare .Eq (.ref a) u) (EP X pins σ Q) X.xe s
  obtain ⟨P0, kx, hp, _⟩ := kit_of I ry ty
  refine PySem.W.cmp_K (op := .Eq) (tb := t) room.units0 hF I.ok.mod.kin J (kx.ty _ _ I.kIn hp) nf at_ fn ?_
  refine thn (runAt F room I.env0 bd ex I (.cons (rvRef a) (.cons ry .nil)) want) ?_
  rintro z s' ⟨v', H', I', rv, b, rfl, q⟩
  obtain rfl : z = Value.bool b := rv
  exact ⟨.bl b, H', I', rfl, q⟩
theorem signs_at : ∀ {us : List Value} {cs : List Nat}, us.length = cs.length → (∀ (j : Nat) (v : Value), us[j]? = some v → ∃ (c : Nat) (u : Tok), cs[j]? = some c ∧ v = .str ⟨#[c]⟩ u) → Vals (cs.map fun c => V.str ⟨#[c]⟩) us
  | [], [], _, _ => .nil
  | u :: us, c :: cs, hl, h => by
    refine .cons ?_ (signs_at (by simpa using hl) fun j v e => ?_)
    · obtain ⟨c', t, h1, h2⟩ := h 0 u rfl
      cases h1
      exact ⟨t, h2⟩
    · obtain ⟨c', t, h1, h2⟩ := h (j + 1) v (by simpa using e)
      exact ⟨c', t, by simpa using h1, h2⟩
/-- list(text) -/
def rListS : List V → Hp → VK → Prop := fun xs H Q => ∃ z : Str, xs = [.str z] ∧ z.length ≤ sizeLine ∧ ∀ l, H l = none → Q (.ref l) (upd H l (.lst (z.cps.toList.map fun c => V.str ⟨#[c]⟩)))
theorem call_listS (hc : X.calm = true) : CallR X (.type "list") rListS := by
  rintro pins s σ H xs us Q I r ⟨z, rfl, few, q⟩
  obtain ⟨u, rfl, t, rfl⟩ := vals1 r
  refine call_list_str (I.ok.hd hc) z t (hn := few) fun h' tk acc c' hk hD hacc => ?_
  have hv : Vals (z.cps.toList.map fun c => V.str ⟨#[c]⟩) acc.toList := signs_at (by rw [Array.length_toList, Array.length_toList]; exact hacc.1) fun j v e => by
    obtain ⟨c, u, h1, h2⟩ := hacc.2 j v (by rw [← Array.getElem?_toList]; exact e)
    exact ⟨c, u, by rw [Array.getElem?_toList]; exact h1, h2⟩
  exact ⟨.ref s.heap.objs.size, _, I.laid (t' := tk) hk (Nat.le_refl _) (show ObjOk X.prog X.w _ _ _ (.lst (z.cps.toList.map fun c => V.str ⟨#[c]⟩)) from ⟨by simpa [Str.length] using few, acc.toList, c', hv, by rw [Array.toArray_toList]; exact hD⟩), rfl, q _ (I.hok.fresh (Nat.le_refl _))⟩
/-- text * 0, text * 1 -/
def rMul1 : R2 := fun x y H Q => ∃ (z : Str) (b : Bool), x = .str z ∧ y = .int (if b then 1 else 0) ∧ Q (.str (if b then z else Str.empty)) H
theorem op_mul1 : OpR X (binaryOp .Mult) rMul1 := by
  rintro pins s σ H x y v u Q I rx ry ⟨z, b, rfl, rfl, q⟩
  obtain ⟨t, rfl⟩ := rx
  obtain ⟨t', rfl⟩ := ry
  cases b with
  | true =>
    refine PySem.P.mul_str (by decide) (fun _ h => absurd h (by simp)) (fun _ h => absurd h (by simp)) ?_
    exact ⟨.str z, H, I, ⟨t, rfl⟩, q⟩
  | false =>
    refine PySem.P.mul_str (by decide) (fun h => absurd (by decide) h) (fun h => absurd (by decide) h) ?_
    exact ⟨by decide, .str Str.empty, H, I.tok _, ⟨_, rfl⟩, q⟩
/-- x is y, y a truth, x a truth or a text -/
def rIsBS : R2 := fun x y H Q => ∃ b, y = .bl b ∧ ((∃ a, x = .bl a) ∨ ∃ z, x = .str z) ∧ Q (.bl (decide (x = y))) H
theorem op_isBS : OpR X (compareOp .Is) rIsBS := by
  rintro pins s σ H x y v u Q I rx ry ⟨b, rfl, hx, q⟩
  obtain rfl : u = Value.bool b := ry
  rcases hx with ⟨a, rfl⟩ | ⟨z, rfl⟩
  · obtain rfl : v = Value.bool a := rx
    by_cases e : a = b
    · subst e
      exact wpAny_is_self rfl ⟨.bl true, H, I, rfl, by simpa using q⟩
    · exact wpAny_is_other rfl (fun z => e (Value.bool.inj z)) ⟨.bl false, H, I, rfl, by simpa [e] using q⟩
  · obtain ⟨t, rfl⟩ := rx
    exact wpAny_is_other rfl (fun z => nomatch z) ⟨.bl false, H, I, rfl, by simpa using q⟩
end
end Ru
set_option Elab.async false
set_option maxRecDepth 100000
namespace Kx
open PySem L2 PySem.Spec PyProof.Rows Rg
def top (i : Nat) : Stmt := PySem.Challenge.pw_rowgames_k04_rules_made.main.body.getD i (.Pass ⟨0, 0, 0, 0⟩)
abbrev sPen : Stmt := top 15
abbrev sDraw : Stmt := top 16
abbrev sPick : Stmt := top 17

/-! ### heaps that grow, but for the pen -/
def Ext1 (p : Addr) (H H' : Hp) : Prop := ∀ b o, b ≠ p → H b = some o → H' b = some o
theorem Ext1.refl (p : Addr) (H : Hp) : Ext1 p H H := fun _ _ _ e => e
theorem Ext1.trans {p : Addr} {H H1 H2 : Hp} (a : Ext1 p H H1) (b : Ext1 p H1 H2) : Ext1 p H H2 := fun c o n e => b c o n (a c o n e)
theorem Ext1.new {p q : Addr} {H : Hp} {o : HO} (h : H q = none) : Ext1 p H (upd H q o) := fun b u _ e => by rw [upd_ne (ne_of_none e h)]; exact e
theorem Ext1.put {p : Addr} {H : Hp} {o : HO} : Ext1 p H (upd H p o) := fun b u n e => by rw [upd_ne n]; exact e

/-- at p the pen: at most n cells were taken -/
def PenAt (c : Addr) (n : Nat) (H : Hp) (p : Addr) : Prop := ∃ (ns : List Int) (a g : Int), H p = some (.lst [.ref c, .int a, .int g]) ∧ H c = some (.lst (ns.map V.int)) ∧ c ≠ p ∧ ns.length ≤ 63 ∧ 0 ≤ a ∧ a ≤ n
theorem PenAt.mono {c : Addr} {n m : Nat} {H : Hp} {p : Addr} (h : PenAt c n H p) (l : n ≤ m) : PenAt c m H p := by
  obtain ⟨ns, a, g, h1, h2, h3, h4, h5, h6⟩ := h
  exact ⟨ns, a, g, h1, h2, h3, h4, h5, by omega⟩
theorem PenAt.ext {c : Addr} {n : Nat} {H H' : Hp} {p : Addr} (h : PenAt c n H p) (e : ∀ b o, H b = some o → H' b = some o) : PenAt c n H' p := by
  obtain ⟨ns, a, g, h1, h2, h3⟩ := h
  exact ⟨ns, a, g, e _ _ h1, e _ _ h2, h3⟩
theorem PenAt.new {c : Addr} {n : Nat} {H : Hp} {p q : Addr} {o : HO} (h : PenAt c n H p) (f : H q = none) : PenAt c n (upd H q o) p := h.ext fun b u e => by rw [upd_ne (ne_of_none e f)]; exact e

/-! ### what the built-in names are -/
structure Txt (mg : Str → Option Value) : Prop where
  len : mg "len" = none
  int : mg "int" = none
  abs : mg "abs" = none
  list : mg "list" = none
  tuple : mg "tuple" = none
  range : mg "range" = none
  repr : mg "repr" = none
  isi : mg "isinstance" = none
  all : mg "all" = none
  set : mg "set" = none

/-! ### _law_draw -/
def spDraw : Sp := fun vs H Q _ => ∃ (c p : Addr) (m : Int) (n : Nat), vs = [.ref p, .int m] ∧ 0 < m ∧ m < 1000000 ∧ n ≤ 1000000 ∧ PenAt c n H p ∧ ∀ r H', 0 ≤ r → r < m → PenAt c (n + 1) H' p → Ext1 p H H' → Q (.int r) H'

theorem dpInts (K : PySem.W.Frag) (H : Hp) : ∀ ns : List Int, DpAll K H (ns.map V.int) (ns.map PyData.int)
  | [] => .nil
  | n :: r => .cons (.int n) (dpInts K H r)
theorem layInts : ∀ ns : List Int, PyData.canLayAll0 (ns.map PyData.int) = true
  | [] => rfl
  | _ :: r => layInts r
theorem depthInts : ∀ ns : List Int, PyData.depthAll (ns.map PyData.int) = 0
  | [] => rfl
  | _ :: r => by
    show max 0 (PyData.depthAll (r.map PyData.int)) = 0
    rw [depthInts r] <;> rfl
theorem shapedInts (ns : List Int) : SeqAt.shaped (.list (ns.map PyData.int)) = true := by
  show (PyData.canLayAll0 (ns.map PyData.int) && decide (PyData.depthAll (ns.map PyData.int) + 1 ≤ 64)) = true
  rw [layInts, depthInts] <;> rfl
theorem mixed1 {z a c d n : Int} (n0 : 0 < n) (nb : n < 2 ^ 32) (c0 : 0 ≤ c) (cb : c ≤ 100000) (d0 : 0 ≤ d) (db : d ≤ 100000) (a0 : 0 ≤ a) (ab : a ≤ 1000000) : (z % n + c * a + d).natAbs < 2 ^ 64 := by
  have h1 := Int.emod_nonneg z (b := n) (by omega)
  have h2 := Int.emod_lt_of_pos z n0
  have h3 : c * a ≤ 100000 * 1000000 := Int.mul_le_mul cb ab a0 (by omega)
  have h4 : 0 ≤ c * a := Int.mul_nonneg c0 a0
  omega
theorem mixed2 {x a b c d n : Int} (x0 : 0 ≤ x) (xb : x < n) (nb : n < 2 ^ 32) (b0 : 0 ≤ b) (bb : b ≤ 100000) (c0 : 0 ≤ c) (cb : c ≤ 100000) (d0 : 0 ≤ d) (db : d ≤ 100000) (a0 : 0 ≤ a) (ab : a ≤ 1000000) : (x * (2 * a + b) + c * a * a + d).natAbs < 2 ^ 64 := by
  have h1 : x * (2 * a + b) ≤ 2 ^ 32 * 2100000 := Int.mul_le_mul (by omega) (by omega) (by omega) (by omega)
  have h2 : 0 ≤ x * (2 * a + b) := Int.mul_nonneg x0 (by omega)
  have h3 : c * a ≤ 100000 * 1000000 := Int.mul_le_mul cb ab a0 (by omega)
  have h4 : 0 ≤ c * a := Int.mul_nonneg c0 a0
  have h5 : c * a * a ≤ 100000 * 1000000 * 1000000 := Int.mul_le_mul h3 ab a0 (by omega)
  have h6 : 0 ≤ c * a * a := Int.mul_nonneg h4 a0
  omega
theorem atMod {ns : List Int} (a : Int) (pos : 0 < ns.length) : ∃ z, atI (ns.map V.int) (a % (ns.length : Int)) = some (.int z) := by
  have h1 := Int.emod_nonneg a (b := (ns.length : Int)) (by omega)
  have h2 := Int.emod_lt_of_pos a (b := (ns.length : Int)) (by omega)
  generalize a % (ns.length : Int) = j at h1 h2
  have hj : j.toNat < ns.length := by omega
  refine ⟨ns[j.toNat], ?_⟩
  have e : (j.toNat : Int) = j := by omega
  have q : atI (ns.map V.int) ((j.toNat : Nat) : Int) = some (.int ns[j.toNat]) := atI_nat (by simp [hj])
  rw [e] at q
  exact q
theorem eqv_nil (ns : List Int) : PyData.eqv (.list (ns.map PyData.int)) (.list []) = ns.isEmpty := by
  cases ns with
  | nil => rfl
  | cons a t => rfl
section
variable {P : Program} {w : World} {K : PySem.W.Frag} {mg : Str → Option Value} {base : Heap}
theorem scDraw : FnScope ["_law_pen_here", "_law_many", "_law_digit", "_law_taken", "_law_cell", "_law_great", "_law_mixed"] ["_law_pen_here", "_law_many"] (defScope sDraw) := ⟨rfl, rfl, rfl, by decide +kernel, rfl, by decide +kernel, by decide +kernel⟩
theorem bLen {X : Cx} {e : Expr} {te : TE} {p pos : Pos} (hg : Gl X "len") (m : X.mg "len" = none) (he : PE X e te) (na : starEach [e] X.env = (false, eval e X.env) :: starEach [] X.env := by rfl) : PE X (.Call (.Name "len" p) [e] [] pos) (tCB (fun xs H Q => ∃ x n, xs = [x] ∧ LenV X.K x H n ∧ Q (.int n) H) (tCons te tNil)) := pe_callB call_len hg m PySem.boot_len (pa_cons he pa_nil na) (he := na)
theorem bInt {X : Cx} {e : Expr} {te : TE} {p pos : Pos} (hg : Gl X "int") (m : X.mg "int" = none) (he : PE X e te) (na : starEach [e] X.env = (false, eval e X.env) :: starEach [] X.env := by rfl) : PE X (.Call (.Name "int" p) [e] [] pos) (tCB (fun xs H Q => (∃ i, xs = [.int i] ∧ Q (.int i) H) ∨ ∃ k, xs = [.bl k] ∧ Q (.int (if k then 1 else 0)) H) (tCons te tNil)) :=
  pe_callTy call_int1 hg m (by decide +kernel) (pa_cons he pa_nil na) (he := na)
theorem bAbs {X : Cx} {e : Expr} {te : TE} {p pos : Pos} (hg : Gl X "abs") (m : X.mg "abs" = none) (he : PE X e te) (na : starEach [e] X.env = (false, eval e X.env) :: starEach [] X.env := by rfl) : PE X (.Call (.Name "abs" p) [e] [] pos) (tCB (fun xs H Q => ∃ i, xs = [.int i] ∧ Q (.int (if i < 0 then -i else i)) H) (tCons te tNil)) :=
  pe_callB call_abs hg m (by decide +kernel) (pa_cons he pa_nil na) (he := na)
theorem bIx {X : Cx} {a b : Expr} {ta tb : TE} {pos : Pos} (ha : PE X a ta) (hb : PE X b tb) (hs : PlainIx b := by intro _ _; rfl) : PE X (.Subscript a b pos) (tOp (rIxL X.K) ta tb) := pe_ix ix_list ha hb hs
theorem ok_draw {f : Addr} {fd : FuncData} (F : Fun K "_law_draw" "_law_draw" sDraw f fd) (T : Txt mg) : FnOk P w K mg base CX0 1 f fd ["_law_pen_here", "_law_many"] spDraw := by
  refine F.ok scDraw (fun vs H Q E h => ?_) (fun cdv A outer s H vs Q E hr h => ?_)
  · obtain ⟨c, p, m, n, rfl, _⟩ := h
    rfl
  · obtain ⟨c, p, m, n, rfl, m0, mb, nb, pen, k⟩ := h
    have nd := scDraw.nd
    refine ⟨_, pss_cons (ps_if (pt_cmpR op_gt (bIx (pv 0) pe_int) pe_int (nomark _))
        (pss_cons (ps_set (i := 2) nd rfl (.inl rfl) (pe_op op_mod (bInt (by rfl) T.int (bIx (pv 0) pe_int)) (pv 1)))
          (pss_cons (ps_asg (pe_op op_fdivN (bInt (by rfl) T.int (bIx (pv 0) pe_int)) (pv 1)) (pg_sub (pv 0) pe_int set_list)) (pss_one (ps_ret (pv 2))))) pss_nil)
      (pss_cons (ps_set (i := 3) nd rfl (.inl rfl) (bIx (pv 0) pe_int))
      (pss_cons (ps_asg (pe_op op_add (pv 3) pe_int) (pg_sub (pv 0) pe_int set_list))
      (pss_cons (ps_set (i := 4) nd rfl (.inl rfl) (pe_op op_add (pe_op op_mul pe_int (pv 3)) pe_int))
      (C8.pss_cut (ps_if (pt_cmpR (op_neD hr.units) (bIx (pv 0) pe_int) (pe_lst pa_nil) (nomark _))
        (pss_one (ps_set (i := 4) nd rfl (.inl rfl) (bIx (bIx (pv 0) pe_int) (pe_op op_mod (bInt (by rfl) T.int (pv 3)) (bLen (by rfl) T.len (bIx (pv 0) pe_int)))))) pss_nil)
      (C8.pss_cut (ps_if (PW.pt (pw_and (pt_cmpR op_lt (pv 3) (bLen (by rfl) T.len (bIx (pv 0) pe_int)) (nomark _)) (pw_and1 (pt_cmpR op_ge (bAbs (by rfl) T.abs (pv 4)) (pe_op op_pow pe_int pe_int) (nomark _)))))
        (pss_cons (ps_set (i := 5) nd rfl (.inl rfl) (pe_op op_add (pe_op op_mul pe_int (pe_op op_sub (bAbs (by rfl) T.abs (pv 4)) (pe_op op_pow pe_int pe_int))) (bInt (by rfl) T.int (pe_cmpR op_lt (pv 4) pe_int (nomark _)))))
          (pss_cons (ps_asg (pe_op op_fdivN (bInt (by rfl) T.int (pv 5)) (pv 1)) (pg_sub (pv 0) pe_int set_list)) (pss_one (ps_ret (pe_op op_mod (bInt (by rfl) T.int (pv 5)) (pv 1)))))) pss_nil)
      (pss_cons (ps_set (i := 6) nd rfl (.inl rfl) (pe_op op_mod (bInt (by rfl) T.int (pe_op op_pow (pe_op op_add (pe_op op_add (pe_op op_mod (bInt (by rfl) T.int (pv 4)) pe_int) (pe_op op_mul pe_int (pv 3))) pe_int) pe_int)) pe_int))
      (pss_cons (ps_set (i := 6) nd rfl (.inl rfl) (pe_op op_mod (bInt (by rfl) T.int (pe_op op_pow (pe_op op_add (pe_op op_add (pe_op op_mul (pv 6) (pe_op op_add (pe_op op_mul pe_int (pv 3)) pe_int)) (pe_op op_mul (pe_op op_mul pe_int (pv 3)) (pv 3))) pe_int) pe_int)) pe_int))
      (pss_one (ps_ret (pe_op op_mod (pe_op op_fdivN (bInt (by rfl) T.int (pv 6)) pe_int) (pv 1))))))))))), ?_⟩
    obtain ⟨ns, a, g, hp, hc, cp, hl, a0, an⟩ := pen
    have md : ∀ x : Int, 0 ≤ x % m ∧ x % m < m := fun x => ⟨Int.emod_nonneg x (by omega), Int.emod_lt_of_pos x m0⟩
    have ms : m ≠ 0 ∧ m.natAbs < 1073741824 := ⟨by omega, by omega⟩
    refine ⟨_, rfl, p, _, 2, _, rfl, rfl, SqL.of hp, rfl, g, 0, rfl, rfl, _, rfl, ite2 (fun hg => ?_) (fun hg => ?_)⟩
    · refine ⟨_, rfl, p, _, 2, _, rfl, rfl, SqL.of hp, rfl, .inl ⟨_, rfl, _, rfl, _, _, rfl, rfl, m0, ?_⟩⟩
      refine ⟨_, rfl, p, _, 2, _, rfl, rfl, SqL.of hp, rfl, .inl ⟨_, rfl, _, rfl, _, _, rfl, rfl, ms, ?_⟩⟩
      refine ⟨_, rfl, p, _, 2, 2, rfl, rfl, hp, rfl, ?_⟩
      refine ⟨_, rfl, k _ _ (md g).1 (md g).2 ⟨ns, a, _, upd_same, ?_, cp, hl, a0, by omega⟩ Ext1.put⟩
      rw [upd_ne cp]; exact hc
    refine ⟨_, rfl, p, _, 1, _, rfl, rfl, SqL.of hp, rfl, ?_⟩
    refine ⟨_, rfl, _, _, rfl, rfl, ?_⟩
    refine ⟨_, rfl, p, _, 1, 1, rfl, rfl, hp, rfl, ?_⟩
    have mul64 : ∀ {x y : Int}, -(2 ^ 64) < x → x < 2 ^ 64 → CMul x y := fun h1 h2 => Or.inl ⟨h1, h2⟩
    generalize hH1 : upd H p (HO.lst ([V.ref c, V.int a, V.int g].set 1 (V.int (a + 1)))) = H1
    have hp1 : H1 p = some (.lst [.ref c, .int (a + 1), .int g]) := by rw [← hH1]; exact upd_same
    have hc1 : H1 c = some (.lst (ns.map V.int)) := by rw [← hH1, upd_ne cp]; exact hc
    have x1 : Ext1 p H H1 := by rw [← hH1]; exact Ext1.put
    refine ⟨_, rfl, _, _, rfl, rfl, mul64 (by decide) (by decide), _, _, rfl, rfl, ?_⟩
    refine ⟨fun σ' H' => ∃ (z : Int) (q : Addr), σ' = [some (.ref p), some (.int m), none, some (.int a), some (.int z), none, none] ∧ H1 q = none ∧ H' = upd H1 q (.lst []), ?_, ?_⟩
    · refine ⟨_, rfl, p, _, 0, _, rfl, rfl, SqL.of hp1, rfl, Nat.zero_le _, fun q hq => ?_⟩
      have cq : c ≠ q := ne_of_none hc1 hq
      have pq : p ≠ q := ne_of_none hp1 hq
      have hc2 : (upd H1 q (.lst [])) c = some (.lst (ns.map V.int)) := by rw [upd_ne cq]; exact hc1
      have hp2 : (upd H1 q (.lst [])) p = some (.lst [.ref c, .int (a + 1), .int g]) := by rw [upd_ne pq]; exact hp1
      refine ⟨.list (ns.map PyData.int), .list [], .lst (SqL.of hc2) (dpInts _ _ ns), .lst (SqL.of upd_same) .nil, shapedInts ns, rfl, _, rfl, ?_⟩
      rw [eqv_nil]
      refine ite2 (fun hne => ?_) (fun _ => ⟨_, q, rfl, hq, rfl⟩)
      have pos : 0 < ns.length := by
        cases ns with
        | nil => exact absurd hne (by decide)
        | cons _ _ => exact Nat.succ_pos _
      obtain ⟨z, hz⟩ := atMod a pos
      refine ⟨_, rfl, p, _, 0, _, rfl, rfl, SqL.of hp2, rfl, _, rfl, .inl ⟨_, rfl, _, rfl, p, _, 0, _, rfl, rfl, SqL.of hp2, rfl, _, _, rfl, .inl ⟨_, SqL.of hc2, rfl⟩, ?_⟩⟩
      refine ⟨_, _, rfl, rfl, by rw [List.length_map]; omega, c, _, _, .int z, rfl, rfl, SqL.of hc2, ?_, z, q, rfl, hq, rfl⟩
      rw [List.length_map]; exact hz
    rintro σ2 H2 ⟨z, q, rfl, hq, rfl⟩
    have cq : c ≠ q := ne_of_none hc1 hq
    have pq : p ≠ q := ne_of_none hp1 hq
    have hc2 : (upd H1 q (.lst [])) c = some (.lst (ns.map V.int)) := by rw [upd_ne cq]; exact hc1
    have hp2 : (upd H1 q (.lst [])) p = some (.lst [.ref c, .int (a + 1), .int g]) := by rw [upd_ne pq]; exact hp1
    have x2 : Ext1 p H (upd H1 q (.lst [])) := x1.trans (Ext1.new hq)
    generalize upd H1 q (.lst []) = H2 at hc2 hp2 x2 ⊢
    have done : ∀ r, 0 ≤ r → r < m → Q (.int r) H2 := fun r r0 r1 => k r H2 r0 r1 ⟨ns, a + 1, g, hp2, hc2, cp, hl, by omega, by omega⟩ x2
    have fin : ∀ y : Int, Q (.int (y % m)) H2 := fun y => done _ (md y).1 (md y).2
    have a1 : a ≤ 1000000 := by omega
    refine ⟨fun σ' H' => σ' = [some (.ref p), some (.int m), none, some (.int a), some (.int z), none, none] ∧ H' = H2, ?_, ?_⟩
    · refine ⟨_, rfl, _, rfl, p, _, 0, _, rfl, rfl, SqL.of hp2, rfl, _, _, rfl, .inl ⟨_, SqL.of hc2, rfl⟩, _, _, rfl, rfl, _, rfl, ite2 (fun _ => ?_) (fun _ => iteF ⟨rfl, rfl⟩)⟩
      refine ⟨_, rfl, z, rfl, _, _, rfl, rfl, ⟨by decide, by decide, by decide⟩, _, _, rfl, rfl, _, rfl, ite2 (fun _ => ?_) (fun _ => ⟨rfl, rfl⟩)⟩
      refine ⟨_, rfl, z, rfl, _, _, rfl, rfl, ⟨by decide, by decide, by decide⟩, _, _, rfl, rfl, _, _, rfl, rfl, mul64 (by decide) (by decide), _, rfl, _, _, rfl, rfl, .inr ⟨_, rfl, _, _, rfl, rfl, ?_⟩⟩
      refine ⟨_, rfl, .inl ⟨_, rfl, _, rfl, _, _, rfl, rfl, ms, _, rfl, p, _, 2, 2, rfl, rfl, hp2, rfl, ?_⟩⟩
      refine ⟨_, rfl, .inl ⟨_, rfl, _, rfl, _, _, rfl, rfl, m0, ?_⟩⟩
      refine k _ _ (md _).1 (md _).2 ⟨ns, a + 1, _, upd_same, ?_, cp, hl, by omega, by omega⟩ (x2.trans Ext1.put)
      rw [upd_ne cp]; exact hc2
    rintro σ3 H3 ⟨rfl, rfl⟩
    refine ⟨_, rfl, .inl ⟨_, rfl, _, _, rfl, rfl, (show (0 : Int) < 2147483629 by decide), _, rfl, _, _, rfl, rfl, mul64 (by decide) (by decide), _, _, rfl, rfl, _, _, rfl, rfl, _, _, rfl, rfl, ⟨by decide, by decide, mixed1 (by decide) (by decide) (by decide) (by decide) (by decide) (by decide) a0 a1⟩, .inl ⟨_, rfl, _, _, rfl, rfl, (show (0 : Int) < 2147483587 by decide), ?_⟩⟩⟩
    have xx : ∀ y : Int, 0 ≤ y % 2147483587 ∧ y % 2147483587 < 2147483587 := fun y => ⟨Int.emod_nonneg _ (by decide), Int.emod_lt_of_pos _ (by decide)⟩
    refine ⟨_, rfl, _, rfl, _, _, rfl, rfl, mul64 (by decide) (by decide), _, _, rfl, rfl, _, _, rfl, rfl, mul64 (Int.lt_of_lt_of_le (by decide) (xx _).1) (Int.lt_trans (xx _).2 (by decide)), _, rfl, _, _, rfl, rfl, mul64 (by decide) (by decide), _, rfl, _, _, rfl, rfl, Or.inr ⟨by omega, by omega⟩, _, _, rfl, rfl, _, _, rfl, rfl, _, _, rfl, rfl,
      ⟨by decide, by decide, mixed2 (xx _).1 (xx _).2 (by decide) (by decide) (by decide) (by decide) (by decide) (by decide) (by decide) a0 a1⟩, .inl ⟨_, rfl, _, _, rfl, rfl, (show (0 : Int) < 2147483647 by decide), ?_⟩⟩
    exact ⟨_, rfl, .inl ⟨_, rfl, _, _, rfl, rfl, ⟨by decide, by decide⟩, _, rfl, _, _, rfl, rfl, m0, fin _⟩⟩
end
end Kx


set_option Elab.async false
set_option maxRecDepth 100000
set_option autoImplicit false
namespace Kx
open PySem L2 PySem.Spec PyProof.Rows Rg Er
def abc : Str := "abcdefghijklmnopqrstuvwxyz"
theorem len_small {z : Str} (h : z.length ≤ 1000) : z.length ≤ sizeLine := Nat.le_trans h (by decide)
theorem bIsi {X : Cx} {e c : Expr} {te tc : TE} {p pos : Pos} (hg : Gl X "isinstance") (m : X.mg "isinstance" = none) (he : PE X e te) (hc : PE X c tc) (na : starEach [e, c] X.env = (false, eval e X.env) :: starEach [c] X.env := by rfl)
    (nb : starEach [c] X.env = (false, eval c X.env) :: starEach [] X.env := by rfl) (hpl : (backTo pos (starEach [c] X.env)).any (·.1) = false := by rfl) : PE X (.Call (.Name "isinstance" p) [e, c] [] pos) (tCB (rIsi X.K) (tCons te (tCons tc tNil))) :=
  pe_callB call_isi hg m boot_isinstance (pa_cons he (pa_cons hc pa_nil nb) na) (he := na) (hpl := hpl)
/-- a list or a tuple -/
def Sq (H : Hp) (a : Addr) (xs : List V) : Prop := H a = some (.lst xs) ∨ H a = some (.tup xs)
theorem Sq.same {H H' : Hp} {a : Addr} {xs : List V} (h : Sq H a xs) (e : Same H H') : Sq H' a xs := h.elim (fun q => .inl (e _ _ q)) fun q => .inr (e _ _ q)
theorem Sq.len {K : PySem.W.Frag} {H : Hp} {a : Addr} {xs : List V} (h : Sq H a xs) : LenV K (.ref a) H xs.length := h.elim (fun q => .inl ⟨_, SqL.of q, rfl⟩) fun q => .inr ⟨_, SqT.of q, rfl⟩
theorem Same.new {H : Hp} {q : Addr} {o : HO} (h : H q = none) : Same H (upd H q o) := fun b u e => by rw [upd_ne (ne_of_none e h)]; exact e
theorem Same.putNew {H H' : Hp} {q : Addr} {o : HO} (h : H q = none) (e : Same H H') : Same H (upd H' q o) := fun b u z => by rw [upd_ne (ne_of_none z h)]; exact e _ _ z
theorem PI_or {X : Cx} {tg iter : Expr} {w1 w2 : TI} (h1 : PI X tg iter w1) (h2 : PI X tg iter w2) : PI X tg iter (fun σ H R => w1 σ H R ∨ w2 σ H R) := ⟨fun pins s σ H R I h => h.elim (h1.run pins s σ H R I) (h2.run pins s σ H R I)⟩
theorem wipe1 (σ : L2.St) (v : Nat) (x : V) : wipe ((wipe σ [v]).set v (some x)) [v] = wipe σ [v] := by
  show ((σ.set v none).set v (some x)).set v none = σ.set v none
  rw [List.set_set, List.set_set]
/-- a comprehension whose elements are told by the turn, over a heap that only grows -/
theorem lcMap {J : It} {n : Nat} {G : Hp → Prop} {Y : Nat → Hp → V → Hp → Prop} (w : Walk J n G Y) {v : Nat} {te : TE} {σ : L2.St} {H1 : Hp} {D : Addr} {Qd : Hp → Prop} (f : Nat → V) (hn : n < sizeLine) (hD : H1 D = none) (hG : ∀ H', Same H1 H' → G H')
    (hY : ∀ i H' x H2, Y i H' x H2 → H2 = H')
    (el : ∀ i x H' (Q : VK), i < n → Same H1 H' → Y i H' x H' → (∀ H4, Same H' H4 → Q (f i) H4) → te ((wipe σ [v]).set v (some x)) H' Q)
    (hd : ∀ H', Same H1 H' → H' D = some (.lst ((List.range n).map f)) → Qd H') :
    ∃ W : Nat → Nat → Hp → Prop, (∃ m, W 0 m (upd H1 D (.lst []))) ∧ ∀ i m H, W i m H →
      (J.stop i H ∧ Qd H) ∨ (J.go i H ∧ ∃ Nx : Hp → Prop, (∀ H', Nx H' → ∃ m', m' < m ∧ W (i + 1) m' H') ∧ ∀ x H', J.yld i H x H' → gName v x (wipe σ [v]) H' fun σ2 H2 => wipe σ2 [v] = wipe σ [v] ∧ tYes σ2 H2 fun b H3 =>
        if b = true then te σ2 H3 fun y H4 => ∃ acc, H4 D = some (.lst acc) ∧ acc.length < sizeLine ∧ Nx (upd H4 D (.lst (acc ++ [y]))) else Nx H3) := by
  refine lc_it w (fun i H' => Same H1 H' ∧ H' D = some (.lst ((List.range i).map f))) ⟨Same.new hD, upd_same⟩ (fun i H' _ q => hG H' q.1) ?_ fun H' q => hd H' q.1 q.2
  rintro i x H' H2 hi ⟨s1, hl⟩ y
  obtain rfl := hY _ _ _ _ y
  refine ⟨wipe1 σ v x, ?_⟩
  unfold tYes
  dsimp only
  rw [if_pos rfl]
  refine el i x H2 _ hi s1 y fun H4 s4 => ⟨_, s4 _ _ hl, ?_, Same.putNew hD (s1.trans s4), ?_⟩
  · rw [List.length_map, List.length_range]; omega
  rw [upd_same, List.range_succ, List.map_append]
  rfl
theorem range_const {n : Nat} {x : V} : (List.range n).map (fun _ => x) = List.replicate n x := by
  rw [List.map_const', List.length_range]
/-- a comprehension over any walk, by an invariant of turn, heap and what is made so far -/
theorem lcGen {J : It} {n : Nat} {G : Hp → Prop} {Y : Nat → Hp → V → Hp → Prop} (w : Walk J n G Y) {v : Nat} {te : TE} {σ : L2.St} {H1 : Hp} {D : Addr} {Qd : Hp → Prop} (Iv : Nat → Hp → List V → Prop) (hn : n < sizeLine)
    (h0 : Iv 0 (upd H1 D (.lst [])) []) (hG : ∀ i H' acc, i ≤ n → Iv i H' acc → G H') (hY : ∀ i H' x H2, Y i H' x H2 → H2 = H')
    (el : ∀ i x H' acc (Q : VK), i < n → H' D = some (.lst acc) → acc.length = i → Iv i H' acc → Y i H' x H' → (∀ y H4, H4 D = some (.lst acc) → Iv (i + 1) (upd H4 D (.lst (acc ++ [y]))) (acc ++ [y]) → Q y H4) → te ((wipe σ [v]).set v (some x)) H' Q)
    (hd : ∀ H' acc, H' D = some (.lst acc) → acc.length = n → Iv n H' acc → Qd H') :
    ∃ W : Nat → Nat → Hp → Prop, (∃ m, W 0 m (upd H1 D (.lst []))) ∧ ∀ i m H, W i m H →
      (J.stop i H ∧ Qd H) ∨ (J.go i H ∧ ∃ Nx : Hp → Prop, (∀ H', Nx H' → ∃ m', m' < m ∧ W (i + 1) m' H') ∧ ∀ x H', J.yld i H x H' → gName v x (wipe σ [v]) H' fun σ2 H2 => wipe σ2 [v] = wipe σ [v] ∧ tYes σ2 H2 fun b H3 =>
        if b = true then te σ2 H3 fun y H4 => ∃ acc, H4 D = some (.lst acc) ∧ acc.length < sizeLine ∧ Nx (upd H4 D (.lst (acc ++ [y]))) else Nx H3) := by
  refine lc_it w (fun i H' => ∃ acc, H' D = some (.lst acc) ∧ acc.length = i ∧ Iv i H' acc) ⟨[], upd_same, rfl, h0⟩ (fun i H' hi ⟨acc, _, _, q⟩ => hG i H' acc hi q) ?_ fun H' ⟨acc, q1, q2, q3⟩ => hd H' acc q1 q2 q3
  rintro i x H' H2 hi ⟨acc, ha, hl, iv⟩ y
  obtain rfl := hY _ _ _ _ y
  refine ⟨wipe1 σ v x, ?_⟩
  unfold tYes
  dsimp only
  rw [if_pos rfl]
  refine el i x H2 acc _ hi ha hl iv y fun y H4 h4 i4 => ⟨acc, h4, by omega, _, upd_same, ?_, i4⟩
  rw [List.length_append, hl]
  rfl
theorem Same.ext1 {H H' : Hp} (p : Addr) (e : Same H H') : Ext1 p H H' := fun b o _ q => e b o q
/-! the pen -/
def Ink (c p : Addr) (n : Nat) (H H' : Hp) : Prop := Ext1 p H H' ∧ PenAt c n H' p
theorem PenAt.ne1 {c p q : Addr} {n : Nat} {H : Hp} (h : PenAt c n H p) (e : H q = none) : q ≠ p := by
  rintro rfl
  obtain ⟨ns, a, g, h1, _⟩ := h
  rw [h1] at e; cases e
theorem PenAt.ne2 {c p q : Addr} {n : Nat} {H : Hp} (h : PenAt c n H p) (e : H q = none) : q ≠ c := by
  rintro rfl
  obtain ⟨ns, a, g, _, h2, _⟩ := h
  rw [h2] at e; cases e
theorem PenAt.put {c p q : Addr} {n : Nat} {H : Hp} {o : HO} (h : PenAt c n H p) (n1 : q ≠ p) (n2 : q ≠ c) : PenAt c n (upd H q o) p := by
  obtain ⟨ns, a, g, h1, h2, h3⟩ := h
  exact ⟨ns, a, g, by rw [upd_ne n1.symm]; exact h1, by rw [upd_ne n2.symm]; exact h2, h3⟩
theorem Ink.start {c p : Addr} {n : Nat} {H : Hp} (h : PenAt c n H p) : Ink c p n H H := ⟨Ext1.refl p H, h⟩
theorem Ink.trans {c p : Addr} {n m : Nat} {H H1 H2 : Hp} (a : Ink c p n H H1) (b : Ink c p m H1 H2) : Ink c p m H H2 := ⟨Ext1.trans a.1 b.1, b.2⟩
theorem Ink.same {c p : Addr} {n : Nat} {H H1 H2 : Hp} (a : Ink c p n H H1) (b : Same H1 H2) : Ink c p n H H2 := ⟨Ext1.trans a.1 (Same.ext1 p b), a.2.ext b⟩
theorem Ink.new {c p q : Addr} {n : Nat} {H H1 : Hp} {o : HO} (a : Ink c p n H H1) (e : H1 q = none) : Ink c p n H (upd H1 q o) := a.same (Same.new e)
theorem Ink.mono {c p : Addr} {n m : Nat} {H H1 : Hp} (a : Ink c p n H H1) (l : n ≤ m) : Ink c p m H H1 := ⟨a.1, a.2.mono l⟩
/-- what is new to H may change: H grows all the same -/
theorem Ext1.putNew {p q : Addr} {H H1 : Hp} {o : HO} (a : Ext1 p H H1) (e : H q = none) : Ext1 p H (upd H1 q o) := fun b u n z => by rw [upd_ne (ne_of_none z e)]; exact a b u n z
theorem Ink.putNew {c p q : Addr} {n k : Nat} {H H1 : Hp} {o : HO} (a : Ink c p n H H1) (s : PenAt c k H p) (e : H q = none) : Ink c p n H (upd H1 q o) := ⟨a.1.putNew e, a.2.put (s.ne1 e) (s.ne2 e)⟩
def spPen (K : PySem.W.Frag) : Sp := fun vs H Q _ => ∃ (a : Addr) (ns : List Int), vs = [.ref a] ∧ SqL K H a (ns.map V.int) ∧ ns.length ≤ 63 ∧ ∀ c p H', Same H H' → PenAt c 0 H' p → Q (.ref p) H'
theorem bList {X : Cx} {e : Expr} {te : TE} {p pos : Pos} (hg : Gl X "list") (m : X.mg "list" = none) (he : PE X e te) (na : starEach [e] X.env = (false, eval e X.env) :: starEach [] X.env := by rfl) :
    PE X (.Call (.Name "list" p) [e] [] pos) (tCB (fun xs H Q => ∃ p ys, xs = [.ref p] ∧ (SqL X.K H p ys ∨ SqT X.K H p ys) ∧ ∀ l, H l = none → Q (.ref l) (upd H l (.lst ys))) (tCons te tNil)) :=
  pe_callTy call_list_of hg m (by decide +kernel) (pa_cons he pa_nil na) (he := na)
section
variable {P : Program} {w : World} {K : PySem.W.Frag} {mg : Str → Option Value} {base : Heap}
theorem scPen : FnScope ["_law_script"] ["_law_script"] (defScope sPen) := ⟨rfl, rfl, rfl, by decide +kernel, rfl, by decide +kernel, by decide +kernel⟩
theorem ok_pen {f : Addr} {fd : FuncData} (F : Fun K "_law_pen" "_law_pen" sPen f fd) (T : Txt mg) : FnOk P w K mg base CX0 1 f fd ["_law_script"] (spPen K) := by
  refine F.ok scPen (fun vs H Q E h => ?_) (fun cdv A outer s H vs Q E hr h => ?_)
  · obtain ⟨a, ns, rfl, _⟩ := h
    rfl
  · obtain ⟨a, ns, rfl, hs, hl, k⟩ := h
    refine ⟨_, pss_one (ps_ret (pe_lst (pa_cons (bList (by rfl) T.list (pe_slice sl_list (pv 0) po_none (po_some pe_int))) (pa_cons pe_int (pa_cons pe_int pa_nil))))), ?_⟩
    refine ⟨_, rfl, _, rfl, a, _, rfl, hs, fun q hq => ?_⟩
    have e : cutV (ns.map V.int) none (some 63) = ns.map V.int := by
      unfold cutV
      rw [show HT.sIx (ns.map V.int).length 0 none = 0 from rfl, show HT.sIx (ns.map V.int).length (ns.map V.int).length (some 63) = min 63 (ns.map V.int).length from HT.sIx_nat _ _ 63, List.drop_zero, Nat.sub_zero]
      exact List.take_of_length_le (by rw [List.length_map]; omega)
    rw [e]
    refine ⟨q, _, rfl, .inl (SqL.of upd_same), fun c hc => ⟨by show 3 ≤ sizeLine; decide, fun p hp => ?_⟩⟩
    have cp : c ≠ p := by rintro rfl; rw [upd_same] at hp; cases hp
    refine k c p _ ?_ ⟨ns, 0, 0, upd_same, by rw [upd_ne cp, upd_same], cp, hl, by decide, by decide⟩
    exact Same.trans (Same.new hq) (Same.trans (Same.new hc) (Same.new hp))
end
theorem ix_or {X : Cx} {r1 r2 : R2} (h1 : IxR X r1) (h2 : IxR X r2) : IxR X (fun x y H Q => r1 x y H Q ∨ r2 x y H Q) := fun a b pins s σ H x y v u Q I rx ry h hs => h.elim (fun h => h1 a b pins s σ H x y v u Q I rx ry h hs) (fun h => h2 a b pins s σ H x y v u Q I rx ry h hs)
def spPick : Sp := fun vs H Q _ => ∃ (c p : Addr) (n : Nat), n ≤ 1000000 ∧ PenAt c n H p ∧
  ((∃ a xs, vs = [.ref p, .ref a] ∧ a ≠ p ∧ H a = some (.lst xs) ∧ 0 < xs.length ∧ xs.length ≤ 1000 ∧ ∀ v H', v ∈ xs → PenAt c (n + 1) H' p → Ext1 p H H' → Q v H') ∨
  (∃ z : Str, vs = [.ref p, .str z] ∧ 0 < z.length ∧ z.length ≤ 1000 ∧ ∀ d H', d ∈ z.cps.toList → PenAt c (n + 1) H' p → Ext1 p H H' → Q (.str ⟨#[d]⟩) H'))
theorem atI_int {α : Type} {xs : List α} {s : Int} {v : α} (s0 : 0 ≤ s) (h : xs[s.toNat]? = some v) : atI xs s = some v := by
  have e : ((s.toNat : Nat) : Int) = s := by omega
  have q := atI_nat h
  rw [e] at q
  exact q
theorem atI_some {α : Type} {xs : List α} {i : Int} (i0 : 0 ≤ i) (i1 : i < xs.length) : ∃ v, v ∈ xs ∧ atI xs i = some v := by
  have h : i.toNat < xs.length := by omega
  exact ⟨xs[i.toNat], List.getElem_mem h, atI_int i0 (List.getElem?_eq_getElem h)⟩
section
variable {P : Program} {w : World} {K : PySem.W.Frag} {mg : Str → Option Value} {base : Heap}
theorem scPick : FnScope ["_law_pen_here", "_law_things"] ["_law_pen_here", "_law_things"] (defScope sPick) := ⟨rfl, rfl, rfl, by decide +kernel, rfl, by decide +kernel, by decide +kernel⟩
theorem ok_pick {f f1 : Addr} {fd fd1 : FuncData} (F : Fun K "_law_pick" "_law_pick" sPick f fd) (T : Txt mg) (G : FnOk P w K mg base CX0 1 f1 fd1 ["_law_pen_here", "_law_many"] spDraw) (m1 : mg "_law_draw" = some (.ref f1)) (k1 : PySem.W.keepIn K (.ref f1) = true)
    (b1 : Binds K fd1 ["_law_pen_here", "_law_many"] []) : FnOk P w K mg base CX0 2 f fd ["_law_pen_here", "_law_things"] spPick := by
  refine F.ok scPick (fun vs H Q E h => ?_) (fun cdv A outer s H vs Q E hr h => ?_)
  · obtain ⟨c, p, n, _, _, ⟨a, xs, rfl, _⟩ | ⟨z, rfl, _⟩⟩ := h <;> rfl
  · obtain ⟨c, p, n, nb, pen, h⟩ := h
    refine ⟨_, pss_one (ps_ret (pe_ix (ix_or ix_list ix_str) (pv 1) (pe_call G hr (by rfl) m1 k1 b1 .nil pass0 (pa_cons (pv 0) (pa_cons (bLen (by rfl) T.len (pv 1)) pa_nil))) (fun _ _ => rfl))), ?_⟩
    rcases h with ⟨a, xs, rfl, ap, ha, l0, l1, k⟩ | ⟨z, rfl, l0, l1, k⟩
    · refine ⟨_, rfl, _, rfl, _, rfl, _, _, rfl, Sq.len (.inl ha), c, p, _, n, rfl, by omega, by omega, nb, pen, fun r H' r0 r1 pen' x => ?_⟩
      obtain ⟨v, hv, e⟩ := atI_some r0 r1
      exact .inl ⟨a, xs, r, v, rfl, rfl, SqL.of (x _ _ ap ha), e, k v H' hv pen' x⟩
    · refine ⟨_, rfl, _, rfl, _, rfl, _, z.length, rfl, ⟨len_small l1, rfl⟩, c, p, _, n, rfl, by omega, by omega, nb, pen, fun r H' r0 r1 pen' x => ?_⟩
      obtain ⟨v, hv, e⟩ := atI_some (xs := z.cps.toList) r0 (by rw [Array.length_toList]; exact r1)
      exact .inr ⟨z, r, v, rfl, rfl, len_small l1, e, k v H' hv pen' x⟩
end
theorem joinL_one : ∀ cs : List Nat, TL.joinL [] (cs.map fun d => [d]) = cs
  | [] => rfl
  | [_] => rfl
  | a :: b :: r => by
    have e := joinL_one (b :: r)
    show [a] ++ ([] ++ TL.joinL [] ((b :: r).map fun d => [d])) = a :: b :: r
    rw [e]
    rfl
theorem join_one (cs : List Nat) : Txt.join ("" : Str) (cs.map fun d => (⟨#[d]⟩ : Str)) = ⟨cs.toArray⟩ := by
  have e := SX.join_S [] (cs.map fun d => [d])
  rw [joinL_one, List.map_map] at e
  exact e
theorem sum_one : ∀ cs : List Nat, ((cs.map fun d => (⟨#[d]⟩ : Str)).map (·.length)).sum = cs.length
  | [] => rfl
  | a :: r => by
    rw [List.map_cons, List.map_cons, List.sum_cons, sum_one r, List.length_cons]
    show 1 + r.length = _
    omega
theorem kbMk {K : PySem.W.Frag} {x qual : Str} {st : Stmt} {f : Addr} {fd : FuncData} {ps ks : List Str} {n : Nat} {g : List Value → List Value → List Value} {gV : List V → List V → List V} (F : L2.Fun K x qual st f fd)
    (h : ∀ (kV doc pm : Value) (an : Option Addr) (cdv ct : Value) (us ws : List Value), us.length = n → ws.length = ks.length → bindArgs (PySem.W.fnOf x qual (defArgs st) (defBody st) (defScope st) .none kV doc pm an cdv ct) ⟨us, ks.zip ws⟩ = pure (ps.zip (g us ws)))
    (rel : ∀ {vs : List V} {us : List Value} {zs : List V} {ws : List Value}, Vals vs us → Vals zs ws → Vals (gV vs zs) (g us ws)) : KBn K fd ps n ks g gV := by
  obtain ⟨oc, od, kV, doc, pm, an, cdv, ct, osl, rfl, lk, hcd⟩ := F.ex
  exact ⟨fun s us ws _ l1 l2 => .of_eq (h kV doc pm an cdv ct us ws l1 l2), rel⟩
theorem vapp {vs : List V} {us : List Value} {zs : List V} {ws : List Value} (a : Vals vs us) (b : Vals zs ws) : Vals (vs ++ zs) (us ++ ws) := by
  induction a with
  | nil => exact b
  | cons r _ ih => exact .cons r ih
theorem vrev {vs : List V} {us : List Value} (a : Vals vs us) : Vals vs.reverse us.reverse := by
  induction a with
  | nil => exact .nil
  | cons r _ ih => rw [List.reverse_cons, List.reverse_cons]; exact vapp ih (.cons r .nil)
structure Tame (d : PyData) (h w : Nat) : Prop where
  sh : d.showable = true
  hd : d.hasDict = false
  dp : d.depth ≤ h
  ls : d.leavesShort 13 = true
  wt : d.weight ≤ w
structure Tames (ds : List PyData) (h w : Nat) : Prop where
  sh : PyData.showableAll ds = true
  hd : PyData.hasDictAll ds = false
  dp : PyData.depthAll ds ≤ h
  ls : PyData.leavesShortAll 13 ds = true
  wt : PyData.weightAll ds ≤ w
theorem Tames.nil {h w : Nat} : Tames [] h w := ⟨rfl, rfl, Nat.zero_le _, rfl, Nat.zero_le _⟩
theorem Tames.cons {d : PyData} {ds : List PyData} {h w1 w2 w : Nat} (a : Tame d h w1) (b : Tames ds h w2) (e : w1 + 1 + w2 ≤ w) : Tames (d :: ds) h w := by
  refine ⟨?_, ?_, ?_, ?_, ?_⟩
  · simp only [PyData.showableAll, a.sh, b.sh, Bool.and_self]
  · simp only [PyData.hasDictAll, a.hd, b.hd, Bool.or_self]
  · simp only [PyData.depthAll]; exact Nat.max_le.mpr ⟨a.dp, b.dp⟩
  · simp only [PyData.leavesShortAll, a.ls, b.ls, Bool.and_self]
  · simp only [PyData.weightAll]
    have := a.wt
    have := b.wt
    omega
theorem Tames.all {h w : Nat} : ∀ {ds : List PyData} {W : Nat}, (∀ d ∈ ds, Tame d h w) → ds.length * (w + 1) ≤ W → Tames ds h W
  | [], _, _, _ => .nil
  | d :: r, W, t, e => by
    rw [List.length_cons, Nat.succ_mul] at e
    exact Tames.cons (t d List.mem_cons_self) (Tames.all (fun x hx => t x (List.mem_cons_of_mem _ hx)) (Nat.le_refl _)) (by omega)
theorem Tame.list {ds : List PyData} {h w : Nat} (a : Tames ds h w) : Tame (.list ds) (h + 1) w := ⟨by simp only [PyData.showable, a.sh], by simp only [PyData.hasDict, a.hd], by simp only [PyData.depth]; have := a.dp; omega, by simp only [PyData.leavesShort, a.ls], by simp only [PyData.weight]; exact a.wt⟩
theorem Tame.tup {ds : List PyData} {h w : Nat} (a : Tames ds h w) : Tame (.tuple ds) (h + 1) w := ⟨by simp only [PyData.showable, a.sh], by simp only [PyData.hasDict, a.hd], by simp only [PyData.depth]; have := a.dp; omega, by simp only [PyData.leavesShort, a.ls], by simp only [PyData.weight]; exact a.wt⟩
theorem Tame.mono {d : PyData} {h w h' w' : Nat} (a : Tame d h w) (e1 : h ≤ h') (e2 : w ≤ w') : Tame d h' w' := ⟨a.sh, a.hd, Nat.le_trans a.dp e1, a.ls, Nat.le_trans a.wt e2⟩
theorem Tame.bool (b : Bool) {h w : Nat} : Tame (.bool b) h w := ⟨by simp only [PyData.showable], by simp only [PyData.hasDict], by simp only [PyData.depth]; exact Nat.zero_le _, by simp only [PyData.leavesShort], by simp only [PyData.weight]; exact Nat.zero_le _⟩
theorem Tame.int {i : Int} {h w : Nat} (i0 : 0 ≤ i) (i1 : i < 1000) (e : 10 ≤ w) : Tame (.int i) h w := by
  have l : i.natAbs.log2 < 10 := by
    by_cases z : i.natAbs = 0
    · rw [z]; decide
    · exact (Nat.log2_lt z).mpr (by omega)
  refine ⟨?_, by simp only [PyData.hasDict], by simp only [PyData.depth]; exact Nat.zero_le _, ?_, ?_⟩
  · simp only [PyData.showable, decide_eq_true_eq]; omega
  · simp only [PyData.leavesShort, decide_eq_true_eq]; exact PyData.shown_int_le (by omega)
  · simp only [PyData.weight]
    split <;> omega
theorem Tame.fits {d : PyData} {h w : Nat} (a : Tame d h w) (e : w ≤ 1048576) : d.shown.length ≤ sizeLine := PyData.shown_fits (B := 13) (by decide) (by decide) a.ls (Nat.le_trans a.wt e)
theorem rRepr_of {K : PySem.W.Frag} {H : Hp} {a : Addr} {d : PyData} {h w : Nat} {Q : VK} (r : Rp K H (.ref a) d) (t : Tame d h w) (e1 : h ≤ 20) (e2 : w ≤ 1048576) (k : Q (.str d.shown) H) : rRepr K [.ref a] H Q := ⟨a, d, rfl, r, t.sh, t.hd, Nat.le_trans t.dp e1, t.fits e2, k⟩
theorem neSame (x : V) : (!decide (x = x)) = false := by rw [decide_eq_true rfl]; rfl
theorem eqSame (x : V) : decide (x = x) = true := decide_eq_true rfl
/-- a class of errors with one field, as a raise wants it -/
structure ErrB (P : Program) (w : World) (K : PySem.W.Frag) (mg : Str → Option Value) (base : Heap) (x f : Str) (C : Addr) : Prop where
  O : OexC K C
  mgC : mg x = some (.ref C)
  init : ∃ fi fd ps, PySem.W.findIn K (.ref C) "__init__" = some (some (.ref fi)) ∧ PySem.W.typeIn K (.ref fi) = some (.type "function") ∧ FnOk P w K mg base CX0 1 fi fd ps (spErr1 C f) ∧ Binds K fd ps []
def raised (C : Addr) (f : Str) (v : V) (E : XK) (H : Hp) : Prop := ∀ d, H d = none → E (.ref C) (some d) (upd H d (.xd [(f, v)]))
end Kx
set_option Elab.async false
set_option maxRecDepth 100000
set_option autoImplicit false
/-! the texts of rules, as lists of signs -/
namespace Kx
open PySem L2 PySem.Spec PyProof.Rows Rg SX
def isL (c : Nat) : Bool := decide (c ∈ abc.cps.toList)
/-- a stretch of letters -/
def lets (lo : Nat) (z : Str) : Bool := decide (lo ≤ z.length) && decide (z.length ≤ 4) && z.cps.toList.all isL
theorem takeWhile_lt (p : Nat → Bool) : ∀ l : List Nat, l.all p = false → (l.takeWhile p).length < l.length ∧ ∃ c r, l.drop (l.takeWhile p).length = c :: r ∧ p c = false
  | [], h => by simp at h
  | c :: r, h => by
    by_cases q : p c = true
    · have h2 : r.all p = false := by simpa [q] using h
      obtain ⟨a, b⟩ := takeWhile_lt p r h2
      rw [List.takeWhile_cons, q, if_pos rfl]
      exact ⟨by simpa using a, by simpa using b⟩
    · have q2 : p c = false := by simpa using q
      rw [List.takeWhile_cons, q2, if_neg (by simp)]
      exact ⟨by simp, c, r, rfl, q2⟩
theorem takeWhile_all (p : Nat → Bool) : ∀ l : List Nat, l.all p = true → l.takeWhile p = l
  | [], _ => rfl
  | c :: r, h => by
    have q : p c = true := by simp at h; exact h.1
    have h2 : r.all p = true := by simp at h ⊢; exact h.2
    rw [List.takeWhile_cons, q, if_pos rfl, takeWhile_all p r h2]
theorem isL_eq : abc.cps.contains = isL := by
  funext c
  unfold isL
  rw [← Array.contains_toList]
  simp [List.contains_iff_mem]
theorem strip_all (z : Str) (h : z.cps.toList.all isL = true) : Txt.stripChars z abc = Str.empty := by
  obtain ⟨⟨L⟩⟩ := z
  show Txt.stripBy abc.cps.contains true true ⟨⟨L⟩⟩ = Str.empty
  rw [isL_eq]
  have hl : L.takeWhile isL = L := takeWhile_all _ _ h
  unfold Txt.stripBy stripSame stripped stripLo stripHi
  simp only [if_true, hl]
  by_cases q : L = []
  · subst q; rfl
  · have e : (L.length == 0) = false := by
      cases L with
      | nil => exact absurd rfl q
      | cons a r => rfl
    rw [e, Bool.false_and, if_neg (by simp)]
    show (⟨(⟨L⟩ : Array Nat).extract L.length _⟩ : Str) = Str.empty
    have : (⟨L⟩ : Array Nat).extract L.length ((⟨⟨L⟩⟩ : Str).length - (List.takeWhile isL (List.drop L.length L).reverse).length) = #[] := by
      simp [Str.length]
    rw [this]; rfl
theorem strip_some (z : Str) (h : z.cps.toList.all isL = false) : Txt.stripChars z abc ≠ Str.empty := by
  obtain ⟨⟨L⟩⟩ := z
  show Txt.stripBy abc.cps.contains true true ⟨⟨L⟩⟩ ≠ Str.empty
  rw [isL_eq]
  obtain ⟨h1, c, r, h2, h3⟩ := takeWhile_lt isL L h
  have h4 : ((L.drop (L.takeWhile isL).length).reverse.takeWhile isL).length < (L.drop (L.takeWhile isL).length).length := by
    have := (takeWhile_lt isL (L.drop (L.takeWhile isL).length).reverse (by rw [h2]; simp [h3])).1
    rw [List.length_reverse] at this
    exact this
  rw [List.length_drop] at h4
  unfold Txt.stripBy stripSame stripped stripLo stripHi
  simp only [if_true]
  have len : (⟨⟨L⟩⟩ : Str).length = L.length := rfl
  intro z
  split at z
  · have := congrArg Str.length z
    rw [len] at this
    have e0 : Str.empty.length = 0 := rfl
    omega
  · have := congrArg Str.length z
    have e0 : Str.empty.length = 0 := rfl
    rw [e0] at this
    have e1 : ∀ i j : Nat, (Builtin.Str.strSub ⟨⟨L⟩⟩ i j).length = min j L.length - i := fun i j => by
      show ((⟨L⟩ : Array Nat).extract i j).size = _
      rw [Array.size_extract]
      rfl
    rw [e1, len] at this
    have h5 : (List.drop (List.takeWhile isL L).length L) = (L.drop (L.takeWhile isL).length) := rfl
    omega
theorem strip_iff (z : Str) : decide (Txt.stripChars z abc = Str.empty) = z.cps.toList.all isL := by
  cases h : z.cps.toList.all isL with
  | true => exact decide_eq_true (strip_all z h)
  | false => exact decide_eq_false (strip_some z h)
/-! ### the two ways to cut at the arrow -/
theorem pre62 (c : Nat) (r : List Nat) : TL.pre [62] (c :: r) = (c == 62) := by
  unfold TL.pre
  by_cases q : c = 62
  · subst q; rfl
  · have : (c == 62) = false := by simpa using q
    rw [this]
    simp [q]
theorem spl_none : ∀ (I acc : List Nat), TL.par [62] acc I = none → TL.spl [62] 0 acc I = [acc ++ I] ∧ I.all (fun c => c != 62) = true
  | [], acc, _ => by rw [TL.spl_nil, List.append_nil]; exact ⟨rfl, rfl⟩
  | c :: r, acc, h => by
    unfold TL.par at h
    rw [pre62] at h
    by_cases q : c = 62
    · subst q; simp at h
    · have q2 : (c == 62) = false := by simpa using q
      rw [q2, if_neg (by simp)] at h
      obtain ⟨a, b⟩ := spl_none r (acc ++ [c]) h
      unfold TL.spl
      rw [pre62, q2, if_neg (by simp), a]
      exact ⟨by simp, by simpa [q] using b⟩
theorem spl_some : ∀ (I acc p q : List Nat), TL.par [62] acc I = some (p, q) → TL.spl [62] 0 acc I = p :: TL.spl [62] 0 [] q
  | [], acc, _, _, h => by cases h
  | c :: r, acc, p, q, h => by
    unfold TL.par at h
    rw [pre62] at h
    by_cases e : c = 62
    · subst e
      simp at h
      obtain ⟨rfl, rfl⟩ := h
      rw [TL.spl_hit (by rw [pre62]; rfl)]
      rfl
    · have q2 : (c == 62) = false := by simpa using e
      rw [q2, if_neg (by simp)] at h
      have a := spl_some r (acc ++ [c]) p q h
      rw [show TL.spl [62] 0 acc (c :: r) = TL.spl [62] 0 (acc ++ [c]) r from by rw [TL.spl, pre62, q2, if_neg (by simp)]]
      exact a
theorem spl_pos (I acc : List Nat) : ∃ a r, TL.spl [62] 0 acc I = a :: r := by
  cases h : TL.par [62] acc I with
  | none => exact ⟨_, _, (spl_none I acc h).1⟩
  | some pq => exact ⟨_, _, spl_some I acc pq.1 pq.2 h⟩
theorem isL62 : isL 62 = false := by decide +kernel
/-- the stretches of a text between its ends, if it is a rule's -/
def rdL (I : List Nat) : Option (List Nat × List Nat) := match TL.par [62] [] I with
  | none => none
  | some (p, q) => if lets 1 (S p) && lets 0 (S q) then some (p, q) else none
theorem rdL_spl {I : List Nat} : rdL I = match TL.spl [62] 0 [] I with
    | [a, b] => if lets 1 (S a) && lets 0 (S b) then some (a, b) else none
    | _ => none := by
  unfold rdL
  cases h : TL.par [62] [] I with
  | none =>
    rw [(spl_none I [] h).1]
  | some pq =>
    obtain ⟨p, q⟩ := pq
    rw [spl_some I [] p q h]
    cases h2 : TL.par [62] [] q with
    | none =>
      rw [(spl_none q [] h2).1]
      simp
    | some pq2 =>
      obtain ⟨p2, q2⟩ := pq2
      obtain ⟨a, r, e⟩ := spl_pos q2 []
      rw [spl_some q [] p2 q2 h2, e]
      have no : lets 0 (S q) = false := by
        cases h3 : lets 0 (S q) with
        | false => rfl
        | true =>
          unfold lets at h3
          rw [Bool.and_eq_true] at h3
          have h4 : q.all isL = true := h3.2
          have h5 : ∀ (q acc : List Nat), q.all isL = true → TL.par [62] acc q = none := by
            intro q
            induction q with
            | nil => intro acc _; rfl
            | cons c r ih =>
              intro acc hq
              simp only [List.all_cons, Bool.and_eq_true] at hq
              have e : (c == 62) = false := by
                by_cases e : c = 62
                · subst e; rw [isL62] at hq; cases hq.1
                · simpa using e
              unfold TL.par
              rw [pre62, e, if_neg (by simp)]
              exact ih _ hq.2
          rw [h5 q [] h4] at h2
          cases h2
      simp [no]
end Kx
set_option Elab.async false
set_option maxRecDepth 100000
set_option autoImplicit false
/-! the marks of the ends -/
namespace Kx
open PySem L2 PySem.Spec PyProof.Rows Rg SX
def hd (z : Str) : Bool := decide (z.cps.toList.head? = some 91)
def la (z : Str) : Bool := decide (z.cps.toList.getLast? = some 93)
def bit (b : Bool) : Nat := if b then 1 else 0
/-- what stands between the marks -/
def inn (z : Str) : List Nat := (z.cps.toList.drop (bit (hd z))).take (z.cps.toList.length - bit (la z) - bit (hd z))
theorem sub0 (L : List Nat) : Builtin.Str.subAt ⟨⟨L⟩⟩ "[" 0 = decide (L.head? = some 91) := by
  cases L with
  | nil => rfl
  | cons c r =>
    show ((⟨c :: r⟩ : Array Nat).extract 0 1 == #[91]) = _
    have : (⟨c :: r⟩ : Array Nat).extract 0 1 = #[c] := by
      apply Array.ext'
      simp
    rw [this]
    by_cases q : c = 91
    · subst q; rfl
    · rw [decide_eq_false (by simpa using q)]
      simp [q]
theorem hd_pos {L : List Nat} (h : L.head? = some 91) : 1 ≤ L.length := by
  cases L with
  | nil => cases h
  | cons c r => simp
theorem la_pos {L : List Nat} (h : L.getLast? = some 93) : 1 ≤ L.length := by
  cases L with
  | nil => cases h
  | cons c r => simp
/-- both marks: two signs at least -/
theorem both {L : List Nat} (h : L.head? = some 91) (g : L.getLast? = some 93) : 2 ≤ L.length := by
  match L, h, g with
  | [c], h, g => simp at h g; omega
  | c :: d :: r, _, _ => simp
theorem starts_eq (z : Str) : Txt.startswith z "[" = hd z := by
  obtain ⟨⟨L⟩⟩ := z
  show (decide (0 + 1 ≤ L.length) && Builtin.Str.subAt ⟨⟨L⟩⟩ "[" 0) = decide (L.head? = some 91)
  rw [sub0]
  by_cases q : L.head? = some 91
  · rw [decide_eq_true q, decide_eq_true (by have := hd_pos q; omega)]; rfl
  · rw [decide_eq_false q, Bool.and_false]
theorem drop_last : ∀ (L : List Nat) (h : L ≠ []), L.drop (L.length - 1) = [L.getLast h]
  | [c], _ => rfl
  | c :: d :: r, h => by
    have := drop_last (d :: r) (by simp)
    simpa using this
theorem subE (L : List Nat) (h : 1 ≤ L.length) : Builtin.Str.subAt ⟨⟨L⟩⟩ "]" (L.length - 1) = decide (L.getLast? = some 93) := by
  show ((⟨L⟩ : Array Nat).extract (L.length - 1) (L.length - 1 + 1) == #[93]) = _
  have e : (⟨L⟩ : Array Nat).extract (L.length - 1) (L.length - 1 + 1) = ⟨[L.getLast (by intro q; subst q; simp at h)]⟩ := by
    apply Array.ext'
    simp only [Array.toList_extract, List.extract_eq_take_drop]
    rw [drop_last L (by intro q; subst q; simp at h)]
    rw [show L.length - 1 + 1 - (L.length - 1) = 1 from by omega]
    rfl
  rw [e, List.getLast?_eq_some_getLast (by intro q; subst q; simp at h)]
  by_cases q : L.getLast (by intro q; subst q; simp at h) = 93
  · rw [q]; rfl
  · rw [decide_eq_false (by simpa using q)]
    simp [q]
theorem ends_eq (z : Str) : Txt.endswith z "]" = la z := by
  obtain ⟨⟨L⟩⟩ := z
  show (decide (0 + 1 ≤ L.length) && Builtin.Str.subAt ⟨⟨L⟩⟩ "]" (L.length - 1)) = decide (L.getLast? = some 93)
  by_cases q : 1 ≤ L.length
  · rw [subE L q, decide_eq_true (by omega)]; rfl
  · have e : L = [] := by
      cases L with
      | nil => rfl
      | cons a r => simp at q
    subst e; rfl
theorem rmp (L : List Nat) : Txt.removeprefix ⟨⟨L⟩⟩ "[" = ⟨⟨L.drop (bit (decide (L.head? = some 91)))⟩⟩ := by
  unfold Txt.removeprefix
  rw [sub0]
  by_cases q : L.head? = some 91
  · rw [decide_eq_true q, if_pos rfl]
    have l := hd_pos q
    show (if (L.length - 1 == L.length) = true then _ else _) = _
    rw [if_neg (by simp; omega)]
    show (⟨(⟨L⟩ : Array Nat).extract 1 L.length⟩ : Str) = ⟨⟨L.drop 1⟩⟩
    congr 1
    apply Array.ext'
    simp
    exact List.take_of_length_le (by simp)
  · rw [decide_eq_false q, if_neg (by simp)]
    rfl
theorem rms (L : List Nat) : Txt.removesuffix ⟨⟨L⟩⟩ "]" = ⟨⟨L.take (L.length - bit (decide (L.getLast? = some 93)))⟩⟩ := by
  unfold Txt.removesuffix
  show Txt.affix ⟨⟨L⟩⟩ (if (decide (1 ≤ L.length) && Builtin.Str.subAt ⟨⟨L⟩⟩ "]" (L.length - 1)) = true then some (0, L.length - 1) else none) = _
  by_cases l : 1 ≤ L.length
  · rw [subE L l, decide_eq_true l, Bool.true_and]
    by_cases q : L.getLast? = some 93
    · rw [decide_eq_true q, if_pos rfl]
      show (if (L.length - 1 - 0 == L.length) = true then _ else _) = _
      rw [if_neg (by simp; omega)]
      show (⟨(⟨L⟩ : Array Nat).extract 0 (L.length - 1)⟩ : Str) = ⟨⟨L.take (L.length - 1)⟩⟩
      congr 1
      apply Array.ext'
      simp [List.dropLast_eq_take]
    · rw [decide_eq_false q, if_neg (by simp)]
      show (⟨⟨L⟩⟩ : Str) = ⟨⟨L.take (L.length - 0)⟩⟩
      simp
  · have e : L = [] := by
      cases L with
      | nil => rfl
      | cons a r => simp at l
    subst e; rfl
theorem inner_prog (z : Str) : Txt.removesuffix (Txt.removeprefix z "[") "]" = S (inn z) := by
  obtain ⟨⟨L⟩⟩ := z
  rw [rmp, rms]
  show (⟨⟨(L.drop (bit (decide (L.head? = some 91)))).take ((L.drop (bit (decide (L.head? = some 91)))).length - bit (decide ((L.drop (bit (decide (L.head? = some 91)))).getLast? = some 93)))⟩⟩ : Str) = ⟨⟨(L.drop (bit (decide (L.head? = some 91)))).take (L.length - bit (decide (L.getLast? = some 93)) - bit (decide (L.head? = some 91)))⟩⟩
  congr 3
  rw [List.length_drop]
  by_cases q : L.head? = some 91
  · rw [decide_eq_true q]
    show L.length - 1 - bit (decide ((L.drop 1).getLast? = some 93)) = L.length - bit (decide (L.getLast? = some 93)) - 1
    match L, q with
    | [c], q =>
      have e : c = 91 := by simpa using q
      subst e; rfl
    | c :: d :: r, q =>
      have e : (List.drop 1 (c :: d :: r)).getLast? = (c :: d :: r).getLast? := by simp
      rw [e]
      omega
  · rw [decide_eq_false q]
    show L.length - 0 - bit (decide ((L.drop 0).getLast? = some 93)) = L.length - bit (decide (L.getLast? = some 93)) - 0
    simp
theorem one_inj {c d : Nat} (z : V.str ⟨#[c]⟩ = V.str ⟨#[d]⟩) : c = d := by
  have h := congrArg (fun s : Str => s.cps.toList) (V.str.inj z)
  exact (List.cons.inj h).1
theorem cut_hd (z : Str) : decide (V.str (cutS z none (some 1)) = V.str "[") = hd z := by
  obtain ⟨⟨L⟩⟩ := z
  unfold cutS hd
  rw [show HT.sIx (⟨⟨L⟩⟩ : Str).length 0 none = 0 from rfl, show HT.sIx (⟨⟨L⟩⟩ : Str).length (⟨⟨L⟩⟩ : Str).length (some 1) = min 1 L.length from HT.sIx_nat _ _ 1]
  show decide (V.str ⟨((L.drop 0).take (min 1 L.length - 0)).toArray⟩ = V.str "[") = decide (L.head? = some 91)
  cases L with
  | nil => rfl
  | cons c r =>
    rw [show min 1 (c :: r).length - 0 = 1 from by simp]
    show decide (V.str ⟨#[c]⟩ = V.str "[") = _
    by_cases q : c = 91
    · subst q; rfl
    · rw [show decide ((c :: r).head? = some 91) = false from decide_eq_false (by simpa using q)]
      exact decide_eq_false fun z => q (one_inj z)
theorem cut_la (z : Str) : decide (V.str (cutS z (some (-1)) none) = V.str "]") = la z := by
  obtain ⟨⟨L⟩⟩ := z
  unfold cutS la
  rw [show HT.sIx (⟨⟨L⟩⟩ : Str).length (⟨⟨L⟩⟩ : Str).length none = L.length from rfl, show HT.sIx (⟨⟨L⟩⟩ : Str).length 0 (some (-1)) = L.length - 1 from by
    unfold HT.sIx
    dsimp only
    rw [if_pos (by decide)]
    show ((-1 : Int) + (L.length : Int)).toNat = _
    omega]
  show decide (V.str ⟨((L.drop (L.length - 1)).take (L.length - (L.length - 1))).toArray⟩ = V.str "]") = decide (L.getLast? = some 93)
  by_cases l : L = []
  · subst l; rfl
  · rw [drop_last L l, List.getLast?_eq_some_getLast l]
    have l1 : 1 ≤ L.length := by
      cases L with
      | nil => exact absurd rfl l
      | cons a r => simp
    rw [show L.length - (L.length - 1) = 1 from by omega]
    show decide (V.str ⟨#[L.getLast l]⟩ = V.str "]") = _
    by_cases q : L.getLast l = 93
    · rw [q]; rfl
    · rw [show decide (some (L.getLast l) = some 93) = false from decide_eq_false (by simpa using q)]
      exact decide_eq_false fun z => q (one_inj z)
theorem cut_inn (z : Str) : cutS z (some (bit (hd z) : Nat)) (some ((z.length : Int) - (bit (la z) : Nat))) = S (inn z) := by
  obtain ⟨⟨L⟩⟩ := z
  unfold cutS inn
  have e : ((⟨⟨L⟩⟩ : Str).length : Int) - (bit (la ⟨⟨L⟩⟩) : Nat) = ((L.length - bit (la ⟨⟨L⟩⟩) : Nat) : Int) := by
    show (L.length : Int) - _ = _
    have : bit (la ⟨⟨L⟩⟩) ≤ L.length := by
      unfold la bit
      show (if decide (L.getLast? = some 93) = true then 1 else 0) ≤ L.length
      by_cases q : L.getLast? = some 93
      · rw [if_pos (by simpa using q)]; exact la_pos q
      · rw [if_neg (by simpa using q)]; exact Nat.zero_le _
    omega
  rw [e, HT.sIx_nat, HT.sIx_nat]
  show (⟨((L.drop (min (bit (hd ⟨⟨L⟩⟩)) L.length)).take (min (L.length - bit (la ⟨⟨L⟩⟩)) L.length - min (bit (hd ⟨⟨L⟩⟩)) L.length)).toArray⟩ : Str) = ⟨⟨_⟩⟩
  have h1 : min (bit (hd ⟨⟨L⟩⟩)) L.length = bit (hd ⟨⟨L⟩⟩) := by
    unfold hd bit
    show min (if decide (L.head? = some 91) = true then 1 else 0) L.length = (if decide (L.head? = some 91) = true then 1 else 0)
    by_cases q : L.head? = some 91
    · rw [if_pos (by simpa using q)]; have := hd_pos q; omega
    · rw [if_neg (by simpa using q)]; omega
  rw [h1, show min (L.length - bit (la ⟨⟨L⟩⟩)) L.length = L.length - bit (la ⟨⟨L⟩⟩) from by omega]
end Kx
set_option Elab.async false
set_option maxRecDepth 100000
set_option autoImplicit false
/-! Rules: cls(e, .., k = v), cls a local name; raise C(e, e'), two fields; no exception leaves where none is wished for. -/
namespace Ru
open PySem L2 PySem.Spec PyProof.Rows PySem.Calls Er
section
variable {X : Cx} {CX : CXT} {k n : Nat} {f C : Addr} {fd : FuncData} {ps ks : List Str} {sp : Sp} {E : XK} {x : Str} {e : Expr} {es : List Expr} {kws : List Keyword} {tf : TE} {t tk : TA} {g : List Value → List Value → List Value} {gV : List V → List V → List V} {p pos : Pos}
theorem passesF : Passes (L2.CX X.prog X.w) X (fun _ _ _ => False) := fun _ _ _ _ _ _ _ h => by
  obtain ⟨a, B, H', cls, d, _, _, _, _, _, _, _, z⟩ := h
  exact z.elim
def tMakeVK (C : Addr) (n m : Nat) (sp : Sp) (gV : List V → List V → List V) (E : XK) (tf : TE) (t tk : TA) : TE := fun σ H Q => tf σ H fun y H1 => y = V.ref C ∧ tMakeK C n m sp gV E t tk σ H1 Q
theorem pe_makeVK (M : Mk X.K C f) (F : FnOk X.prog X.w X.K X.mg X.base CX k f fd ps sp) (hr : Room (k + 1) X.A) (hb : KBn X.K fd ps (n + 1) ks g gV) (hx : Passes CX X E) (hf : PE X (.Name x p) tf) (ha : PA X (e :: es) t) (hkw : PK X kws tk)
    (hall : (backToKw pos (keywordEach kws X.env)).all (·.1.isSome) = true := by rfl) (hks : (backToKw pos (keywordEach kws X.env)).filterMap (·.1) = ks := by rfl)
    (he : starEach (e :: es) X.env = (false, eval e X.env) :: starEach es X.env := by rfl) (hpl : ((backTo pos (starEach (e :: es) X.env)).any (·.1) || (backToKw pos (keywordEach kws X.env)).any (·.1.isNone)) = false := by rfl) :
    PE X (.Call (.Name x p) (e :: es) kws pos) (tMakeVK C n ks.length sp gV E tf t tk) := by
  refine ⟨fun pins s σ H Q I h => ?_⟩
  refine wpAny_Call_Name_kw (thn (hf.run pins s σ H _ I h) fun u s0 ⟨y, H0, I0, ry, ey, q0⟩ => ?_)
  subst ey
  obtain rfl : u = Value.ref C := ry
  refine PySem.W.callWith_KW (h₀ := X.base) I0.ok.mod.kin M.kp hall (thn (ha.run pos pins s0 σ H0 _ I0 q0) fun us s1 ⟨vs, H1, I1, r, q⟩ => ?_) hpl he
  refine thn (hkw.run pos pins s1 σ H1 _ I1 q) fun ws s2 ⟨zs, H2, I2, rz, l1, l2, q2⟩ => ⟨I2.kIn, ?_⟩
  rw [hks]
  exact run_makeK M F hr hb hx I2 r rz l1 l2 q2
end
theorem left2 {H : Hp} {a d C : Addr} {fs gs hs : List (Str × V)} (na : H a = none) (o : Option Addr) : upd (del (upd (upd (upd (upd H a (exo a C none)) d (exd d gs)) a (exo a C o)) d (exd d hs)) a) d (.xd fs) = upd H d (.xd fs) := by
  funext b
  by_cases hd : b = d
  · rw [hd, upd_same, upd_same]
  rw [upd_ne hd, upd_ne hd]
  by_cases ha : b = a
  · rw [ha, del_same, na]
  · rw [del_ne ha, upd_ne hd, upd_ne ha, upd_ne hd, upd_ne ha]
def tRaise2 (C : Addr) (f g : Str) (W : WX) (te tu : TE) : TS := fun _ σ H => te σ H fun v H1 => tu σ H1 fun u H2 => ∀ d, H2 d = none → W (.ref C) (some d) σ (upd H2 d (.xd [(g, u), (f, v)]))
section
variable {X : Cx}
theorem ps_raise2 {x f g : Str} {C fi : Addr} {k : Nat} {fd : FuncData} {ps : List Str} {e e2 : Expr} {te tu : TE} {W : WX} {p pos pos2 : Pos} (hc : X.calm = true) (tk : Takes X W) (O : OexC X.K C) (iC : PySem.W.findIn X.K (.ref C) "__init__" = some (some (.ref fi))) (tI : PySem.W.typeIn X.K (.ref fi) = some (.type "function"))
    (F : FnOk X.prog X.w X.K X.mg X.base CX0 k fi fd ps (spErr2 C f g)) (hr : Room (k + 1) X.A) (hb : Binds X.K fd ps []) (hg : Gl X x) (hm : X.mg x = some (.ref C)) (he : PE X e te) (hu : PE X e2 tu) (hdb : (x == ("__debug__" : Str)) = false := by decide)
    (hs : starEach [e, e2] X.env = (false, eval e X.env) :: starEach [e2] X.env := by rfl) (hs2 : starEach [e2] X.env = (false, eval e2 X.env) :: starEach [] X.env := by rfl) (hpl : (backTo pos (starEach [e2] X.env)).any (·.1) = false := by rfl) :
    PS X (.Raise (some (.Call (.Name x p) [e, e2] [] pos)) none pos2) (tRaise2 C f g W te tu) := by
  have R := ps_raise (pos := pos2) hc tk (pmk_oex (p := p) (pos := pos) O iC tI F hr hb .nil pass0 hg hm (pa_cons (pe_up he) (pa_cons (pe_up hu) pa_nil hs2) hs) hdb hs hpl)
  refine ⟨fun pins s σ H D I h => R.run pins s σ H D I ?_⟩
  refine ⟨_, h, fun v H1 q => ⟨_, q, fun u H2 q2 => ⟨by show 2 ≤ 1000; decide, fun a na => ⟨a, v, u, rfl, upd_same, fun d nd ne => ⟨rfl, d, [(g, u), (f, v)], ?_, upd_same, ?_, ?_⟩⟩⟩⟩⟩
  · rw [upd_ne ne.symm, upd_same]
  · rw [upd_ne ne] at nd; exact nd
  · rw [upd_ne ne] at nd
    rw [left2 na]
    exact q2 d nd
end
end Ru
set_option Elab.async false
set_option maxRecDepth 100000
set_option autoImplicit false
/-! are_letters of any value; Rule.__init__ -/
namespace Kx
open PySem L2 PySem.Spec PyProof.Rows Rg Er Ru
abbrev sAreLetters : Stmt := top 9
abbrev sRInit : Stmt := inClass (top 11) 1
def NoStr (K : PySem.W.Frag) (H : Hp) (x : V) : Prop := ∃ t, TyX K H x t ∧ PySem.W.kitOne K t (.type "str") = some false
/-- x is a text that is a stretch or not, or no text -/
def Tx (K : PySem.W.Frag) (lo : Nat) (H : Hp) (x : V) (b : Bool) : Prop := (∃ wd : Str, x = .str wd ∧ wd.length ≤ 1000 ∧ b = lets lo wd) ∨ (b = false ∧ NoStr K H x)
/-- x is a truth, or is none -/
def Tb (K : PySem.W.Frag) (H : Hp) (x : V) (b : Bool) : Prop := ∃ t, TyX K H x t ∧ PySem.W.kitOne K t (.type "bool") = some b
def spAreLetters (K : PySem.W.Frag) : Sp := fun vs H Q _ => ∃ (x : V) (lo : Nat) (b : Bool), vs = [x, .int lo, .int 4] ∧ Tx K lo H x b ∧ Q (.bl b) H
theorem eqEmpty (x : Str) : decide (V.str x = V.str "") = decide (x = Str.empty) := by
  by_cases q : x = Str.empty
  · rw [q] <;> rfl
  · rw [decide_eq_false q]
    exact decide_eq_false fun z : V.str x = V.str "" => q (V.str.inj z)
section
variable {P : Program} {w : World} {K : PySem.W.Frag} {mg : Str → Option Value} {base : Heap}
theorem scAreLetters : FnScope ["value", "least", "most"] ["value", "least", "most"] (defScope sAreLetters) := ⟨rfl, rfl, rfl, by decide +kernel, rfl, by decide +kernel, by decide +kernel⟩
theorem ok_areLetters {f : Addr} {fd : FuncData} (F : L2.Fun K "are_letters" "are_letters" sAreLetters f fd) (T : Txt mg) (mS : mg "str" = none) {tk : Tok} (mL : mg "LETTERS" = some (.str abc tk)) : FnOk P w K mg base CX0 1 f fd ["value", "least", "most"] (spAreLetters K) := by
  refine F.ok scAreLetters (fun vs H Q E h => ?_) (fun cdv A outer s H vs Q E hr h => ?_)
  · obtain ⟨x, lo, b, rfl, _⟩ := h
    rfl
  · obtain ⟨x, lo, b, rfl, how, k⟩ := h
    refine ⟨_, pss_one (ps_ret (pe_and (bIsi (by rfl) T.isi (pv 0) (pe_bltn (v := .ty "str") (by rfl) mS (by decide +kernel) rfl)) (pe_and (pe_chain op_le op_le (pv 1) (bLen (by rfl) T.len (pv 0)) (pv 2))
      (pe_one (pe_cmpR op_eq (pe_bm PySem.F.plainAttrs_str PySem.F.slot_str_strip PySem.F.type_str_strip mt_stripChars (pv 0) (pa_cons (pe_glob (v := .str abc) (by rfl) mL ⟨_, rfl⟩) pa_nil)) pe_str (nomark _)))))), ?_⟩
    rcases how with ⟨wd, rfl, few, rfl⟩ | ⟨rfl, t, ty, no⟩
    · refine ⟨_, rfl, .str wd, .ty "str", _, _, true, rfl, .ty "str", .base (.str wd), kit_ty (by decide +kernel), true, rfl, iteT ?_⟩
      refine ⟨_, rfl, _, rfl, _, wd.length, rfl, ⟨len_small (by omega), rfl⟩, _, _, rfl, rfl, _, rfl, ?_⟩
      unfold lets at k
      by_cases h1 : lo ≤ wd.length
      · rw [if_pos (decide_eq_true (by omega))]
        refine ⟨_, rfl, _, _, rfl, rfl, _, rfl, ?_⟩
        rw [decide_eq_true h1, Bool.true_and] at k
        by_cases h2 : wd.length ≤ 4
        · rw [if_pos (decide_eq_true (by omega))]
          refine ⟨_, rfl, rfl, wd, abc, rfl, rfl, len_small (by omega), ?_⟩
          refine ⟨rfl, ?_⟩
          rw [decide_eq_true h2, Bool.true_and] at k
          rw [eqEmpty, strip_iff]
          exact k
        · rw [decide_eq_false h2, Bool.false_and] at k
          have e : decide ((wd.length : Int) ≤ 4) = false := decide_eq_false (by omega)
          rw [e]
          exact iteF k
      · rw [decide_eq_false h1, Bool.false_and, Bool.false_and] at k
        have e : decide ((lo : Int) ≤ (wd.length : Int)) = false := decide_eq_false (by omega)
        rw [e]
        exact iteF ⟨_, rfl, iteF k⟩
    · exact ⟨_, rfl, x, .ty "str", _, _, false, rfl, .ty "str", ty, no, false, rfl, iteF k⟩
end
/-! ### rules -/
def rf1 (o : V) : List (Str × V) := putF "old" o []
def rf2 (o n : V) : List (Str × V) := putF "new" n (rf1 o)
def rf3 (o n l : V) : List (Str × V) := putF "left" l (rf2 o n)
def rf (o n l r : V) : List (Str × V) := putF "right" r (rf3 o n l)
theorem rf_lookups (o n l r : V) : (rf o n l r).lookup ("old" : Str) = some o ∧ (rf o n l r).lookup ("new" : Str) = some n ∧ (rf o n l r).lookup ("left" : Str) = some l ∧ (rf o n l r).lookup ("right" : Str) = some r := by
  unfold rf rf3 rf2 rf1
  refine ⟨?_, ?_, ?_, ?_⟩ <;> simp only [lookup_putF] <;> simp (config := { decide := true })
/-- at a the rule -/
def Rl (C : Addr) (H : Hp) (a : Addr) (o n : Str) (l r : Bool) : Prop := ∃ dx, H a = some (.ins C dx (rf (.str o) (.str n) (.bl l) (.bl r)))
theorem Rl.same {C a : Addr} {H H' : Hp} {o n : Str} {l r : Bool} (h : Rl C H a o n l r) (e : Same H H') : Rl C H' a o n l r := h.imp fun _ q => e _ _ q
/-- what is written of the class -/
structure RT (K : PySem.W.Frag) (mg : Str → Option Value) (C : Addr) : Prop where
  cl : Cls K C
  n1 : NoAttr K C "old"
  n2 : NoAttr K C "new"
  n3 : NoAttr K C "left"
  n4 : NoAttr K C "right"
  mgC : mg "Rule" = some (.ref C)
  rd : ∃ mc u, ClX.CRead K C mc ∧ ClX.CVal K C mc "LONGEST" (.int 4) u
/-- the first part that is wrong -/
def bad4 (a b c d : Bool) : Option Str := if a = false then some "old" else if b = false then some "new" else if c = false then some "left" else if d = false then some "right" else none
def spRInit (K : PySem.W.Frag) (C CR : Addr) : Sp := fun vs H Q E => ∃ (p dx : Addr) (x y u v : V) (a b c d : Bool), vs = [.ref p, x, y, u, v] ∧ H p = some (.ins C dx []) ∧ Tx K 1 H x a ∧ Tx K 0 H y b ∧ Tb K H u c ∧ Tb K H v d ∧
  match bad4 a b c d with
  | some part => raised CR "part" (.str part) E H
  | none => ∀ H', Ext1 p H H' → H' p = some (.ins C dx (rf x y u v)) → Q .non H'
section
variable {P : Program} {w : World} {K : PySem.W.Frag} {mg : Str → Option Value} {base : Heap}
abbrev nInit : List Str := ["self", "old", "new", "left", "right"]
theorem scRInit : FnScope nInit nInit (defScope sRInit) := ⟨rfl, rfl, rfl, by decide +kernel, rfl, by decide +kernel, by decide +kernel⟩
theorem ok_rInit {C CR f f1 : Addr} {fd fd1 : FuncData} {kws : List (Str × V)} (F : FunD K "__init__" "Rule.__init__" (defArgs sRInit) (defBody sRInit) (defScope sRInit) [] kws f fd) (T : Txt mg) (M : RT K mg C) (R : ErrB P w K mg base "BadRule" "part" CR) (mB : mg "bool" = none)
    (G : FnOk P w K mg base CX0 1 f1 fd1 ["value", "least", "most"] (spAreLetters K)) (m1 : mg "are_letters" = some (.ref f1)) (k1 : PySem.W.keepIn K (.ref f1) = true) (b1 : L2.Binds K fd1 ["value", "least", "most"] []) :
    FnOk P w K mg base (L2.CX P w) 3 f fd nInit (spRInit K C CR) := by
  obtain ⟨fi, fdi, psi, r1, r2, r3, r4⟩ := R.init
  obtain ⟨mc, lu, rd, cv⟩ := M.rd
  refine F.ok scRInit (fun vs H Q E h => ?_) (fun cdv A outer s H vs Q E hr h => ?_)
  · obtain ⟨p, dx, x, y, u, v, a, b, c, d, rfl, _⟩ := h
    rfl
  · obtain ⟨p, dx, x, y, u, v, a, b, c, d, rfl, hp, hx, hy, hu, hv, k⟩ := h
    have tk := takes_of (X := cxOf (L2.CX P w) P w K mg base nInit "Rule.__init__" (defScope sRInit) f cdv A outer s H E) rfl rfl rfl rfl
    have hr1 := hr.mono (show 1 ≤ 2 by decide)
    refine ⟨_, pss_cons (ps_if (pt_not (pt_val (pe_call G hr1 (by rfl) m1 k1 b1 .nil pass0 (pa_cons (pv 1) (pa_cons pe_int (pa_cons (ClX.pe_cval (pe_glob (v := .ref C) (by rfl) M.mgC rfl)) pa_nil)))))) (pss_one (ps_raise1 rfl tk R.O r1 r2 r3 hr r4 (by rfl) R.mgC pe_str)) pss_nil)
      (pss_cons (ps_if (pt_not (pt_val (pe_call G hr1 (by rfl) m1 k1 b1 .nil pass0 (pa_cons (pv 2) (pa_cons pe_int (pa_cons (ClX.pe_cval (pe_glob (v := .ref C) (by rfl) M.mgC rfl)) pa_nil)))))) (pss_one (ps_raise1 rfl tk R.O r1 r2 r3 hr r4 (by rfl) R.mgC pe_str)) pss_nil)
      (pss_cons (ps_if (pt_not (pt_val (bIsi (by rfl) T.isi (pv 3) (pe_bltn (v := .ty "bool") (by rfl) mB (by decide +kernel) rfl)))) (pss_one (ps_raise1 rfl tk R.O r1 r2 r3 hr r4 (by rfl) R.mgC pe_str)) pss_nil)
      (pss_cons (ps_if (pt_not (pt_val (bIsi (by rfl) T.isi (pv 4) (pe_bltn (v := .ty "bool") (by rfl) mB (by decide +kernel) rfl)))) (pss_one (ps_raise1 rfl tk R.O r1 r2 r3 hr r4 (by rfl) R.mgC pe_str)) pss_nil)
      (pss_cons (ps_fld (pv 0) (pv 1) rfl) (pss_cons (ps_fld (pv 0) (pv 2) rfl) (pss_cons (ps_fld (pv 0) (pv 3) rfl) (pss_one (ps_fld (pv 0) (pv 4) rfl)))))))), ?_⟩
    refine ⟨_, rfl, C, mc, _, lu, rfl, rd, cv, x, 1, a, rfl, hx, a, rfl, ?_⟩
    cases a with
    | false => exact iteT k
    | true =>
    refine iteF ⟨_, rfl, C, mc, _, lu, rfl, rd, cv, y, 0, b, rfl, hy, b, rfl, ?_⟩
    cases b with
    | false => exact iteT k
    | true =>
    obtain ⟨tu, tyu, ku⟩ := hu
    refine iteF ⟨_, rfl, u, .ty "bool", _, _, c, rfl, .ty "bool", tyu, ku, c, rfl, ?_⟩
    cases c with
    | false => exact iteT k
    | true =>
    obtain ⟨tv, tyv, kv⟩ := hv
    refine iteF ⟨_, rfl, v, .ty "bool", _, _, d, rfl, .ty "bool", tyv, kv, d, rfl, ?_⟩
    cases d with
    | false => exact iteT k
    | true =>
    refine iteF ?_
    refine ⟨_, rfl, _, rfl, p, C, dx, [], rfl, hp, M.cl, M.n1, by show 0 < 1000; decide, ?_⟩
    refine ⟨_, rfl, _, rfl, p, C, dx, _, rfl, upd_same, M.cl, M.n2, by show 1 < 1000; decide, ?_⟩
    refine ⟨_, rfl, _, rfl, p, C, dx, _, rfl, upd_same, M.cl, M.n3, by show 2 < 1000; decide, ?_⟩
    refine ⟨_, rfl, _, rfl, p, C, dx, _, rfl, upd_same, M.cl, M.n4, by show 3 < 1000; decide, ?_⟩
    exact k _ (Ext1.trans Ext1.put (Ext1.trans Ext1.put (Ext1.trans Ext1.put Ext1.put))) upd_same
end
end Kx
set_option Elab.async false
set_option maxRecDepth 100000
set_option autoImplicit false
/-! parts_of_text, is_text_of_rule, Rule.read, str, == -/
namespace Kx
open PySem L2 PySem.Spec PyProof.Rows Rg Er Ru SX
abbrev sRRead : Stmt := inClass (top 11) 2
abbrev sRStr : Stmt := inClass (top 11) 3
abbrev sREq : Stmt := inClass (top 11) 4
abbrev sParts : Stmt := top 12
abbrev sIsText : Stmt := top 13
def arr : Str := S [62]
theorem arr_lit : (">" : Str) = arr := rfl
def pt3 (z : Str) : Str × Str × Str := Txt.partition (S (inn z)) arr
theorem pt3_none {z : Str} (h : TL.par [62] [] (inn z) = none) : pt3 z = (S (inn z), S [], S []) := partition_none (by simp) h
theorem pt3_some {z : Str} {p q : List Nat} (h : TL.par [62] [] (inn z) = some (p, q)) : pt3 z = (S p, arr, S q) := partition_some (by simp) h
theorem inn_le (z : Str) : (S (inn z)).length ≤ z.length := by
  obtain ⟨⟨L⟩⟩ := z
  show (inn ⟨⟨L⟩⟩).length ≤ L.length
  unfold inn
  rw [List.length_take, List.length_drop]
  show min _ (L.length - _) ≤ L.length
  omega
theorem rmp_le (z : Str) : (Txt.removeprefix z "[").length ≤ z.length := by
  obtain ⟨⟨L⟩⟩ := z
  rw [rmp]
  show (L.drop _).length ≤ L.length
  rw [List.length_drop]
  omega
theorem par_le : ∀ (I acc p q : List Nat), TL.par [62] acc I = some (p, q) → p.length + q.length + 1 = acc.length + I.length
  | [], acc, _, _, h => by cases h
  | c :: r, acc, p, q, h => by
    unfold TL.par at h
    rw [pre62] at h
    by_cases e : c = 62
    · subst e
      simp at h
      obtain ⟨rfl, rfl⟩ := h
      rw [List.length_cons]
      omega
    · have q2 : (c == 62) = false := by simpa using e
      rw [q2, if_neg (by simp)] at h
      have a := par_le r (acc ++ [c]) p q h
      rw [List.length_append] at a
      rw [List.length_cons]
      simp only [List.length_cons, List.length_nil] at a
      omega
def spParts : Sp := fun vs H Q _ => ∃ z : Str, vs = [.str z] ∧ z.length ≤ 1000 ∧ ∀ t, H t = none → Q (.ref t) (upd H t (.tup [.str (pt3 z).1, .str (pt3 z).2.1, .str (pt3 z).2.2]))
def spIsText (K : PySem.W.Frag) : Sp := fun vs H Q _ => ∃ x, vs = [x] ∧ ((∃ z : Str, x = .str z ∧ z.length ≤ 1000 ∧ ∀ H', Same H H' → Q (.bl (rdL (inn z)).isSome) H') ∨ (NoStr K H x ∧ Q (.bl false) H))
def raised2 (C : Addr) (f g : Str) (v u : V) (E : XK) (H : Hp) : Prop := ∀ d, H d = none → E (.ref C) (some d) (upd H d (.xd [(g, u), (f, v)]))
structure ErrD (P : Program) (w : World) (K : PySem.W.Frag) (mg : Str → Option Value) (base : Heap) (x f g : Str) (C : Addr) : Prop where
  O : OexC K C
  mgC : mg x = some (.ref C)
  init : ∃ fi fd ps, PySem.W.findIn K (.ref C) "__init__" = some (some (.ref fi)) ∧ PySem.W.typeIn K (.ref fi) = some (.type "function") ∧ FnOk P w K mg base CX0 1 fi fd ps (spErr2 C f g) ∧ L2.Binds K fd ps []
def spRead (K : PySem.W.Frag) (C CT : Addr) : Sp := fun vs H Q E => ∃ x, vs = [.ref C, x] ∧
  ((∃ (z : Str) (p q : List Nat), x = .str z ∧ z.length ≤ 1000 ∧ rdL (inn z) = some (p, q) ∧ ∀ H' a, Same H H' → Rl C H' a (S p) (S q) (hd z) (la z) → Q (.ref a) H') ∨
  (((∃ z : Str, x = .str z ∧ z.length ≤ 1000 ∧ rdL (inn z) = none) ∨ NoStr K H x) ∧ ∀ H', Same H H' → raised2 CT "line" "word" (.int 0) (.int 0) E H'))
theorem made_same {C x dx : Addr} {H : Hp} (hx : H x = none) (hd : H dx = none) : Same H (upd (upd H dx (.own x)) x (.ins C dx [])) := fun b o e => by
  rw [upd_ne (ne_of_none e hx), upd_ne (ne_of_none e hd)]
  exact e
theorem same_ext1 {x : Addr} {H H1 H2 : Hp} (hx : H x = none) (a : Same H H1) (b : Ext1 x H1 H2) : Same H H2 := fun c o e => b c o (ne_of_none e hx) (a c o e)
theorem tx_lets {K : PySem.W.Frag} {lo : Nat} {H : Hp} {z : Str} (h : lets lo z = true) : Tx K lo H (.str z) true := .inl ⟨z, rfl, by
  unfold lets at h
  simp only [Bool.and_eq_true, decide_eq_true_eq] at h
  omega, h.symm⟩
theorem tb_bl {K : PySem.W.Frag} {H : Hp} (b : Bool) : Tb K H (.bl b) true := ⟨_, .base (.bl b), kit_ty (by decide +kernel)⟩
section
variable {P : Program} {w : World} {K : PySem.W.Frag} {mg : Str → Option Value} {base : Heap}
theorem scParts : FnScope ["text"] ["text"] (defScope sParts) := ⟨rfl, rfl, rfl, by decide +kernel, rfl, by decide +kernel, by decide +kernel⟩
theorem ok_parts {f : Addr} {fd : FuncData} (F : L2.Fun K "parts_of_text" "parts_of_text" sParts f fd) : FnOk P w K mg base CX0 1 f fd ["text"] spParts := by
  refine F.ok scParts (fun vs H Q E h => ?_) (fun cdv A outer s H vs Q E hr h => ?_)
  · obtain ⟨z, rfl, _⟩ := h
    rfl
  · obtain ⟨z, rfl, few, k⟩ := h
    refine ⟨_, pss_one (ps_ret (pe_bm PySem.F.plainAttrs_str PySem.F.slot_str_partition PySem.F.type_str_partition mt_partition (pe_bm PySem.F.plainAttrs_str PySem.F.slot_str_removesuffix PySem.F.type_str_removesuffix mt_removesuffix
      (pe_bm PySem.F.plainAttrs_str PySem.F.slot_str_removeprefix PySem.F.type_str_removeprefix mt_removeprefix (pv 0) (pa_cons pe_str pa_nil)) (pa_cons pe_str pa_nil)) (pa_cons pe_str pa_nil))), ?_⟩
    refine ⟨_, rfl, rfl, _, _, rfl, rfl, len_small few, rfl, _, _, rfl, rfl, len_small (Nat.le_trans (rmp_le z) few), ?_⟩
    rw [inner_prog]
    exact ⟨rfl, _, _, rfl, rfl, rfl, len_small (Nat.le_trans (inn_le z) few), fun t ht => k t ht⟩
theorem scIsText : FnScope ["value", "old", "arrow", "new"] ["value"] (defScope sIsText) := ⟨rfl, rfl, rfl, by decide +kernel, rfl, by decide +kernel, by decide +kernel⟩
theorem ok_isText {C f f1 f2 : Addr} {fd fd1 fd2 : FuncData} (F : L2.Fun K "is_text_of_rule" "is_text_of_rule" sIsText f fd) (T : Txt mg) (M : RT K mg C) (mS : mg "str" = none)
    (G1 : FnOk P w K mg base CX0 1 f1 fd1 ["text"] spParts) (m1 : mg "parts_of_text" = some (.ref f1)) (k1 : PySem.W.keepIn K (.ref f1) = true) (b1 : L2.Binds K fd1 ["text"] [])
    (G2 : FnOk P w K mg base CX0 1 f2 fd2 ["value", "least", "most"] (spAreLetters K)) (m2 : mg "are_letters" = some (.ref f2)) (k2 : PySem.W.keepIn K (.ref f2) = true) (b2 : L2.Binds K fd2 ["value", "least", "most"] []) :
    FnOk P w K mg base CX0 2 f fd ["value"] (spIsText K) := by
  obtain ⟨mc, lu, rd, cv⟩ := M.rd
  refine F.ok scIsText (fun vs H Q E h => ?_) (fun cdv A outer s H vs Q E hr h => ?_)
  · obtain ⟨x, rfl, _⟩ := h
    rfl
  · obtain ⟨x, rfl, h⟩ := h
    have nd := scIsText.nd
    refine ⟨_, pss_cons (ps_if (pt_not (pt_val (bIsi (by rfl) T.isi (pv 0) (pe_bltn (v := .ty "str") (by rfl) mS (by decide +kernel) rfl)))) (pss_one (ps_ret pe_bl)) pss_nil)
      (pss_cons (ps_asg (pe_call G1 hr (by rfl) m1 k1 b1 .nil pass0 (pa_cons (pv 0) pa_nil)) (pg_tup rfl (pgs_cons (pg_name (i := 1) nd rfl (.inl rfl)) (pgs_cons (pg_name (i := 2) nd rfl (.inl rfl)) (pgs_cons (pg_name (i := 3) nd rfl (.inl rfl)) pgs_nil)))))
      (pss_one (ps_ret (pe_and (pe_cmpR op_eq (pv 2) pe_str (nomark _)) (pe_and (pe_call G2 hr (by rfl) m2 k2 b2 .nil pass0 (pa_cons (pv 1) (pa_cons pe_int (pa_cons (ClX.pe_cval (pe_glob (v := .ref C) (by rfl) M.mgC rfl)) pa_nil))))
        (pe_one (pe_call G2 hr (by rfl) m2 k2 b2 .nil pass0 (pa_cons (pv 3) (pa_cons pe_int (pa_cons (ClX.pe_cval (pe_glob (v := .ref C) (by rfl) M.mgC rfl)) pa_nil)))))))))), ?_⟩
    rcases h with ⟨z, rfl, few, k⟩ | ⟨⟨t, ty, no⟩, k⟩
    · refine ⟨_, rfl, .str z, .ty "str", _, _, true, rfl, .ty "str", .base (.str z), kit_ty (by decide +kernel), true, rfl, iteF ?_⟩
      refine ⟨_, rfl, z, rfl, few, fun t ht => ?_⟩
      refine ⟨t, _, rfl, SqT.of upd_same, rfl, _, _, rfl, _, _, rfl, _, _, rfl, rfl, ?_⟩
      have s1 : Same H (upd H t (.tup [.str (pt3 z).1, .str (pt3 z).2.1, .str (pt3 z).2.2])) := Same.new ht
      generalize upd H t (.tup [.str (pt3 z).1, .str (pt3 z).2.1, .str (pt3 z).2.2]) = H1 at s1 ⊢
      have k' := k H1 s1
      have l0 := inn_le z
      unfold rdL at k'
      cases e : TL.par [62] [] (inn z) with
      | none =>
        rw [pt3_none e]
        rw [e] at k'
        exact ⟨_, rfl, rfl, false, rfl, iteF k'⟩
      | some pq =>
        obtain ⟨p, q⟩ := pq
        have l1 := par_le _ _ _ _ e
        have l2 : (inn z).length ≤ z.length := l0
        simp only [List.length_nil] at l1
        rw [pt3_some e]
        rw [e] at k'
        dsimp only at k'
        refine ⟨_, rfl, rfl, true, rfl, iteT ?_⟩
        refine ⟨_, rfl, C, mc, _, lu, rfl, rd, cv, .str (S p), 1, lets 1 (S p), rfl, .inl ⟨S p, rfl, by show p.length ≤ 1000; omega, rfl⟩, lets 1 (S p), rfl, ?_⟩
        cases e1 : lets 1 (S p) with
        | false =>
          rw [e1] at k'
          exact iteF k'
        | true =>
          rw [e1] at k'
          refine iteT ⟨_, rfl, C, mc, _, lu, rfl, rd, cv, .str (S q), 0, lets 0 (S q), rfl, .inl ⟨S q, rfl, by show q.length ≤ 1000; omega, rfl⟩, ?_⟩
          cases e2 : lets 0 (S q) with
          | false => rw [e2] at k'; exact k'
          | true => rw [e2] at k'; exact k'
    · exact ⟨_, rfl, x, .ty "str", _, _, false, rfl, .ty "str", ty, no, false, rfl, iteT k⟩
theorem scRRead : FnScope ["cls", "text", "old", "_", "new"] ["cls", "text"] (defScope sRRead) := ⟨rfl, rfl, rfl, by decide +kernel, rfl, by decide +kernel, by decide +kernel⟩
def gKw : List Value → List Value → List Value := fun us ws => us ++ ws
def gKwV : List V → List V → List V := fun us ws => us ++ ws
theorem ok_rRead {C CR CT f f1 f2 fi : Addr} {fd fd1 fd2 fdi : FuncData} (F : L2.Fun K "read" "Rule.read" sRRead f fd) (R : ErrD P w K mg base "BadText" "line" "word" CT)
    (G1 : FnOk P w K mg base CX0 1 f1 fd1 ["text"] spParts) (m1 : mg "parts_of_text" = some (.ref f1)) (k1 : PySem.W.keepIn K (.ref f1) = true) (b1 : L2.Binds K fd1 ["text"] [])
    (G2 : FnOk P w K mg base CX0 2 f2 fd2 ["value"] (spIsText K)) (m2 : mg "is_text_of_rule" = some (.ref f2)) (k2 : PySem.W.keepIn K (.ref f2) = true) (b2 : L2.Binds K fd2 ["value"] [])
    (mk_ : Mk K C fi) (GI : FnOk P w K mg base (L2.CX P w) 3 fi fdi nInit (spRInit K C CR)) (kb : KBn K fdi nInit 3 ["left", "right"] gKw gKwV) :
    FnOk P w K mg base (L2.CX P w) 5 f fd ["cls", "text"] (spRead K C CT) := by
  obtain ⟨ft, fdt, pst, r1, r2, r3, r4⟩ := R.init
  refine F.okX scRRead (fun vs H Q E h => ?_) (fun cdv A outer s H vs Q E hr h => ?_)
  · obtain ⟨x, rfl, _⟩ := h
    rfl
  · obtain ⟨x, rfl, h⟩ := h
    have nd := scRRead.nd
    have tk := takes_of (X := cxOf (L2.CX P w) P w K mg base ["cls", "text", "old", "_", "new"] "Rule.read" (defScope sRRead) f cdv A outer s H E) rfl rfl rfl rfl
    have hr1 := hr.mono (show 1 ≤ 4 by decide)
    have hr2 := hr.mono (show 2 ≤ 4 by decide)
    refine ⟨_, pss_cons (ps_if (pt_not (pt_val (pe_call G2 hr2 (by rfl) m2 k2 b2 .nil pass0 (pa_cons (pv 1) pa_nil)))) (pss_one (ps_raise2 rfl tk R.O r1 r2 r3 hr2 r4 (by rfl) R.mgC pe_int pe_int)) pss_nil)
      (pss_cons (ps_asg (pe_call G1 hr1 (by rfl) m1 k1 b1 .nil pass0 (pa_cons (pv 1) pa_nil)) (pg_tup rfl (pgs_cons (pg_name (i := 2) nd rfl (.inl rfl)) (pgs_cons (pg_name (i := 3) nd rfl (.inl rfl)) (pgs_cons (pg_name (i := 4) nd rfl (.inl rfl)) pgs_nil)))))
      (pss_one (ps_ret (pe_makeVK mk_ GI hr kb passesF (pv 0) (pa_cons (pv 2) (pa_cons (pv 4) pa_nil)) (pk_cons (pe_bm PySem.F.plainAttrs_str PySem.F.slot_str_startswith PySem.F.type_str_startswith mt_startswith (pv 1) (pa_cons pe_str pa_nil))
        (pk_cons (pe_bm PySem.F.plainAttrs_str PySem.F.slot_str_endswith PySem.F.type_str_endswith mt_endswith (pv 1) (pa_cons pe_str pa_nil)) pk_nil)))))), ?_⟩
    rcases h with ⟨z, p, q, rfl, few, e, k⟩ | ⟨⟨z, rfl, few, e⟩ | no, k⟩
    · refine ⟨_, rfl, .str z, rfl, .inl ⟨z, rfl, few, fun H1 s1 => ?_⟩⟩
      rw [e]
      refine ⟨true, rfl, iteF ?_⟩
      refine ⟨_, rfl, z, rfl, few, fun t ht => ?_⟩
      have e3 : TL.par [62] [] (inn z) = some (p, q) ∧ lets 1 (S p) = true ∧ lets 0 (S q) = true := by
        unfold rdL at e
        cases e4 : TL.par [62] [] (inn z) with
        | none => rw [e4] at e; cases e
        | some pq =>
          rw [e4] at e
          dsimp only at e
          split at e
          · rename_i h5
            cases e
            rw [Bool.and_eq_true] at h5
            exact ⟨rfl, h5⟩
          · cases e
      rw [pt3_some e3.1]
      have s2 : Same H (upd H1 t (.tup [.str (S p), .str arr, .str (S q)])) := Same.trans s1 (Same.new ht)
      have e2 : upd H1 t (.tup [.str (S p), .str arr, .str (S q)]) t = some (.tup [.str (S p), .str arr, .str (S q)]) := upd_same
      generalize upd H1 t (.tup [.str (S p), .str arr, .str (S q)]) = H2 at s2 e2 ⊢
      refine ⟨t, _, rfl, SqT.of e2, rfl, _, _, rfl, _, _, rfl, _, _, rfl, rfl, ?_⟩
      refine ⟨_, rfl, rfl, _, rfl, _, rfl, _, rfl, rfl, _, _, rfl, rfl, _, rfl, rfl, _, _, rfl, rfl, rfl, rfl, fun x dx hx hdx ne => ?_⟩
      rw [starts_eq, ends_eq]
      refine ⟨x, dx, _, _, _, _, true, true, true, true, rfl, upd_same, tx_lets e3.2.1, tx_lets e3.2.2, tb_bl _, tb_bl _, fun H3 e5 h5 => ⟨rfl, k H3 x ?_ ⟨dx, h5⟩⟩⟩
      exact same_ext1 (Same.free s2 hx) (Same.trans s2 (made_same hx hdx)) e5
    · refine ⟨_, rfl, .str z, rfl, .inl ⟨z, rfl, few, fun H1 s1 => ?_⟩⟩
      rw [e]
      exact ⟨false, rfl, iteT (k H1 s1)⟩
    · exact ⟨_, rfl, x, rfl, .inr ⟨no, false, rfl, iteT (k H (Same.refl H))⟩⟩
end
end Kx
set_option Elab.async false
set_option maxRecDepth 100000
set_option autoImplicit false
/-! str of a rule, == -/
namespace Kx
open PySem L2 PySem.Spec PyProof.Rows Rg Er Ru SX
structure InsT (K : PySem.W.Frag) (C : Addr) : Prop where
  cl : Cls K C
  ha : PySem.W.findIn K (.ref C) "__class__" = some (some (.builtin "object.__class__"))
  hn : PySem.W.specialIn K (.builtin "object.__class__") "__get__" = some (some (.builtin "getset_descriptor.__get__"))
  htk : PySem.W.takesIn K (.builtin "object.__class__") = some true
  hm : PySem.W.mroIn K C (.type "object") = some true
theorem InsT.ty {K : PySem.W.Frag} {C a dx : Addr} {H : Hp} {fs : List (Str × V)} (T : InsT K C) (e : H a = some (.ins C dx fs)) : TyX K H (.ref a) (.ref C) := .base (.ins e T.cl T.ha T.hn T.htk T.hm)
/-- the text of a rule -/
def wr (o n : Str) (l r : Bool) : Str := (if l = true then ("[" : Str) else "") ++ o ++ ">" ++ n ++ (if r = true then ("]" : Str) else "")
theorem app_len (x y : Str) : (x ++ y).length = x.length + y.length := Str.length_append x y
theorem mark_len (b : Bool) (z : Str) (h : z.length = 1) : (if b = true then z else ("" : Str)).length ≤ 1 := by
  cases b
  · exact Nat.zero_le _
  · exact Nat.le_of_eq h
theorem wr_len (o n : Str) (l r : Bool) : (wr o n l r).length ≤ o.length + n.length + 3 := by
  unfold wr
  rw [app_len, app_len, app_len, app_len]
  have h1 := mark_len l "[" rfl
  have h2 := mark_len r "]" rfl
  have h3 : (">" : Str).length = 1 := rfl
  omega
theorem nil_app (x : Str) : Str.empty ++ x = x := by
  obtain ⟨⟨L⟩⟩ := x
  show (⟨#[] ++ ⟨L⟩⟩ : Str) = _
  simp
def spStr (C : Addr) : Sp := fun vs H Q _ => ∃ a o n l r, vs = [.ref a] ∧ Rl C H a o n l r ∧ o.length ≤ 1000 ∧ n.length ≤ 1000 ∧ Q (.str (wr o n l r)) H
def spREq (K : PySem.W.Frag) (C : Addr) : Sp := fun vs H Q _ => ∃ a y o n l r, vs = [.ref a, y] ∧ Rl C H a o n l r ∧
  ((∃ b o' n' l' r', y = .ref b ∧ Rl C H b o' n' l' r' ∧ Q (.bl (decide (o = o') && decide (n = n') && decide (l = l') && decide (r = r'))) H) ∨
   ((∃ t, TyX K H y t ∧ PySem.W.kitOne K t (.ref C) = some false) ∧ Q (.bl false) H))
theorem dStr (x y : Str) : decide (V.str x = V.str y) = decide (x = y) := by
  by_cases q : x = y
  · rw [q, decide_eq_true rfl, decide_eq_true rfl]
  · rw [decide_eq_false q]
    exact decide_eq_false fun z => q (V.str.inj z)
theorem ite_tC {σ : L2.St} {H : Hp} {Q : VK} {l : Bool} {x y : Str} (h : Q (.str (if l = true then x else y)) H) : if l = true then tC (.str x) σ H Q else tC (.str y) σ H Q := by
  cases l <;> exact h
theorem dBl (x y : Bool) : decide (V.bl x = V.bl y) = decide (x = y) := by
  by_cases q : x = y
  · rw [q, decide_eq_true rfl, decide_eq_true rfl]
  · rw [decide_eq_false q]
    exact decide_eq_false fun z => q (V.bl.inj z)
section
variable {P : Program} {w : World} {K : PySem.W.Frag} {mg : Str → Option Value} {base : Heap}
theorem scRStr : FnScope ["self", "head", "tail"] ["self"] (defScope sRStr) := ⟨rfl, rfl, rfl, by decide +kernel, rfl, by decide +kernel, by decide +kernel⟩
theorem ok_rStr {C f : Addr} {fd : FuncData} (F : L2.Fun K "__str__" "Rule.__str__" sRStr f fd) (M : RT K mg C) : FnOk P w K mg base CX0 1 f fd ["self"] (spStr C) := by
  refine F.ok scRStr (fun vs H Q E h => ?_) (fun cdv A outer s H vs Q E hr h => ?_)
  · obtain ⟨a, o, n, l, r, rfl, _⟩ := h
    rfl
  · obtain ⟨a, o, n, l, r, rfl, ⟨dx, ha⟩, lo, ln, k⟩ := h
    have nd := scRStr.nd
    obtain ⟨e1, e2, e3, e4⟩ := rf_lookups (.str o) (.str n) (.bl l) (.bl r)
    refine ⟨_, pss_cons (ps_set (i := 1) nd rfl (.inl rfl) (pe_ifExp (pt_val (pe_fld (pv 0) rfl)) pe_str pe_str)) (pss_cons (ps_set (i := 2) nd rfl (.inl rfl) (pe_ifExp (pt_val (pe_fld (pv 0) rfl)) pe_str pe_str))
      (pss_one (ps_ret (pe_joined (.cons (pe_fmt (pv 1)) (.cons (pe_fmt (pe_fld (pv 0) rfl)) (.cons pe_str (.cons (pe_fmt (pe_fld (pv 0) rfl)) (.cons (pe_fmt (pv 2)) .nil))))))))), ?_⟩
    have h1 := mark_len l "[" rfl
    have h2 := mark_len r "]" rfl
    have h3 : (">" : Str).length = 1 := rfl
    refine ⟨_, rfl, a, C, dx, _, _, rfl, ha, M.cl, M.n3, e3, l, rfl, ite_tC ?_⟩
    refine ⟨_, rfl, a, C, dx, _, _, rfl, ha, M.cl, M.n4, e4, r, rfl, ite_tC ?_⟩
    unfold wr at k
    generalize (if l = true then ("[" : Str) else "") = m1 at h1 k ⊢
    generalize (if r = true then ("]" : Str) else "") = m2 at h2 k ⊢
    refine ⟨_, rfl, .inl ⟨m1, rfl, len_small (by omega), m1, rfl, ?_, ?_⟩⟩
    · rw [nil_app]; exact len_small (by omega)
    rw [nil_app]
    refine ⟨_, rfl, a, C, dx, _, _, rfl, ha, M.cl, M.n1, e1, .inl ⟨o, rfl, len_small lo, o, rfl, ?_, ?_⟩⟩
    · rw [app_len, sizeLine_eq]; omega
    refine ⟨_, rfl, ?_, ?_⟩
    · rw [app_len, app_len, sizeLine_eq, h3]; omega
    refine ⟨_, rfl, a, C, dx, _, _, rfl, ha, M.cl, M.n2, e2, .inl ⟨n, rfl, len_small ln, n, rfl, ?_, ?_⟩⟩
    · rw [app_len, app_len, app_len, sizeLine_eq, h3]; omega
    refine ⟨_, rfl, .inl ⟨m2, rfl, len_small (by omega), m2, rfl, ?_, k⟩⟩
    · rw [app_len, app_len, app_len, app_len, sizeLine_eq, h3]; omega
theorem scREq : FnScope ["self", "other", "stretches"] ["self", "other"] (defScope sREq) := ⟨rfl, rfl, rfl, by decide +kernel, rfl, by decide +kernel, by decide +kernel⟩
theorem ok_rEq {C f : Addr} {fd : FuncData} (F : L2.Fun K "__eq__" "Rule.__eq__" sREq f fd) (T : Txt mg) (M : RT K mg C) (I : InsT K C) (rk : PySem.W.kitOne K (.ref C) (.ref C) = some true) : FnOk P w K mg base CX0 1 f fd ["self", "other"] (spREq K C) := by
  refine F.ok scREq (fun vs H Q E h => ?_) (fun cdv A outer s H vs Q E hr h => ?_)
  · obtain ⟨a, y, o, n, l, r, rfl, _⟩ := h
    rfl
  · obtain ⟨a, y, o, n, l, r, rfl, ⟨dx, ha⟩, h⟩ := h
    have nd := scREq.nd
    obtain ⟨e1, e2, e3, e4⟩ := rf_lookups (.str o) (.str n) (.bl l) (.bl r)
    refine ⟨_, pss_cons (ps_if (pt_not (pt_val (bIsi (by rfl) T.isi (pv 1) (pe_glob (v := .ref C) (by rfl) M.mgC rfl)))) (pss_one (ps_ret pe_bl)) pss_nil)
      (pss_cons (ps_set (i := 2) nd rfl (.inl rfl) (pe_and (pe_cmpR op_eq (pe_fld (pv 0) rfl) (pe_fld (pv 1) rfl) (nomark _)) (pe_one (pe_cmpR op_eq (pe_fld (pv 0) rfl) (pe_fld (pv 1) rfl) (nomark _)))))
      (pss_one (ps_ret (pe_and (pv 2) (pe_and (pe_cmpR op_eq (pe_fld (pv 0) rfl) (pe_fld (pv 1) rfl) (nomark _)) (pe_one (pe_cmpR op_eq (pe_fld (pv 0) rfl) (pe_fld (pv 1) rfl) (nomark _)))))))), ?_⟩
    rcases h with ⟨b, o', n', l', r', rfl, ⟨dy, hb⟩, k⟩ | ⟨⟨t, ty, no⟩, k⟩
    · obtain ⟨d1, d2, d3, d4⟩ := rf_lookups (.str o') (.str n') (.bl l') (.bl r')
      refine ⟨_, rfl, .ref b, .ref C, _, _, true, rfl, .own C, I.ty hb, rk, true, rfl, iteF ?_⟩
      refine ⟨_, rfl, a, C, dx, _, _, rfl, ha, M.cl, M.n1, e1, _, rfl, b, C, dy, _, _, rfl, hb, M.cl, M.n1, d1, rfl, _, rfl, ?_⟩
      rw [dStr]
      cases e : decide (o = o') with
      | false => rw [e] at k; exact iteF ⟨_, rfl, false, rfl, iteF k⟩
      | true =>
        rw [e, Bool.true_and] at k
        refine iteT ⟨_, rfl, a, C, dx, _, _, rfl, ha, M.cl, M.n2, e2, _, rfl, b, C, dy, _, _, rfl, hb, M.cl, M.n2, d2, rfl, ?_⟩
        rw [dStr]
        cases e5 : decide (n = n') with
        | false => rw [e5] at k; exact ⟨_, rfl, false, rfl, iteF k⟩
        | true =>
          rw [e5, Bool.true_and] at k
          refine ⟨_, rfl, true, rfl, iteT ⟨_, rfl, a, C, dx, _, _, rfl, ha, M.cl, M.n3, e3, _, rfl, b, C, dy, _, _, rfl, hb, M.cl, M.n3, d3, rfl, _, rfl, ?_⟩⟩
          rw [dBl]
          cases e6 : decide (l = l') with
          | false => rw [e6] at k; exact iteF k
          | true =>
            rw [e6, Bool.true_and] at k
            refine iteT ⟨_, rfl, a, C, dx, _, _, rfl, ha, M.cl, M.n4, e4, _, rfl, b, C, dy, _, _, rfl, hb, M.cl, M.n4, d4, rfl, ?_⟩
            rw [dBl]
            exact k
    · exact ⟨_, rfl, y, .ref C, _, _, false, rfl, .own C, ty, no, false, rfl, iteT k⟩
end
end Kx
set_option Elab.async false
set_option maxRecDepth 100000
set_option autoImplicit false
/-! _law_letters, _law_drawn -/
namespace Kx
open PySem L2 PySem.Spec PyProof.Rows Rg Er Ru SX
abbrev sLett : Stmt := top 19
abbrev sDrawn : Stmt := top 20
theorem bListS {X : Cx} {e : Expr} {te : TE} {p pos : Pos} (hc : X.calm = true) (hg : Gl X "list") (m : X.mg "list" = none) (he : PE X e te) (na : starEach [e] X.env = (false, eval e X.env) :: starEach [] X.env := by rfl) :
    PE X (.Call (.Name "list" p) [e] [] pos) (tCB rListS (tCons te tNil)) :=
  pe_callTy (call_listS hc) hg m (by decide +kernel) (pa_cons he pa_nil na) (he := na)
def sg (d : Nat) : V := V.str ⟨#[d]⟩
def spLett : Sp := fun vs H Q _ => ∃ (c p : Addr) (n : Nat) (m : Nat), vs = [.ref p, .int m] ∧ n ≤ 900000 ∧ m ≤ 8 ∧ PenAt c n H p ∧ ∀ (z : Str) H', z.cps.toList.all isL = true → z.length = m → Ink c p (n + 12) H H' → Q (.str z) H'
def spDrawn : Sp := fun vs H Q _ => ∃ (c p : Addr) (n : Nat), vs = [.ref p] ∧ n ≤ 800000 ∧ PenAt c n H p ∧ ∀ (a : Addr) H' (o nw : Str) (l r : Bool), H a = none → lets 1 o = true → lets 0 nw = true → H' a = some (.lst [.str o, .str nw, .bl l, .bl r]) → Ink c p (n + 40) H H' → Q (.ref a) H'
theorem isLx : isL 120 = true := by decide +kernel
theorem lets_of {lo : Nat} {z : Str} (h : z.cps.toList.all isL = true) (h1 : lo ≤ z.length) (h2 : z.length ≤ 4) : lets lo z = true := by
  unfold lets
  rw [h, decide_eq_true h1, decide_eq_true h2]
  rfl
theorem Ink.freeOf {c p q : Addr} {n : Nat} {H H' : Hp} (i : Ink c p n H H') (e : H' q = none) : H q = none := by
  cases z : H q with
  | none => rfl
  | some o =>
    rw [i.1 q o (i.2.ne1 e) z] at e
    cases e
section
variable {P : Program} {w : World} {K : PySem.W.Frag} {mg : Str → Option Value} {base : Heap}
abbrev nLett : List Str := ["_law_pen_here", "_law_many", "_law_three", "_law_k"]
theorem scLett : FnScope nLett ["_law_pen_here", "_law_many"] (defScope sLett) := ⟨rfl, rfl, rfl, by decide +kernel, rfl, by decide +kernel, by decide +kernel⟩
theorem ok_lett {f f2 : Addr} {fd fd2 : FuncData} (F : L2.Fun K "_law_letters" "_law_letters" sLett f fd) (T : Txt mg)
    (G2 : FnOk P w K mg base CX0 2 f2 fd2 ["_law_pen_here", "_law_things"] spPick) (m2 : mg "_law_pick" = some (.ref f2)) (k2 : PySem.W.keepIn K (.ref f2) = true) (b2 : L2.Binds K fd2 ["_law_pen_here", "_law_things"] []) :
    FnOk P w K mg base CX0 3 f fd ["_law_pen_here", "_law_many"] spLett := by
  refine F.ok scLett (fun vs H Q E h => ?_) (fun cdv A outer s H vs Q E hr h => ?_)
  · obtain ⟨c, p, n, m, rfl, _⟩ := h
    rfl
  · obtain ⟨c, p, n, m, rfl, nb, mb, pen, k⟩ := h
    have nd := scLett.nd
    refine ⟨_, pss_cons (ps_set (i := 2) nd rfl (.inr rfl) (pe_lc (own := [("_law_k", 3)]) (g := gName 3) (tt := tYes) rfl nd (pi_range1 (by rfl) T.range (pa_cons pe_int pa_nil)) (blkOk_by (N := nLett) (sc := defScope sLett) (by decide +kernel))
          (fun _ _ _ _ _ => pg_name (i := 3) nd rfl (Or.inl rfl)) (fun _ _ _ _ _ => pts_nil) (fun _ _ _ _ _ => pe_call G2 hr (by rfl) m2 k2 b2 .nil pass0 (pa_cons (pv 0) (pa_cons (bListS rfl (by rfl) T.list pe_str) pa_nil)))))
      (pss_one (ps_ret (pe_join pe_str (pe_lc (own := [("_law_k", 3)]) (g := gName 3) (tt := tYes) rfl nd (pi_range1 (by rfl) T.range (pa_cons (pv 1) pa_nil)) (blkOk_by (N := nLett) (sc := defScope sLett) (by decide +kernel))
          (fun _ _ _ _ _ => pg_name (i := 3) nd rfl (Or.inl rfl)) (fun _ _ _ _ _ => pts_nil) (fun _ _ _ _ _ => pe_call G2 hr (by rfl) m2 k2 b2 .nil pass0 (pa_cons (pv 0) (pa_cons (pe_op op_cat (pv 2) (pe_lst (pa_cons pe_str pa_nil))) pa_nil))))))), ?_⟩
    refine ⟨3, rfl, by decide, by decide, fun D hD => ?_⟩
    have Dp := pen.ne1 hD
    refine lcGen walk_range (fun i H' acc => Ink c p (n + i) H H' ∧ ∃ cs : List Nat, acc = cs.map sg ∧ cs.all isL = true) (by rw [sizeLine_eq]; decide) ⟨(Ink.start pen).new hD, [], rfl, rfl⟩ (fun _ _ _ _ _ => trivial) (fun _ _ _ _ y => y.1) ?_ ?_
    · rintro i x H' acc Q' hi hDl hl ⟨ink, cs, rfl, sub⟩ y q
      have hi3 : i < 3 := hi
      refine ⟨_, rfl, abc, rfl, len_small (by decide), fun l hl => ⟨c, p, n + i, by omega, ink.2.new hl, .inl ⟨l, _, rfl, ink.2.ne1 hl, upd_same, by decide, by decide, fun v H4 hv pen4 x4 => ?_⟩⟩⟩
      obtain ⟨d, hd, rfl⟩ := List.mem_map.mp hv
      have hD4 : H4 D = some (.lst (cs.map sg)) := x4 _ _ Dp (by rw [upd_ne (ne_of_none hDl hl)]; exact hDl)
      refine q _ H4 hD4 ⟨Ink.putNew (n := n + (i + 1)) ⟨Ext1.trans ink.1 (Ext1.trans (Ext1.new hl) x4), pen4⟩ pen hD, cs ++ [d], by rw [List.map_append]; rfl, ?_⟩
      rw [List.all_append, sub]
      simp [isL, hd]
    · rintro H1 acc hDl hl ⟨ink, cs, rfl, sub⟩
      have hn3 : cs.length = 3 := by rw [List.length_map] at hl; exact hl
      refine ⟨⟨_, rfl⟩, _, rfl, m, rfl, by omega, by omega, fun D2 hD2 => ?_⟩
      have D2p := ink.2.ne1 hD2
      have DD : D ≠ D2 := ne_of_none hDl hD2
      have hDl2 : upd H1 D2 (.lst []) D = some (.lst (cs.map sg)) := by rw [upd_ne DD]; exact hDl
      refine lcGen walk_range (fun i H' acc => Ink c p (n + 3 + i) H1 H' ∧ H' D = some (.lst (cs.map sg)) ∧ ∃ ds : List Nat, acc = ds.map sg ∧ ds.all isL = true) (by rw [sizeLine_eq]; omega) ⟨(Ink.start ink.2).new hD2, hDl2, [], rfl, rfl⟩ (fun _ _ _ _ _ => trivial) (fun _ _ _ _ y => y.1) ?_ ?_
      · rintro i x H' acc Q' hi hD2l hl2 ⟨ink2, hD', ds, rfl, sub2⟩ y q
        have hi8 : i < m := hi
        refine ⟨_, rfl, _, rfl, by show 1 ≤ sizeLine; decide, fun l hl => ?_⟩
        refine ⟨D, l, _, _, rfl, rfl, by rw [upd_ne (ne_of_none hD' hl)]; exact hD', upd_same, by rw [List.length_map, hn3]; show 3 + 1 ≤ sizeLine; decide, fun q2 hq2 => ?_⟩
        have i3 : Ink c p (n + 3 + i) H' (upd (upd H' l (.lst [.str "x"])) q2 (.lst (cs.map sg ++ [.str "x"]))) := ((Ink.start ink2.2).new hl).new hq2
        refine ⟨c, p, n + 3 + i, by omega, i3.2, .inl ⟨q2, _, rfl, ((Ink.start ink2.2).new hl).2.ne1 hq2, upd_same, by rw [List.length_append]; show 0 < _ + 1; omega, by rw [List.length_append, List.length_map, hn3]; show 3 + 1 ≤ 1000; decide, fun v H4 hv pen4 x4 => ?_⟩⟩
        have x5 : Ext1 p H' H4 := Ext1.trans i3.1 x4
        obtain ⟨d, hd, rfl⟩ : ∃ d, isL d = true ∧ v = sg d := by
          rcases List.mem_append.mp hv with hv | hv
          · obtain ⟨d, hd, rfl⟩ := List.mem_map.mp hv
            exact ⟨d, List.all_eq_true.mp sub d hd, rfl⟩
          · rw [List.mem_singleton.mp hv]
            exact ⟨120, isLx, rfl⟩
        refine q _ H4 (x5 _ _ D2p hD2l) ⟨Ink.putNew (n := n + 3 + (i + 1)) ⟨Ext1.trans ink2.1 x5, pen4⟩ ink.2 hD2, ?_, ds ++ [d], by rw [List.map_append]; rfl, ?_⟩
        · rw [upd_ne DD]; exact x5 _ _ Dp hD'
        · rw [List.all_append, sub2]; simp [hd]
      · rintro H2 acc hD2l hl2 ⟨ink2, hD', ds, rfl, sub2⟩
        have hm : ds.length = m := by rw [List.length_map] at hl2; exact hl2
        refine ⟨_, D2, ds.map fun d => ⟨#[d]⟩, rfl, rfl, .inl (SqL.of (by rw [List.map_map]; exact hD2l)), ?_, ?_⟩
        · rw [sum_one, List.length_map]
          show ds.length + ds.length * 0 ≤ 16777216
          omega
        · rw [join_one]
          exact k _ _ (by simpa using sub2) (by show ds.toArray.size = m; rw [List.size_toArray]; exact hm) ⟨Ext1.trans ink.1 ink2.1, ink2.2.mono (by omega)⟩
abbrev nDrawn : List Str := ["_law_pen_here", "_law_early", "_law_later"]
theorem scDrawn : FnScope nDrawn ["_law_pen_here"] (defScope sDrawn) := ⟨rfl, rfl, rfl, by decide +kernel, rfl, by decide +kernel, by decide +kernel⟩
theorem ok_drawn {f f1 f2 f3 : Addr} {fd fd1 fd2 fd3 : FuncData} (F : L2.Fun K "_law_drawn" "_law_drawn" sDrawn f fd)
    (G1 : FnOk P w K mg base CX0 1 f1 fd1 ["_law_pen_here", "_law_many"] spDraw) (m1 : mg "_law_draw" = some (.ref f1)) (k1 : PySem.W.keepIn K (.ref f1) = true) (b1 : L2.Binds K fd1 ["_law_pen_here", "_law_many"] [])
    (G2 : FnOk P w K mg base CX0 2 f2 fd2 ["_law_pen_here", "_law_things"] spPick) (m2 : mg "_law_pick" = some (.ref f2)) (k2 : PySem.W.keepIn K (.ref f2) = true) (b2 : L2.Binds K fd2 ["_law_pen_here", "_law_things"] [])
    (G3 : FnOk P w K mg base CX0 3 f3 fd3 ["_law_pen_here", "_law_many"] spLett) (m3 : mg "_law_letters" = some (.ref f3)) (k3 : PySem.W.keepIn K (.ref f3) = true) (b3 : L2.Binds K fd3 ["_law_pen_here", "_law_many"] []) :
    FnOk P w K mg base CX0 4 f fd ["_law_pen_here"] spDrawn := by
  refine F.ok scDrawn (fun vs H Q E h => ?_) (fun cdv A outer s H vs Q E hr h => ?_)
  · obtain ⟨c, p, n, rfl, _⟩ := h
    rfl
  · obtain ⟨c, p, n, rfl, nb, pen, k⟩ := h
    have nd := scDrawn.nd
    have hr1 := hr.mono (show 1 ≤ 3 by decide)
    have hr2 := hr.mono (show 2 ≤ 3 by decide)
    refine ⟨_, pss_cons (ps_set (i := 1) nd rfl (.inl rfl) (pe_call G3 hr (by rfl) m3 k3 b3 .nil pass0 (pa_cons (pv 0) (pa_cons (pe_op op_add pe_int (pe_call G1 hr1 (by rfl) m1 k1 b1 .nil pass0 (pa_cons (pv 0) (pa_cons pe_int pa_nil)))) pa_nil))))
      (pss_cons (ps_set (i := 2) nd rfl (.inl rfl) (pe_call G3 hr (by rfl) m3 k3 b3 .nil pass0 (pa_cons (pv 0) (pa_cons (pe_call G1 hr1 (by rfl) m1 k1 b1 .nil pass0 (pa_cons (pv 0) (pa_cons pe_int pa_nil))) pa_nil))))
      (pss_one (ps_ret (pe_lst (pa_cons (pv 1) (pa_cons (pe_call G2 hr2 (by rfl) m2 k2 b2 .nil pass0 (pa_cons (pv 0) (pa_cons (pe_lst (pa_cons (pv 2) (pa_cons (pv 2) (pa_cons (pv 1) pa_nil)))) pa_nil)))
        (pa_cons (pe_cmpR op_eq (pe_call G1 hr1 (by rfl) m1 k1 b1 .nil pass0 (pa_cons (pv 0) (pa_cons pe_int pa_nil))) pe_int (nomark _)) (pa_cons (pe_cmpR op_eq (pe_call G1 hr1 (by rfl) m1 k1 b1 .nil pass0 (pa_cons (pv 0) (pa_cons pe_int pa_nil))) pe_int (nomark _)) pa_nil)))))))), ?_⟩
    refine ⟨_, rfl, _, rfl, c, p, 4, n, rfl, by decide, by decide, by omega, pen, fun r1 H1 r0 r4 pen1 x1 => ?_⟩
    have i1 : Ink c p (n + 1) H H1 := ⟨x1, pen1⟩
    refine ⟨_, _, rfl, rfl, c, p, n + 1, (1 + r1).toNat, by rw [show ((1 + r1).toNat : Int) = 1 + r1 from by omega]; rfl, by omega, by omega, pen1, fun z1 H2 a1 l1 j2 => ?_⟩
    have i2 := Ink.trans i1 j2
    refine ⟨_, rfl, _, rfl, c, p, 5, n + 13, rfl, by decide, by decide, by omega, i2.2.mono (by omega), fun r2 H3 q0 q5 pen3 x3 => ?_⟩
    have i3 : Ink c p (n + 14) H H3 := ⟨Ext1.trans i2.1 x3, pen3⟩
    refine ⟨c, p, n + 14, r2.toNat, by rw [show (r2.toNat : Int) = r2 from by omega]; rfl, by omega, by omega, pen3, fun z2 H4 a2 l2 j4 => ?_⟩
    have i4 := Ink.trans i3 j4
    refine ⟨_, rfl, _, rfl, _, rfl, _, rfl, _, rfl, by show 3 ≤ sizeLine; decide, fun q hq => ?_⟩
    have i5 := i4.new (o := .lst [.str z2, .str z2, .str z1]) hq
    refine ⟨c, p, n + 26, by omega, i5.2.mono (by omega), .inl ⟨q, _, rfl, i4.2.ne1 hq, upd_same, by show 0 < 3; decide, by show 3 ≤ 1000; decide, fun v H6 hv pen6 x6 => ?_⟩⟩
    have i6 : Ink c p (n + 27) H H6 := ⟨Ext1.trans i5.1 x6, pen6⟩
    obtain ⟨nw, rfl, hnw⟩ : ∃ nw : Str, v = .str nw ∧ lets 0 nw = true := by
      simp only [List.mem_cons, List.not_mem_nil, or_false] at hv
      rcases hv with rfl | rfl | rfl
      · exact ⟨z2, rfl, lets_of a2 (Nat.zero_le _) (by omega)⟩
      · exact ⟨z2, rfl, lets_of a2 (Nat.zero_le _) (by omega)⟩
      · exact ⟨z1, rfl, lets_of a1 (Nat.zero_le _) (by omega)⟩
    refine ⟨_, rfl, c, p, 2, n + 27, rfl, by decide, by decide, by omega, pen6, fun r5 H7 _ _ pen7 x7 => ?_⟩
    refine ⟨rfl, _, rfl, c, p, 2, n + 28, rfl, by decide, by decide, by omega, pen7, fun r6 H8 _ _ pen8 x8 => ?_⟩
    have i8 : Ink c p (n + 29) H H8 := ⟨Ext1.trans i6.1 (Ext1.trans x7 x8), pen8⟩
    refine ⟨rfl, by show 4 ≤ sizeLine; decide, fun a ha => ?_⟩
    exact k a _ z1 nw _ _ (i8.freeOf ha) (lets_of a1 (by omega) (by omega)) hnw upd_same ((i8.new ha).mono (by omega))
end
end Kx
set_option Elab.async false
set_option maxRecDepth 100000
set_option autoImplicit false
/-! try: .. except G as n: y = e -/
namespace Er
open PySem L2 PySem.Spec PyProof.Rows PySem.Calls
/-- what 'except G as n: y = e' wishes of an error of the body: i is n's slot, j is y's -/
def wVal (K : PySem.W.Frag) (c : Value) (i j m : Nat) (te : Addr → Value → Option Addr → TE) (Wout : WX) (D : Ends) : WX := fun cls d σ H =>
  ∃ b, PySem.W.exmOne K cls c = some b ∧ (b = true → σ.length = m → ∀ a, H a = none → te a cls d (σ.set i (some (.ref a))) H (fun v H' => D.nx (((σ.set i (some (.ref a))).set j (some v)).set i none) H')) ∧ (b = false → Wout cls d σ H)
section
variable {X : Cx} {x n y : Str} {c : Value} {i j : Nat} {body : List Stmt} {e₀ : Expr} {te : Addr → Value → Option Addr → TE} {np yp sp pos pos' : Pos} {tb : WX → TS} {Wout : WX}
theorem ps_try_val (hs : X.stack = X.env :: X.outer) (hf : X.env.frame = some X.env.locals) (hex : X.ex = []) (hN : X.N.Nodup) (hi : X.N[i]? = some n) (hj : X.N[j]? = some y) (hln : X.env.kindOf n = some .local) (hly : X.env.kindOf y = some .local) (hc : Names X x c) (tk : Takes X Wout)
    (hsw : swapsWith e₀ (some (.Name y yp)) sp.line X.env = pure false)
    (he : ∀ (a : Addr) (oe : Obj) (cls : Value) (d : Option Addr) (pn : List (Addr × Obj)), Zc cls d oe → (∃ vs, oe.data = .fields vs) → PE (X.suite a ((a, oe) :: pn)) e₀ (te a cls d))
    (hb : ∀ (W : WX) (pn : List (Addr × Obj)) (xe : Value → Shared → Prop), Takes (X.tr pn xe) W → PassesOwn (model X.prog X.w) X.A X.env xe → PSs (X.tr pn xe) body (tb W)) :
    PS X (.Try body [.ExceptHandler (some (.Name x np)) (some n) [.Assign [.Name y yp] e₀ sp] pos'] [] [] pos) (fun D σ H => tb (wVal X.K c i j X.N.length te Wout D) D σ H) := by
  constructor
  intro pins s σ H D I h
  have fine := I.ok
  have frames : X.A.frames = some (X.env :: X.outer) := fine.frames.trans (congrArg some hs)
  have run := (hb (wVal X.K c i j X.N.length te Wout D) (X.pn ++ pins) (fun e s₁ => wpAny (model X.prog X.w) X.A (noteFrame e X.env) (fun _ s₂ => wpAny (model X.prog X.w) X.A (setFlight e none) (fun _ s₃ =>
    wpAny (model X.prog X.w) X.A (handleBy e X.env [.ExceptHandler (some (.Name x np)) (some n) [.Assign [.Name y yp] e₀ sp] pos']) (SP X pins D) X.xe s₃) X.xe s₂) X.xe s₁) ?hit PassesOwn.looking).run [] s σ H D (I.toTry _) h
  case hit =>
    rintro u s' ⟨a, B, sI, pins1, σ1, H1, cls, d, rfl, J0, ground, up0, sky0, na, os, ag, b, test, yes, no⟩
    have J : Inv X pins σ1 H1 sI := J0.ofTry fine
    have sky : Sky B (X.env :: X.outer) a (Zc cls d) X.env.locals s'.heap := hs ▸ sky0
    show wpAny (model X.prog X.w) X.A (noteFrame (.ref a) X.env) _ _ _
    refine Sky.land Zc.steady frames hf sky fun g3 fly3 up3 => ?_
    have J3 : Inv X pins σ1 H1 { s' with heap := g3 } := J.landed ground fly3.1 (up0.trans up3) os ag
    obtain ⟨o3, v3, e3, z3, d3⟩ := fly3.there
    have away : a ∉ frs (X.env :: X.outer) := fun mem => by
      obtain ⟨_, o, e, no_⟩ := fly3.2.2.1.mem mem
      rw [e3] at e; cases e
      exact no_ _ d3
    have awayL : a ≠ X.env.locals := fun z => away (List.mem_filterMap.mpr ⟨X.env, List.mem_cons_self, hf.trans (congrArg some z.symm)⟩)
    have awayF : a ∉ X.fs := fun mem => by
      obtain ⟨e, m1, m2⟩ := List.mem_filterMap.mp mem
      exact away (List.mem_filterMap.mpr ⟨e, List.mem_cons_of_mem _ m1, m2⟩)
    -- the error is younger than the entry
    have young : sI.heap.get? a = none := by
      cases q : sI.heap.get? a with
      | none => rfl
      | some o =>
        have qB := ground a o q (by rw [hs]; exact away)
        rw [fly3.2.1] at qB; cases qB
    have entry : X.s_0.heap.get? a = none := by
      cases q : X.s_0.heap.get? a with
      | none => rfl
      | some o =>
        obtain ⟨o', q'⟩ := J.base.there a o q (by rw [hex]; exact List.not_mem_nil)
        rw [young] at q'; cases q'
    have apart : ∀ p ∈ X.pn ++ pins, p.1 ≠ a := fun p hp z => by
      have q := (J.pin p hp).1
      rw [z, young] at q; cases q
    have S3 := J3.suite e3 d3 na awayL awayF
    refine wpAny_handleBy_cons (codeAny_handlers_test ?_) (by intro q; cases q)
    have LT : PySem.W.Looks (model X.prog X.w) g3 (typeOf (.ref a)) cls := fun _ _ _ _ k q => wpAny_typeOf_ref (k _ _ e3) (by rw [z3.1]; exact q)
    have LM := PySem.W.exm_one (M := model X.prog X.w) J3.kIn LT test
    have named : ∀ {Q : Value → Shared → Prop} {E : Value → Shared → Prop}, Q c { s' with heap := g3 } → wpAny (model X.prog X.w) (X.A.mark (some (.ref a))) (eval (.Name x np) X.env) Q E { s' with heap := g3 } := fun {Q E} q => by
      rcases hc with ⟨hg, hdbg, hm | ⟨hm, hv, hnn⟩⟩
      · exact ld_glob (X := X.suite a ((a, o3) :: (X.pn ++ pins))) S3 hg hm q hdbg
      · exact ld_blt (X := X.suite a ((a, o3) :: (X.pn ++ pins))) S3 hg hm hv q hnn hdbg
    refine named (LM.here ?_)
    cases b with
    | true =>
      refine codeAny_handlers_suite_as (HandSPX.lands_againZ fly3 fun g4 fly4 up4 => ?_)
      have J4 : Inv X pins σ1 H1 { s' with heap := g4 } := J.landed ground fly4.1 ((up0.trans up3).trans up4) os ag
      obtain ⟨o4, v4, e4, z4, d4⟩ := fly4.there
      have S4 := J4.suite e4 d4 na awayL awayF
      refine store_ok (X := X.suite a ((a, o4) :: (X.pn ++ pins))) (v := .ref a) S4 hN hi (.inl hln) rfl (fun s5 S5 => ?_) (.inr hln)
      have one := pss_one (X := X.suite a ((a, o4) :: (X.pn ++ pins))) (ps_set (pos := sp) (pos' := yp) (i := j) hN hj (.inl hly) (he a o4 cls d (X.pn ++ pins) z4 ⟨v4, d4⟩) hsw (.inr hly))
      refine wpAny_mono (one.run [] s5 _ H1 { nx := fun σ' H' => D.nx (σ'.set i none) H', rt := fun _ _ => False } S5 (yes rfl S4.len a na)) (fun fl s6 got => ?_) (fun _ _ z => False.elim z)
      cases fl with
      | next =>
        obtain ⟨_, _, S6, q6⟩ := got
        exact gone_ok (S6.unsuite fine) hN hi hln fun s7 J7 => ⟨_, _, J7, q6⟩
      | ret u => obtain ⟨_, _, _, _, _, z⟩ := got; exact z.elim
      | brk => obtain ⟨_, _, _, z⟩ := got; exact z.elim
      | cont => obtain ⟨_, _, _, z⟩ := got; exact z.elim
    | false =>
      show wpAny (model X.prog X.w) X.A (handleBy (.ref a) X.env []) _ _ _
      refine wpAny_handleBy_nil ?_
      obtain ⟨_, _, _, oe, vs, T, oT, us, q1, q2, q3, q4, q5⟩ := id fly3
      unfold PySem.passOn
      refine wpAny_bind (wpAny_field q1 q3 q4 ?_)
      rw [if_neg (by simp)]
      have out : wpAny (model X.prog X.w) X.A (setFlight (.ref a) X.env.frame) (fun _ s4 => wpAny (model X.prog X.w) X.A (throw (.ref a) : Sem Flow) (SP X pins D) X.xe s4) X.xe { s' with heap := g3 } := by
        rw [hf]
        exact HandSPX.setFlight_upZ fly3 fun g4 held up4 => wpAny_throw (tk _ _ ⟨a, B, sI, pins, σ1, H1, cls, d, rfl, J, ground, (up0.trans up3).trans up4, .inr (.inr (by rw [hs]; exact held)), na, os, ag, no rfl⟩)
      first
        | exact wpAny_bind (wpAny_pure (wpAny_bind out))
        | exact wpAny_bind out
  refine wpAny_Try_except (wpAny_mono run (fun f s1 got => ?_) fun e s1 he => he)
  cases f with
  | next => obtain ⟨σ', H', J', q⟩ := got; exact wpAny_execs_nil ⟨σ', H', J'.ofTry fine, q⟩
  | brk => obtain ⟨σ', H', J', q⟩ := got; exact ⟨σ', H', J'.ofTry fine, q⟩
  | cont => obtain ⟨σ', H', J', q⟩ := got; exact ⟨σ', H', J'.ofTry fine, q⟩
  | ret u => obtain ⟨v, σ', H', J', r, q⟩ := got; exact ⟨v, σ', H', J'.ofTry fine, r, q⟩
end
end Er
set_option Elab.async false
set_option maxRecDepth 100000
set_option autoImplicit false
/-! _law_is_stretch, _law_due -/
namespace Kx
open PySem L2 PySem.Spec PyProof.Rows Rg Er Ru SX
abbrev sStretch : Stmt := top 21
abbrev sDue : Stmt := top 22
/-- a comprehension with a condition, by an invariant -/
theorem lcSel {J : It} {n : Nat} {G : Hp → Prop} {Y : Nat → Hp → V → Hp → Prop} (w : Walk J n G Y) {v : Nat} {tt : TT} {te : TE} {σ : L2.St} {H1 : Hp} {D : Addr} {Qd : Hp → Prop} (Iv : Nat → Hp → List V → Prop) (hn : n < sizeLine)
    (h0 : Iv 0 (upd H1 D (.lst [])) []) (hG : ∀ i H' acc, i ≤ n → Iv i H' acc → G H') (hY : ∀ i H' x H2, Y i H' x H2 → H2 = H')
    (el : ∀ i x H' acc (Q : VK) (Qf : Hp → Prop), i < n → H' D = some (.lst acc) → acc.length ≤ i → Iv i H' acc → Y i H' x H' → (∀ y H4, H4 D = some (.lst acc) → Iv (i + 1) (upd H4 D (.lst (acc ++ [y]))) (acc ++ [y]) → Q y H4) → (∀ H3, H3 D = some (.lst acc) → Iv (i + 1) H3 acc → Qf H3) →
      tt ((wipe σ [v]).set v (some x)) H' fun b H3 => if b = true then te ((wipe σ [v]).set v (some x)) H3 Q else Qf H3)
    (hd : ∀ H' acc, H' D = some (.lst acc) → acc.length ≤ n → Iv n H' acc → Qd H') :
    ∃ W : Nat → Nat → Hp → Prop, (∃ m, W 0 m (upd H1 D (.lst []))) ∧ ∀ i m H, W i m H →
      (J.stop i H ∧ Qd H) ∨ (J.go i H ∧ ∃ Nx : Hp → Prop, (∀ H', Nx H' → ∃ m', m' < m ∧ W (i + 1) m' H') ∧ ∀ x H', J.yld i H x H' → gName v x (wipe σ [v]) H' fun σ2 H2 => wipe σ2 [v] = wipe σ [v] ∧ tt σ2 H2 fun b H3 =>
        if b = true then te σ2 H3 fun y H4 => ∃ acc, H4 D = some (.lst acc) ∧ acc.length < sizeLine ∧ Nx (upd H4 D (.lst (acc ++ [y]))) else Nx H3) := by
  refine lc_it w (fun i H' => ∃ acc, H' D = some (.lst acc) ∧ acc.length ≤ i ∧ Iv i H' acc) ⟨[], upd_same, Nat.le_refl _, h0⟩ (fun i H' hi ⟨acc, _, _, q⟩ => hG i H' acc hi q) ?_ fun H' ⟨acc, q1, q2, q3⟩ => hd H' acc q1 q2 q3
  rintro i x H' H2 hi ⟨acc, ha, hl, iv⟩ y
  obtain rfl := hY _ _ _ _ y
  refine ⟨wipe1 σ v x, ?_⟩
  exact el i x H2 acc _ _ hi ha hl iv y (fun y H4 h4 i4 => ⟨acc, h4, by omega, _, upd_same, by simp; omega, i4⟩) (fun H3 h3 i3 => ⟨acc, h3, by omega, i3⟩)

def spStretch (K : PySem.W.Frag) : Sp := fun vs H Q _ => ∃ (x : V) (lo : Nat) (b : Bool), vs = [x, .int lo] ∧ Tx K lo H x b ∧ (∀ wd : Str, x = .str wd → PyData.strOk wd = true) ∧ ∀ H', Same H H' → Q (.bl b) H'
theorem dpSigns (K : PySem.W.Frag) (H : Hp) : ∀ cs : List Nat, DpAll K H (cs.map sg) (cs.map fun d => PyData.str ⟨#[d]⟩)
  | [] => .nil
  | _ :: r => .cons (.str _) (dpSigns K H r)
theorem laySigns : ∀ cs : List Nat, cs.all (fun c => decide (c < 0x110000)) = true → PyData.canLayAll0 (cs.map fun d => PyData.str ⟨#[d]⟩) = true ∧ PyData.depthAll (cs.map fun d => PyData.str ⟨#[d]⟩) = 0
  | [], _ => ⟨rfl, rfl⟩
  | c :: r, h => by
    rw [List.all_cons, Bool.and_eq_true] at h
    obtain ⟨a, b⟩ := laySigns r h.2
    refine ⟨?_, ?_⟩
    · simp only [List.map_cons, PyData.canLayAll0, PyData.canLay0, a, Bool.and_true]
      simpa [PyData.strOk] using h.1
    · show max 0 (PyData.depthAll (r.map fun d => PyData.str ⟨#[d]⟩)) = 0
      rw [b] <;> rfl
theorem shapedSigns (cs : List Nat) (h : cs.all (fun c => decide (c < 0x110000)) = true) : SeqAt.shaped (.list (cs.map fun d => PyData.str ⟨#[d]⟩)) = true := by
  show (PyData.canLayAll0 _ && decide (PyData.depthAll _ + 1 ≤ 64)) = true
  rw [(laySigns cs h).1, (laySigns cs h).2] <;> rfl
theorem okSigns {wd : Str} (h : PyData.strOk wd = true) : wd.cps.toList.all (fun c => decide (c < 0x110000)) = true := by
  unfold PyData.strOk at h
  rw [← Array.all_toList] at h
  exact h
theorem filtOk {L : List Nat} {p : Nat → Bool} (h : L.all (fun c => decide (c < 0x110000)) = true) : (L.filter p).all (fun c => decide (c < 0x110000)) = true := by
  rw [List.all_eq_true] at h ⊢
  intro c hc
  exact h c (List.mem_filter.mp hc).1
theorem eqv_nilL (ds : List PyData) : PyData.eqv (.list ds) (.list []) = ds.isEmpty := by
  cases ds with
  | nil => rfl
  | cons a t => rfl
theorem filt_all : ∀ L : List Nat, (((L.filter fun c => !isL c).map fun d => PyData.str ⟨#[d]⟩).isEmpty) = L.all isL
  | [] => rfl
  | c :: r => by
    cases e : isL c with
    | true => simp [List.filter_cons, e]; simpa using filt_all r
    | false => simp [List.filter_cons, e]
section
variable {P : Program} {w : World} {K : PySem.W.Frag} {mg : Str → Option Value} {base : Heap}
abbrev nStretch : List Str := ["_law_thing", "_law_shortest", "_law_letter"]
theorem scStretch : FnScope nStretch ["_law_thing", "_law_shortest"] (defScope sStretch) := ⟨rfl, rfl, rfl, by decide +kernel, rfl, by decide +kernel, by decide +kernel⟩
theorem ok_stretch {f : Addr} {fd : FuncData} (F : L2.Fun K "_law_is_stretch" "_law_is_stretch" sStretch f fd) (T : Txt mg) (mS : mg "str" = none) : FnOk P w K mg base CX0 1 f fd ["_law_thing", "_law_shortest"] (spStretch K) := by
  refine F.ok scStretch (fun vs H Q E h => ?_) (fun cdv A outer s H vs Q E hr h => ?_)
  · obtain ⟨x, lo, b, rfl, _⟩ := h
    rfl
  · obtain ⟨x, lo, b, rfl, how, okx, k⟩ := h
    have nd := scStretch.nd
    refine ⟨_, pss_cons (ps_if (PW.pt (pw_or (pt_not (pt_val (bIsi (by rfl) T.isi (pv 0) (pe_bltn (v := .ty "str") (by rfl) mS (by decide +kernel) rfl)))) (pw_or1 (pt_not (pt_chain op_le op_le (pv 1) (bLen (by rfl) T.len (pv 0)) pe_int))))) (pss_one (ps_ret pe_bl)) pss_nil)
      (pss_one (ps_ret (pe_cmpR (op_eqD hr.units) (pe_lc (own := [("_law_letter", 2)]) (g := gName 2) (te := tVar 2) rfl nd (pi_str (pv 0)) (blkOk_by (N := nStretch) (sc := defScope sStretch) (by decide +kernel))
        (fun _ _ _ _ _ => pg_name (i := 2) nd rfl (Or.inl rfl)) (fun _ _ _ _ _ => pts_one (pt_cmpR op_notin_str (pv 2) pe_str rfl)) (fun _ _ _ _ _ => pv 2)) (pe_lst pa_nil) (nomark _)))), ?_⟩
    rcases how with ⟨wd, rfl, few, rfl⟩ | ⟨rfl, t, ty, no⟩
    · refine ⟨_, rfl, .str wd, .ty "str", _, _, true, rfl, .ty "str", .base (.str wd), kit_ty (by decide +kernel), true, rfl, ?_⟩
      refine iteF ⟨_, rfl, _, rfl, _, wd.length, rfl, ⟨len_small (by omega), rfl⟩, _, _, rfl, rfl, _, rfl, ?_⟩
      unfold lets at k
      by_cases h1 : lo ≤ wd.length
      · rw [if_pos (decide_eq_true (by omega))]
        rw [decide_eq_true h1, Bool.true_and] at k
        by_cases h2 : wd.length ≤ 4
        · refine ⟨_, _, rfl, rfl, _, rfl, ?_⟩
          rw [decide_eq_true (show (wd.length : Int) ≤ 4 by omega)]
          refine iteF ?_
          rw [decide_eq_true h2, Bool.true_and] at k
          refine ⟨_, rfl, wd, rfl, fun D hD => ?_⟩
          refine lcSel walk_str (fun i H' acc => Same H H' ∧ acc = ((wd.cps.toList.take i).filter fun c => !isL c).map sg) (by rw [sizeLine_eq]; show wd.length < _; omega) ⟨Same.new hD, by simp⟩ (fun _ _ _ _ _ => trivial) (fun _ _ _ _ y => y.1) ?_ ?_
          · rintro i x H' acc Q' Qf hi hDl hl ⟨s1, rfl⟩ ⟨_, c, hc, rfl⟩ q qf
            have hc' : wd.cps.toList[i]? = some c := by rw [Array.getElem?_toList]; exact hc
            have et : wd.cps.toList.take (i + 1) = wd.cps.toList.take i ++ [c] := by rw [List.take_add_one, hc']; rfl
            refine ⟨_, rfl, _, _, rfl, rfl, _, rfl, ?_⟩
            rw [show (!(Builtin.Str.occurrences ("abcdefghijklmnopqrstuvwxyz" : Str) ⟨#[c]⟩ 0 ("abcdefghijklmnopqrstuvwxyz" : Str).length 1).isEmpty) = isL c from StrLaws.found_one abc c]
            cases e : isL c with
            | true => exact iteF (qf _ hDl ⟨s1, by rw [et, List.filter_append]; simp [e]⟩)
            | false =>
              refine iteT ⟨_, rfl, q _ _ hDl ⟨Same.putNew hD s1, ?_⟩⟩
              rw [et, List.filter_append, List.map_append]
              simp [e, sg]
          · rintro H1 acc hDl hl ⟨s1, rfl⟩
            refine ⟨Nat.zero_le _, fun q hq => ?_⟩
            have e5 : wd.cps.toList.take wd.cps.size = wd.cps.toList := by rw [List.take_of_length_le]; simp
            rw [e5] at hDl
            have s2 : Same H1 (upd H1 q (.lst [])) := Same.new hq
            refine ⟨_, .list [], .lst (SqL.of (s2 _ _ hDl)) (dpSigns _ _ _), .lst (SqL.of upd_same) .nil, shapedSigns _ (filtOk (okSigns (okx wd rfl))), rfl, ?_⟩
            rw [eqv_nilL, filt_all]
            exact k _ (Same.trans s1 s2)
        · refine ⟨_, _, rfl, rfl, _, rfl, ?_⟩
          rw [decide_eq_false (show ¬ (wd.length : Int) ≤ 4 by omega)]
          rw [decide_eq_false h2, Bool.false_and] at k
          exact iteT (k H (Same.refl H))
      · rw [decide_eq_false h1, Bool.false_and, Bool.false_and] at k
        have e : decide ((lo : Int) ≤ (wd.length : Int)) = false := decide_eq_false (by omega)
        rw [e]
        exact iteF ⟨_, rfl, iteT (k H (Same.refl H))⟩
    · exact ⟨_, rfl, x, .ty "str", _, _, false, rfl, .ty "str", ty, no, false, rfl, iteT (k H (Same.refl H))⟩
end
end Kx
set_option Elab.async false
set_option maxRecDepth 100000
set_option autoImplicit false
/-! _law_due -/
namespace Kx
open PySem L2 PySem.Spec PyProof.Rows Rg Er Ru SX
def dueV : Option Str → V
  | none => .non
  | some z => .str z
/-- lists stay lists, tuples stay tuples -/
structure KeepL (H H' : Hp) : Prop where
  l : ∀ q xs, H q = some (.lst xs) → ∃ ys, H' q = some (.lst ys)
  t : ∀ q xs, H q = some (.tup xs) → ∃ ys, H' q = some (.tup ys)
theorem Same.keepL {H H' : Hp} (e : Same H H') : KeepL H H' := ⟨fun q xs h => ⟨xs, e _ _ h⟩, fun q xs h => ⟨xs, e _ _ h⟩⟩
theorem KeepL.trans {H H1 H2 : Hp} (a : KeepL H H1) (b : KeepL H1 H2) : KeepL H H2 := ⟨fun q xs h => let ⟨_, h1⟩ := a.l q xs h; b.l q _ h1, fun q xs h => let ⟨_, h1⟩ := a.t q xs h; b.t q _ h1⟩
theorem KeepL.put {H : Hp} {q : Addr} {xs ys : List V} (h : H q = some (.lst xs)) : KeepL H (upd H q (.lst ys)) := by
  refine ⟨fun a zs e => ?_, fun a zs e => ?_⟩
  · by_cases z : a = q
    · subst z; exact ⟨ys, upd_same⟩
    · exact ⟨zs, by rw [upd_ne z]; exact e⟩
  · have z : a ≠ q := by rintro rfl; rw [h] at e; cases e
    exact ⟨zs, by rw [upd_ne z]; exact e⟩
theorem Ink.keepL {c p : Addr} {n m : Nat} {H H' : Hp} (pen : PenAt c m H p) (i : Ink c p n H H') : KeepL H H' := by
  obtain ⟨ns, a, g, h1, _⟩ := pen
  obtain ⟨ns', a', g', h1', _⟩ := i.2
  refine ⟨fun q xs e => ?_, fun q xs e => ?_⟩
  · by_cases z : q = p
    · subst z; exact ⟨_, h1'⟩
    · exact ⟨xs, i.1 _ _ z e⟩
  · have z : q ≠ p := by rintro rfl; rw [h1] at e; cases e
    exact ⟨xs, i.1 _ _ z e⟩
/-- no text, no truth: None, a number, a list, a tuple -/
inductive Plain (H : Hp) : V → Prop
  | non : Plain H .non
  | int (i) : Plain H (.int i)
  | lst {q xs} : H q = some (.lst xs) → Plain H (.ref q)
  | tup {q xs} : H q = some (.tup xs) → Plain H (.ref q)
theorem Plain.keep {H H' : Hp} {x : V} (h : Plain H x) (e : KeepL H H') : Plain H' x := by
  cases h with
  | non => exact .non
  | int i => exact .int i
  | lst h => obtain ⟨ys, h'⟩ := e.l _ _ h; exact .lst h'
  | tup h => obtain ⟨ys, h'⟩ := e.t _ _ h; exact .tup h'
theorem Plain.ty {K : PySem.W.Frag} {H : Hp} {x : V} (h : Plain H x) : ∃ t, TyX K H x t ∧ PySem.W.kitOne K t (.type "str") = some false ∧ PySem.W.kitOne K t (.type "bool") = some false := by
  cases h with
  | non => exact ⟨_, .base .non, kit_ty (by decide +kernel), kit_ty (by decide +kernel)⟩
  | int i => exact ⟨_, .base (.int i), kit_ty (by decide +kernel), kit_ty (by decide +kernel)⟩
  | lst h => exact ⟨_, .base (.lst h), kit_ty (by decide +kernel), kit_ty (by decide +kernel)⟩
  | tup h => exact ⟨_, .base (.tup h), kit_ty (by decide +kernel), kit_ty (by decide +kernel)⟩
/-- a part that should be a stretch -/
def TxP (lo : Nat) (H : Hp) (x : V) (b : Bool) : Prop := (∃ wd : Str, x = .str wd ∧ wd.length ≤ 1000 ∧ PyData.strOk wd = true ∧ b = lets lo wd) ∨ (b = false ∧ ((∃ t, x = .bl t) ∨ Plain H x))
/-- a part that should be a truth -/
def TbP (H : Hp) (x : V) (b : Bool) : Prop := (∃ t, x = .bl t ∧ b = true) ∨ (b = false ∧ ((∃ z, x = .str z) ∨ Plain H x))
theorem TxP.tx {K : PySem.W.Frag} {lo : Nat} {H : Hp} {x : V} {b : Bool} (h : TxP lo H x b) : Tx K lo H x b := by
  rcases h with ⟨wd, rfl, l, _, e⟩ | ⟨e, ⟨t, rfl⟩ | h⟩
  · exact .inl ⟨wd, rfl, l, e⟩
  · exact .inr ⟨e, _, .base (.bl t), kit_ty (by decide +kernel)⟩
  · obtain ⟨t, ty, n1, _⟩ := h.ty (K := K)
    exact .inr ⟨e, t, ty, n1⟩
theorem TxP.ok {lo : Nat} {H : Hp} {x : V} {b : Bool} (h : TxP lo H x b) : ∀ wd : Str, x = .str wd → PyData.strOk wd = true := by
  rintro wd rfl
  rcases h with ⟨wd', e, _, o, _⟩ | ⟨_, ⟨t, e⟩ | h⟩
  · cases e; exact o
  · cases e
  · cases h
theorem TxP.keep {lo : Nat} {H H' : Hp} {x : V} {b : Bool} (h : TxP lo H x b) (e : KeepL H H') : TxP lo H' x b := h.imp id fun q => ⟨q.1, q.2.imp id fun z => z.keep e⟩
theorem TbP.tb {K : PySem.W.Frag} {H : Hp} {x : V} {b : Bool} (h : TbP H x b) : Tb K H x b := by
  rcases h with ⟨t, rfl, rfl⟩ | ⟨rfl, ⟨t, rfl⟩ | h⟩
  · exact tb_bl t
  · exact ⟨_, .base (.str t), kit_ty (by decide +kernel)⟩
  · obtain ⟨t, ty, _, n2⟩ := h.ty (K := K)
    exact ⟨t, ty, n2⟩
theorem TbP.keep {H H' : Hp} {x : V} {b : Bool} (h : TbP H x b) (e : KeepL H H') : TbP H' x b := h.imp id fun q => ⟨q.1, q.2.imp id fun z => z.keep e⟩
/-- what is known of four parts -/
structure Four (H : Hp) (x y u v : V) (a b c d : Bool) : Prop where
  fx : TxP 1 H x a
  fy : TxP 0 H y b
  fu : TbP H u c
  fv : TbP H v d
theorem Four.keep {H H1 : Hp} {x y u v : V} {a b c d : Bool} (h : Four H x y u v a b c d) (e : KeepL H H1) : Four H1 x y u v a b c d := ⟨h.fx.keep e, h.fy.keep e, h.fu.keep e, h.fv.keep e⟩
def spDue : Sp := fun vs H Q _ => ∃ (l : Addr) (x y u v : V) (a b c d : Bool), vs = [.ref l] ∧ H l = some (.lst [x, y, u, v]) ∧ Four H x y u v a b c d ∧ ∀ H', Same H H' → Q (dueV (bad4 a b c d)) H'
theorem dpStrs (K : PySem.W.Frag) (H : Hp) : ∀ zs : List Str, DpAll K H (zs.map V.str) (zs.map PyData.str)
  | [] => .nil
  | z :: r => .cons (.str z) (dpStrs K H r)
theorem layStrs : ∀ zs : List Str, zs.all PyData.strOk = true → PyData.canLayAll0 (zs.map PyData.str) = true ∧ PyData.depthAll (zs.map PyData.str) = 0
  | [], _ => ⟨rfl, rfl⟩
  | z :: r, h => by
    rw [List.all_cons, Bool.and_eq_true] at h
    obtain ⟨a, b⟩ := layStrs r h.2
    refine ⟨?_, ?_⟩
    · simp only [List.map_cons, PyData.canLayAll0, PyData.canLay0, a, h.1, Bool.and_true]
    · show max 0 (PyData.depthAll (r.map PyData.str)) = 0
      rw [b] <;> rfl
theorem shapedStrs (zs : List Str) (h : zs.all PyData.strOk = true) : SeqAt.shaped (.list (zs.map PyData.str)) = true := by
  show (PyData.canLayAll0 _ && decide (PyData.depthAll _ + 1 ≤ 64)) = true
  rw [(layStrs zs h).1, (layStrs zs h).2] <;> rfl
def nf (a b c d : Bool) : List (Str × Bool) := [("old", a), ("new", b), ("left", c), ("right", d)]
def wrongs (l : List (Str × Bool)) : List Str := (l.filter fun q => !q.2).map (·.1)
theorem wrongs_ok (a b c d : Bool) : (wrongs (nf a b c d)).all PyData.strOk = true := by cases a <;> cases b <;> cases c <;> cases d <;> decide +kernel
theorem wrongs_head (a b c d : Bool) : (wrongs (nf a b c d))[0]? = bad4 a b c d := by cases a <;> cases b <;> cases c <;> cases d <;> rfl
section
variable {P : Program} {w : World} {K : PySem.W.Frag} {mg : Str → Option Value} {base : Heap}
abbrev nDue : List Str := ["_law_parts", "_law_marks", "_law_wrong", "_law_name", "_law_is_so"]
theorem scDue : FnScope nDue ["_law_parts"] (defScope sDue) := ⟨rfl, rfl, rfl, by decide +kernel, rfl, by decide +kernel, by decide +kernel⟩
theorem ok_due {f f1 : Addr} {fd fd1 : FuncData} (F : L2.Fun K "_law_due" "_law_due" sDue f fd) (T : Txt mg) (mB : mg "bool" = none)
    (G : FnOk P w K mg base CX0 1 f1 fd1 ["_law_thing", "_law_shortest"] (spStretch K)) (m1 : mg "_law_is_stretch" = some (.ref f1)) (k1 : PySem.W.keepIn K (.ref f1) = true) (b1 : L2.Binds K fd1 ["_law_thing", "_law_shortest"] []) :
    FnOk P w K mg base CX0 2 f fd ["_law_parts"] spDue := by
  refine F.ok scDue (fun vs H Q E h => ?_) (fun cdv A outer s H vs Q E hr h => ?_)
  · obtain ⟨l, x, y, u, v, a, b, c, d, rfl, _⟩ := h
    rfl
  · obtain ⟨l, x, y, u, v, a, b, c, d, rfl, hl, four, k⟩ := h
    have nd := scDue.nd
    refine ⟨_, pss_cons (ps_set (i := 1) nd rfl (.inl rfl) (pe_lst (pa_cons (pe_tup (pa_cons pe_str (pa_cons (pe_call G hr (by rfl) m1 k1 b1 .nil pass0 (pa_cons (bIx (pv 0) pe_int) (pa_cons pe_int pa_nil))) pa_nil)))
        (pa_cons (pe_tup (pa_cons pe_str (pa_cons (pe_call G hr (by rfl) m1 k1 b1 .nil pass0 (pa_cons (bIx (pv 0) pe_int) (pa_cons pe_int pa_nil))) pa_nil))) pa_nil))))
      (pss_cons (ps_set (i := 1) nd rfl (.inl rfl) (pe_op op_cat (pv 1) (pe_lst (pa_cons (pe_tup (pa_cons pe_str (pa_cons (bIsi (by rfl) T.isi (bIx (pv 0) pe_int) (pe_bltn (v := .ty "bool") (by rfl) mB (by decide +kernel) rfl)) pa_nil)))
        (pa_cons (pe_tup (pa_cons pe_str (pa_cons (bIsi (by rfl) T.isi (bIx (pv 0) pe_int) (pe_bltn (v := .ty "bool") (by rfl) mB (by decide +kernel) rfl)) pa_nil))) pa_nil)))))
      (pss_cons (ps_setLc (i := 2) (own := [("_law_name", 3), ("_law_is_so", 4)]) (g := gTup K 2 (gCons (gName 3) (gCons (gName 4) gNil))) (te := tVar 3) rfl nd rfl rfl rfl (pi_list (pv 1)) (blkOk_by (N := nDue) (sc := defScope sDue) (by decide +kernel))
        (fun _ _ _ _ _ => pg_tup rfl (pgs_cons (pg_name (i := 3) nd rfl (Or.inl rfl)) (pgs_cons (pg_name (i := 4) nd rfl (Or.inl rfl)) pgs_nil))) (fun _ _ _ _ _ => pts_one (pt_not (pt_val (pv 4)))) (fun _ _ _ _ _ => pv 3))
      (pss_one (ps_ret (pe_ifExp (pt_cmpR (op_eqD hr.units) (pv 2) (pe_lst pa_nil) (nomark _)) pe_non (bIx (pv 2) pe_int)))))), ?_⟩
    refine ⟨_, rfl, l, _, 0, _, rfl, rfl, SqL.of hl, rfl, x, 1, a, rfl, four.fx.tx, four.fx.ok, fun H1 s1 => ⟨by show 2 ≤ sizeLine; decide, fun t1 ht1 => ?_⟩⟩
    have s2 : Same H (upd H1 t1 (.tup [.str "old", .bl a])) := Same.trans s1 (Same.new ht1)
    have e1 : upd H1 t1 (.tup [.str "old", .bl a]) t1 = some (.tup [.str "old", .bl a]) := upd_same
    generalize upd H1 t1 (.tup [.str "old", .bl a]) = H2 at s2 e1 ⊢
    refine ⟨_, rfl, l, _, 1, _, rfl, rfl, SqL.of (s2 _ _ hl), rfl, y, 0, b, rfl, (four.fy.keep (Same.keepL s2)).tx, four.fy.ok, fun H3 s3 => ⟨by show 2 ≤ sizeLine; decide, fun t2 ht2 => ⟨by show 2 ≤ sizeLine; decide, fun M hM => ?_⟩⟩⟩
    have s4 : Same H2 (upd H3 t2 (.tup [.str "new", .bl b])) := Same.trans s3 (Same.new ht2)
    have e2 : upd H3 t2 (.tup [.str "new", .bl b]) t2 = some (.tup [.str "new", .bl b]) := upd_same
    generalize upd H3 t2 (.tup [.str "new", .bl b]) = H4 at s4 e2 hM ⊢
    have s5 : Same H4 (upd H4 M (.lst [.ref t1, .ref t2])) := Same.new hM
    have e5 : upd H4 M (.lst [.ref t1, .ref t2]) M = some (.lst [.ref t1, .ref t2]) := upd_same
    generalize upd H4 M (.lst [.ref t1, .ref t2]) = H5 at s5 e5 ⊢
    have s25 := Same.trans s4 s5
    have s05 := Same.trans s2 s25
    obtain ⟨tu, tyu, ku⟩ := (four.fu.keep (Same.keepL s05)).tb (K := K)
    refine ⟨_, rfl, _, rfl, l, _, 2, _, rfl, rfl, SqL.of (s05 _ _ hl), rfl, u, .ty "bool", _, _, c, rfl, .ty "bool", tyu, ku, by show 2 ≤ sizeLine; decide, fun t3 ht3 => ?_⟩
    have s6 : Same H5 (upd H5 t3 (.tup [.str "left", .bl c])) := Same.new ht3
    have e6 : upd H5 t3 (.tup [.str "left", .bl c]) t3 = some (.tup [.str "left", .bl c]) := upd_same
    generalize upd H5 t3 (.tup [.str "left", .bl c]) = H6 at s6 e6 ⊢
    have s06 := Same.trans s05 s6
    obtain ⟨tv, tyv, kv⟩ := (four.fv.keep (Same.keepL s06)).tb (K := K)
    refine ⟨_, rfl, l, _, 3, _, rfl, rfl, SqL.of (s06 _ _ hl), rfl, v, .ty "bool", _, _, d, rfl, .ty "bool", tyv, kv, by show 2 ≤ sizeLine; decide, fun t4 ht4 => ⟨by show 2 ≤ sizeLine; decide, fun M2 hM2 => ?_⟩⟩
    have s7 : Same H6 (upd H6 t4 (.tup [.str "right", .bl d])) := Same.new ht4
    have e7 : upd H6 t4 (.tup [.str "right", .bl d]) t4 = some (.tup [.str "right", .bl d]) := upd_same
    generalize upd H6 t4 (.tup [.str "right", .bl d]) = H7 at s7 e7 hM2 ⊢
    have s8 : Same H7 (upd H7 M2 (.lst [.ref t3, .ref t4])) := Same.new hM2
    have e8 : upd H7 M2 (.lst [.ref t3, .ref t4]) M2 = some (.lst [.ref t3, .ref t4]) := upd_same
    generalize upd H7 M2 (.lst [.ref t3, .ref t4]) = H8 at s8 e8 ⊢
    have s58 := Same.trans s6 (Same.trans s7 s8)
    refine ⟨M, M2, _, _, rfl, rfl, s58 _ _ e5, e8, by show 4 ≤ sizeLine; decide, fun M3 hM3 => ?_⟩
    have s9 : Same H8 (upd H8 M3 (.lst [.ref t1, .ref t2, .ref t3, .ref t4])) := Same.new hM3
    have e9 : upd H8 M3 (.lst [.ref t1, .ref t2, .ref t3, .ref t4]) M3 = some (.lst [.ref t1, .ref t2, .ref t3, .ref t4]) := upd_same
    show tSeq _ _ _ _ (upd H8 M3 (.lst [.ref t1, .ref t2, .ref t3, .ref t4]))
    generalize upd H8 M3 (.lst [.ref t1, .ref t2, .ref t3, .ref t4]) = H9 at s9 e9 ⊢
    have s09 : Same H H9 := Same.trans s05 (Same.trans s58 s9)
    have all4 : ∀ (i : Nat) (z : Str) (f : Bool), (nf a b c d)[i]? = some (z, f) → ∃ t, ([.ref t1, .ref t2, .ref t3, .ref t4] : List V)[i]? = some (.ref t) ∧ H9 t = some (.tup [.str z, .bl f]) := by
      intro i z f hi
      match i, hi with
      | 0, hi => cases hi; exact ⟨t1, rfl, s9 _ _ (s58 _ _ (s25 _ _ e1))⟩
      | 1, hi => cases hi; exact ⟨t2, rfl, s9 _ _ (s58 _ _ (s5 _ _ e2))⟩
      | 2, hi => cases hi; exact ⟨t3, rfl, s9 _ _ (s8 _ _ (s7 _ _ e6))⟩
      | 3, hi => cases hi; exact ⟨t4, rfl, s9 _ _ (s8 _ _ e7)⟩
      | i + 4, hi => cases hi
    refine ⟨_, rfl, M3, rfl, ⟨_, SqL.of e9⟩, fun D hD => ?_⟩
    refine lc_it walk_list (fun i H' => Same H9 H' ∧ H' D = some (.lst ((wrongs ((nf a b c d).take i)).map V.str))) ⟨Same.new hD, upd_same⟩ (fun i H' _ q => SqL.of (q.1 _ _ e9)) ?_ ?_
    · rintro i x H' H'' hi ⟨s1', hD'⟩ ⟨rfl, hx⟩
      have hi4 : i < 4 := hi
      have hn : i < (nf a b c d).length := hi4
      obtain ⟨z, f, hz⟩ : ∃ z f, (nf a b c d)[i]? = some (z, f) := ⟨_, _, List.getElem?_eq_getElem hn⟩
      obtain ⟨t, e3, e4⟩ := all4 i z f hz
      rw [e3] at hx
      cases hx
      have et : (nf a b c d).take (i + 1) = (nf a b c d).take i ++ [(z, f)] := by rw [List.take_add_one, hz]; rfl
      refine ⟨t, _, rfl, SqT.of (s1' _ _ e4), rfl, _, _, rfl, _, _, rfl, rfl, rfl, _, rfl, f, rfl, ?_⟩
      rw [et]
      cases f with
      | true =>
        refine iteF ⟨s1', ?_⟩
        rw [hD']
        simp [wrongs, List.filter_append]
      | false =>
        refine iteT ⟨_, rfl, _, hD', ?_, Same.putNew hD s1', ?_⟩
        · rw [List.length_map, sizeLine_eq]
          unfold wrongs
          have := List.length_filter_le (fun q : Str × Bool => !q.2) ((nf a b c d).take i)
          rw [List.length_map]
          rw [List.length_take] at this
          omega
        · rw [upd_same]
          simp [wrongs, List.filter_append]
    · rintro H1' ⟨s1', hD'⟩
      have hD2 : H1' D = some (.lst ((wrongs (nf a b c d)).map V.str)) := hD'
      refine ⟨_, rfl, Nat.zero_le _, fun q hq => ?_⟩
      have s2' : Same H1' (upd H1' q (.lst [])) := Same.new hq
      refine ⟨.list ((wrongs (nf a b c d)).map PyData.str), .list [], .lst (SqL.of (s2' _ _ hD2)) (dpStrs _ _ _), .lst (SqL.of upd_same) .nil, shapedStrs _ (wrongs_ok a b c d), rfl, _, rfl, ?_⟩
      rw [eqv_nilL]
      have k' := k _ (Same.trans s09 (Same.trans s1' s2'))
      have hd := wrongs_head a b c d
      cases e : wrongs (nf a b c d) with
      | nil =>
        rw [e] at hd
        rw [← hd] at k'
        exact iteT k'
      | cons z r =>
        rw [e] at hd hD2
        rw [← hd] at k'
        have k2 : Q (.str z) _ := k'
        exact iteF ⟨_, rfl, D, _, 0, .str z, rfl, rfl, SqL.of (s2' _ _ hD2), atI_nat (j := 0) rfl, k2⟩
end
end Kx
set_option Elab.async false
set_option maxRecDepth 100000
set_option autoImplicit false
/-! _law_refused, _law_spoilt, _law_written -/
namespace Kx
open PySem L2 PySem.Spec PyProof.Rows Rg Er Ru SX
abbrev sRefused : Stmt := top 23
abbrev sSpoilt : Stmt := top 24
abbrev sWritten : Stmt := top 25
structure HearP (K : PySem.W.Frag) (mg : Str → Option Value) (x : Str) (C : Addr) : Prop where
  g : mg x = some (.ref C)
  xf : XfC K C
  em : PySem.W.exmOne K (.ref C) (.ref C) = some true
def tPart (K : PySem.W.Frag) (i : Int) : TE := tOp (rIxL K) (tVar 0) (tC (.int i))
def spRefused : Sp := fun vs H Q _ => ∃ (l : Addr) (x y u v : V) (a b c d : Bool), vs = [.ref l] ∧ H l = some (.lst [x, y, u, v]) ∧ Four H x y u v a b c d ∧ ∀ H', Same H H' → Q (dueV (bad4 a b c d)) H'
section
variable {P : Program} {w : World} {K : PySem.W.Frag} {mg : Str → Option Value} {base : Heap}
abbrev nRefused : List Str := ["_law_parts", "_law_part", "error"]
theorem scRefused : FnScope nRefused ["_law_parts"] (defScope sRefused) := ⟨rfl, rfl, rfl, by decide +kernel, rfl, by decide +kernel, by decide +kernel⟩
theorem ok_refused {C CR f fi : Addr} {fd fdi : FuncData} (F : L2.Fun K "_law_refused" "_law_refused" sRefused f fd) (M : RT K mg C) (Hp_ : HearP K mg "BadRule" CR) (no : PySem.W.findIn K (.ref CR) "part" = some none)
    (mk_ : Mk K C fi) (GI : FnOk P w K mg base (L2.CX P w) 3 fi fdi nInit (spRInit K C CR)) (kb : KBn K fdi nInit 3 ["left", "right"] gKw gKwV) :
    FnOk P w K mg base CX0 5 f fd ["_law_parts"] spRefused := by
  refine F.ok scRefused (fun vs H Q E h => ?_) (fun cdv A outer s H vs Q E hr h => ?_)
  · obtain ⟨l, x, y, u, v, a, b, c, d, rfl, _⟩ := h
    rfl
  · obtain ⟨l, x, y, u, v, a, b, c, d, rfl, hl, four, k⟩ := h
    have nd := scRefused.nd
    refine ⟨_, pss_cons (ps_set (i := 1) nd rfl (.inl rfl) pe_non) (pss_cons (ps_try_val (i := 2) (j := 1) (c := .ref CR) (Wout := fun _ _ _ _ => False) (te := fun a cls d => tXf a cls d CR "part" (tVar 2))
        (tb := fun W => tDrop (tMakeK C 2 2 (spRInit K C CR) gKwV (fun cls d H' => ∀ σ', W cls d σ' H') (tCons (tPart K 0) (tCons (tPart K 1) tNil)) (tCons (tPart K 2) (tCons (tPart K 3) tNil))))
      rfl rfl rfl nd rfl rfl rfl rfl ⟨rfl, by decide, .inl Hp_.g⟩ L2.takes0 rfl (fun a oe cls d pn hz hf => pe_xf Hp_.xf no hz hf (pv 2))
      (fun W pn xe tk _ => pss_one (ps_expr (pe_makeK mk_ GI hr (by rfl) M.mgC kb (passes_call tk fun _ _ σ' _ h => h σ') (pa_cons (bIx (pv 0) pe_int) (pa_cons (bIx (pv 0) pe_int) pa_nil)) (pk_cons (bIx (pv 0) pe_int) (pk_cons (bIx (pv 0) pe_int) pk_nil))))))
      (pss_one (ps_ret (pv 1)))), ?_⟩
    refine ⟨_, rfl, l, _, 0, _, rfl, rfl, SqL.of hl, rfl, _, rfl, l, _, 1, _, rfl, rfl, SqL.of hl, rfl, _, rfl, l, _, 2, _, rfl, rfl, SqL.of hl, rfl, _, rfl, l, _, 3, _, rfl, rfl, SqL.of hl, rfl, rfl, rfl, fun q dx hq hdx ne => ?_⟩
    have s0 : Same H (upd (upd H dx (.own q)) q (.ins C dx [])) := made_same hq hdx
    have four' := four.keep (Same.keepL s0)
    refine ⟨q, dx, x, y, u, v, a, b, c, d, rfl, upd_same, four'.fx.tx, four'.fy.tx, four'.fu.tb, four'.fv.tb, ?_⟩
    cases e : bad4 a b c d with
    | none =>
      rw [e] at k
      exact fun H' e1 _ => ⟨rfl, _, rfl, k H' (same_ext1 hq s0 e1)⟩
    | some part =>
      rw [e] at k
      intro dd hdd σ'
      refine ⟨true, Hp_.em, fun _ hlen a' na => ?_, fun z => nomatch z⟩
      obtain ⟨x0, x1, x2, rfl⟩ : ∃ x0 x1 x2, σ' = [x0, x1, x2] := by
        match σ', hlen with
        | [x0, x1, x2], _ => exact ⟨x0, x1, x2, rfl⟩
      exact ⟨_, rfl, rfl, rfl, dd, _, .str part, rfl, upd_same, rfl, _, rfl, k _ (Same.trans s0 (Same.new hdd))⟩

end
theorem tx_str {lo : Nat} {H : Hp} (wd : Str) (h1 : wd.length ≤ 1000) (h2 : PyData.strOk wd = true) : ∃ a, TxP lo H (.str wd) a := ⟨_, .inl ⟨wd, rfl, h1, h2, rfl⟩⟩
theorem tx_pl {lo : Nat} {H : Hp} {x : V} (h : Plain H x) : ∃ a, TxP lo H x a := ⟨false, .inr ⟨rfl, .inr h⟩⟩
theorem tb_pl {H : Hp} {x : V} (h : Plain H x) : ∃ a, TbP H x a := ⟨false, .inr ⟨rfl, .inr h⟩⟩
def spSpoilt : Sp := fun vs H Q _ => ∃ (c p : Addr) (n : Nat) (l : Addr) (x y u v : V) (a b c' d : Bool), vs = [.ref p, .ref l] ∧ n ≤ 800000 ∧ PenAt c n H p ∧ l ≠ p ∧ H l = some (.lst [x, y, u, v]) ∧ Four H x y u v a b c' d ∧
  ∀ L H' x y u v a b c' d, H L = none → H' L = some (.lst [x, y, u, v]) → Four H' x y u v a b c' d → Ink c p (n + 8) H H' → Q (.ref L) H'
section
variable {P : Program} {w : World} {K : PySem.W.Frag} {mg : Str → Option Value} {base : Heap}
abbrev nSpoilt : List Str := ["_law_pen_here", "_law_parts", "_law_found", "_law_turn", "_law_at", "_law_some"]
theorem scSpoilt : FnScope nSpoilt ["_law_pen_here", "_law_parts"] (defScope sSpoilt) := ⟨rfl, rfl, rfl, by decide +kernel, rfl, by decide +kernel, by decide +kernel⟩
theorem ok_spoilt {f f1 f2 : Addr} {fd fd1 fd2 : FuncData} (F : L2.Fun K "_law_spoilt" "_law_spoilt" sSpoilt f fd) (T : Txt mg)
    (G1 : FnOk P w K mg base CX0 1 f1 fd1 ["_law_pen_here", "_law_many"] spDraw) (m1 : mg "_law_draw" = some (.ref f1)) (k1 : PySem.W.keepIn K (.ref f1) = true) (b1 : L2.Binds K fd1 ["_law_pen_here", "_law_many"] [])
    (G2 : FnOk P w K mg base CX0 2 f2 fd2 ["_law_pen_here", "_law_things"] spPick) (m2 : mg "_law_pick" = some (.ref f2)) (k2 : PySem.W.keepIn K (.ref f2) = true) (b2 : L2.Binds K fd2 ["_law_pen_here", "_law_things"] []) :
    FnOk P w K mg base CX0 3 f fd ["_law_pen_here", "_law_parts"] spSpoilt := by
  refine F.ok scSpoilt (fun vs H Q E h => ?_) (fun cdv A outer s H vs Q E hr h => ?_)
  · obtain ⟨c, p, n, l, x, y, u, v, a, b, c', d, rfl, _⟩ := h
    rfl
  · obtain ⟨c, p, n, l, x, y, u, v, a, b, c', d, rfl, nb, pen, lp, hl, four, k⟩ := h
    have nd := scSpoilt.nd
    have hr1 := hr.mono (show 1 ≤ 2 by decide)
    refine ⟨_, pss_cons (ps_set (i := 2) nd rfl (.inl rfl) (bList (by rfl) T.list (pv 1)))
      (pss_cons (ps_for PassesOwn.never rfl (pi_range1 (by rfl) T.range (pa_cons (pe_op op_add pe_int (pe_call G1 hr1 (by rfl) m1 k1 b1 .nil pass0 (pa_cons (pv 0) (pa_cons pe_int pa_nil)))) pa_nil)) (pg_name (i := 3) nd rfl (Or.inl rfl))
        (pss_cons (ps_set (i := 4) nd rfl (.inl rfl) (pe_call G1 hr1 (by rfl) m1 k1 b1 .nil pass0 (pa_cons (pv 0) (pa_cons pe_int pa_nil))))
        (pss_one (ps_if (pt_cmpR op_lt (pv 4) pe_int (nomark _))
          (pss_cons (ps_set (i := 5) nd rfl (.inl rfl) (pe_lst (pa_cons pe_str (pa_cons pe_str (pa_cons pe_str (pa_cons pe_str (pa_cons pe_str (pa_cons pe_non (pa_cons pe_int (pa_cons (pe_lst (pa_cons pe_str pa_nil)) (pa_cons (pe_tup (pa_cons pe_str pa_nil))
              (pa_cons pe_str (pa_cons pe_str (pa_cons pe_str (pa_cons pe_str (pa_cons pe_bl pa_nil))))))))))))))))
          (pss_one (ps_asg (pe_call G2 hr (by rfl) m2 k2 b2 .nil pass0 (pa_cons (pv 0) (pa_cons (pv 5) pa_nil))) (pg_sub (pv 2) (pv 4) set_list))))
          (pss_one (ps_asg (pe_call G2 hr (by rfl) m2 k2 b2 .nil pass0 (pa_cons (pv 0) (pa_cons (pe_lst (pa_cons pe_int (pa_cons pe_int (pa_cons pe_non (pa_cons pe_str (pa_cons (pe_lst pa_nil) (pa_cons pe_bl (pa_cons pe_bl pa_nil)))))))) pa_nil))) (pg_sub (pv 2) (pv 4) set_list)))))))
      (pss_one (ps_ret (pv 2)))), ?_⟩
    refine ⟨_, rfl, l, _, rfl, .inl (SqL.of hl), fun L hL => ?_⟩
    have Lp := pen.ne1 hL
    have s1 : Same H (upd H L (.lst [x, y, u, v])) := Same.new hL
    have i1 : Ink c p n H (upd H L (.lst [x, y, u, v])) := (Ink.start pen).new hL
    have e1 : upd H L (.lst [x, y, u, v]) L = some (.lst [x, y, u, v]) := upd_same
    generalize upd H L (.lst [x, y, u, v]) = H1 at s1 i1 e1 ⊢
    refine ⟨_, rfl, c, p, 2, n, rfl, by decide, by decide, by omega, i1.2, fun r H2 r0 r2 pen2 x2 => ?_⟩
    have i2 : Ink c p (n + 1) H H2 := ⟨Ext1.trans i1.1 x2, pen2⟩
    have e2 : H2 L = some (.lst [x, y, u, v]) := x2 _ _ Lp e1
    have four2 : Four H2 x y u v a b c' d := four.keep (Ink.keepL pen i2)
    refine ⟨_, _, rfl, rfl, 1 + r, rfl, by omega, by omega, for_it walk_range (fun i σ' H' => ∃ y3 y4 y5 x y u v a b c' d, σ' = [some (.ref p), some (.ref l), some (.ref L), y3, y4, y5] ∧ H' L = some (.lst [x, y, u, v]) ∧ Four H' x y u v a b c' d ∧ Ink c p (n + 1 + 2 * i) H H')
      ⟨none, none, none, x, y, u, v, a, b, c', d, rfl, e2, four2, i2⟩ (fun _ _ _ _ _ => trivial) ?_ ?_⟩
    · rintro i xx σ' H' H'' hi ⟨y3, y4, y5, x, y, u, v, a, b, c', d, rfl, eL, four, ink⟩ yy
      obtain ⟨e6, ex⟩ := yy
      subst e6
      subst ex
      have hi2 : i < 2 := by omega
      refine ⟨_, rfl, c, p, 4, n + 1 + 2 * i, rfl, by decide, by decide, by omega, ink.2, fun t H3 t0 t4 pen3 x3 => ?_⟩
      have i3 : Ink c p (n + 1 + 2 * i + 1) H'' H3 := ⟨x3, pen3⟩
      have eL3 := x3 _ _ Lp eL
      refine ⟨_, rfl, _, _, rfl, rfl, _, rfl, ?_⟩
      by_cases ht : t < 2
      · rw [decide_eq_true ht]
        refine iteT ⟨by show 1 ≤ sizeLine; decide, fun q1 hq1 => ⟨by show 1 ≤ sizeLine; decide, fun q2 hq2 => ⟨by show 14 ≤ sizeLine; decide, fun S hS => ?_⟩⟩⟩
        have j1 : Ink c p (n + 1 + 2 * i + 1) H'' (upd H3 q1 (.lst [.str "a"])) := i3.new hq1
        have f1 : upd H3 q1 (.lst [.str "a"]) q1 = some (.lst [.str "a"]) := upd_same
        have g1 : upd H3 q1 (.lst [.str "a"]) L = some (.lst [x, y, u, v]) := by rw [upd_ne (ne_of_none eL3 hq1)]; exact eL3
        generalize upd H3 q1 (.lst [.str "a"]) = H4 at j1 f1 g1 hq2 hS ⊢
        have j2 : Ink c p (n + 1 + 2 * i + 1) H'' (upd H4 q2 (.tup [.str "a"])) := j1.new hq2
        have f2 : upd H4 q2 (.tup [.str "a"]) q2 = some (.tup [.str "a"]) := upd_same
        have f1' : upd H4 q2 (.tup [.str "a"]) q1 = some (.lst [.str "a"]) := by rw [upd_ne (ne_of_none f1 hq2)]; exact f1
        have g2 : upd H4 q2 (.tup [.str "a"]) L = some (.lst [x, y, u, v]) := by rw [upd_ne (ne_of_none g1 hq2)]; exact g1
        have q1p := i3.2.ne1 hq1
        have q2p := j1.2.ne1 hq2
        generalize upd H4 q2 (.tup [.str "a"]) = H5 at j2 f2 f1' g2 hS ⊢
        have j3 := j2.new (o := .lst [.str "", .str "abcde", .str "Ab", .str "a1", .str "a b", .non, .int 7, .ref q1, .ref q2, .str "[a", .str "x>", .str "dcba", .str "a", .bl true]) hS
        refine ⟨_, rfl, _, rfl, c, p, n + 1 + 2 * i + 1, by omega, j3.2, .inl ⟨S, _, rfl, j2.2.ne1 hS, upd_same, by show 0 < 14; decide, by show 14 ≤ 1000; decide, fun z H6 hz pen6 x6 => ?_⟩⟩
        have j6 : Ink c p (n + 1 + 2 * i + 2) H'' H6 := ⟨Ext1.trans j3.1 x6, pen6⟩
        have x56 : Ext1 p H5 H6 := Ext1.trans (Ext1.new hS) x6
        have g6 := x56 _ _ Lp g2
        have h1 := x56 _ _ q1p f1'
        have h2 := x56 _ _ q2p f2
        have four6 := four.keep (Ink.keepL ink.2 j6)
        have any : ∀ lo, ∃ a, TxP lo H6 z a := fun lo => by
          simp only [List.mem_cons, List.not_mem_nil, or_false] at hz
          rcases hz with rfl | rfl | rfl | rfl | rfl | rfl | rfl | rfl | rfl | rfl | rfl | rfl | rfl | rfl
          · exact tx_str _ (by decide) (by decide +kernel)
          · exact tx_str _ (by decide) (by decide +kernel)
          · exact tx_str _ (by decide) (by decide +kernel)
          · exact tx_str _ (by decide) (by decide +kernel)
          · exact tx_str _ (by decide) (by decide +kernel)
          · exact tx_pl .non
          · exact tx_pl (.int _)
          · exact tx_pl (.lst h1)
          · exact tx_pl (.tup h2)
          · exact tx_str _ (by decide) (by decide +kernel)
          · exact tx_str _ (by decide) (by decide +kernel)
          · exact tx_str _ (by decide) (by decide +kernel)
          · exact tx_str _ (by decide) (by decide +kernel)
          · exact ⟨false, .inr ⟨rfl, .inl ⟨true, rfl⟩⟩⟩
        have kp : ∀ ys, KeepL H6 (upd H6 L (.lst ys)) := fun ys => KeepL.put g6
        have fin : ∀ ys, Ink c p (n + 1 + 2 * (i + 1)) H (upd H6 L (.lst ys)) := fun ys => Ink.putNew (Ink.trans ink (j6.mono (by omega))) pen hL
        have hcase : t = 0 ∨ t = 1 := by omega
        rcases hcase with rfl | rfl
        · obtain ⟨a', ha'⟩ := any 1
          exact ⟨_, rfl, _, rfl, L, _, 0, 0, rfl, rfl, g6, rfl, _, _, _, z, y, u, v, a', b, c', d, rfl, upd_same, ⟨ha'.keep (kp _), four6.fy.keep (kp _), four6.fu.keep (kp _), four6.fv.keep (kp _)⟩, fin _⟩
        · obtain ⟨b', hb'⟩ := any 0
          exact ⟨_, rfl, _, rfl, L, _, 1, 1, rfl, rfl, g6, rfl, _, _, _, x, z, u, v, a, b', c', d, rfl, upd_same, ⟨four6.fx.keep (kp _), hb'.keep (kp _), four6.fu.keep (kp _), four6.fv.keep (kp _)⟩, fin _⟩
      · rw [decide_eq_false ht]
        refine iteF ⟨_, rfl, Nat.zero_le _, fun q1 hq1 => ⟨by show 7 ≤ sizeLine; decide, fun S hS => ?_⟩⟩
        have j1 : Ink c p (n + 1 + 2 * i + 1) H'' (upd H3 q1 (.lst [])) := i3.new hq1
        have f1 : upd H3 q1 (.lst []) q1 = some (.lst []) := upd_same
        have g1 : upd H3 q1 (.lst []) L = some (.lst [x, y, u, v]) := by rw [upd_ne (ne_of_none eL3 hq1)]; exact eL3
        have q1p := i3.2.ne1 hq1
        generalize upd H3 q1 (.lst []) = H5 at j1 f1 g1 hS ⊢
        have j3 := j1.new (o := .lst [.int 0, .int 1, .non, .str "x", .ref q1, .bl true, .bl false]) hS
        refine ⟨c, p, n + 1 + 2 * i + 1, by omega, j3.2, .inl ⟨S, _, rfl, j1.2.ne1 hS, upd_same, by show 0 < 7; decide, by show 7 ≤ 1000; decide, fun z H6 hz pen6 x6 => ?_⟩⟩
        have j6 : Ink c p (n + 1 + 2 * i + 2) H'' H6 := ⟨Ext1.trans j3.1 x6, pen6⟩
        have x56 : Ext1 p H5 H6 := Ext1.trans (Ext1.new hS) x6
        have g6 := x56 _ _ Lp g1
        have h1 := x56 _ _ q1p f1
        have four6 := four.keep (Ink.keepL ink.2 j6)
        obtain ⟨a', any⟩ : ∃ a, TbP H6 z a := by
          simp only [List.mem_cons, List.not_mem_nil, or_false] at hz
          rcases hz with rfl | rfl | rfl | rfl | rfl | rfl | rfl
          · exact tb_pl (.int _)
          · exact tb_pl (.int _)
          · exact tb_pl .non
          · exact ⟨false, .inr ⟨rfl, .inl ⟨_, rfl⟩⟩⟩
          · exact tb_pl (.lst h1)
          · exact ⟨true, .inl ⟨true, rfl, rfl⟩⟩
          · exact ⟨true, .inl ⟨false, rfl, rfl⟩⟩
        have kp : ∀ ys, KeepL H6 (upd H6 L (.lst ys)) := fun ys => KeepL.put g6
        have fin : ∀ ys, Ink c p (n + 1 + 2 * (i + 1)) H (upd H6 L (.lst ys)) := fun ys => Ink.putNew (Ink.trans ink (j6.mono (by omega))) pen hL
        have hcase : t = 2 ∨ t = 3 := by omega
        rcases hcase with rfl | rfl
        · exact ⟨_, rfl, _, rfl, L, _, 2, 2, rfl, rfl, g6, rfl, _, _, _, x, y, z, v, a, b, a', d, rfl, upd_same, ⟨four6.fx.keep (kp _), four6.fy.keep (kp _), any.keep (kp _), four6.fv.keep (kp _)⟩, fin _⟩
        · exact ⟨_, rfl, _, rfl, L, _, 3, 3, rfl, rfl, g6, rfl, _, _, _, x, y, u, z, a, b, c', a', rfl, upd_same, ⟨four6.fx.keep (kp _), four6.fy.keep (kp _), four6.fu.keep (kp _), any.keep (kp _)⟩, fin _⟩
    · rintro σ' H' ⟨y3, y4, y5, x, y, u, v, a, b, c', d, rfl, eL, four, ink⟩
      exact ⟨_, rfl, k L H' x y u v a b c' d hL eL four (ink.mono (by omega))⟩
end
end Kx
set_option Elab.async false
set_option maxRecDepth 100000
set_option autoImplicit false
/-! _law_written, _law_read, _law_bent -/
namespace Kx
open PySem L2 PySem.Spec PyProof.Rows Rg Er Ru SX
abbrev sRead : Stmt := top 26
abbrev sBent : Stmt := top 28
def spWritten : Sp := fun vs H Q _ => ∃ (a : Addr) (o n : Str) (l r : Bool), vs = [.ref a] ∧ H a = some (.lst [.str o, .str n, .bl l, .bl r]) ∧ o.length ≤ 1000 ∧ n.length ≤ 1000 ∧ Q (.str (wr o n l r)) H
/-- what a reading of a text tells -/
def Tells (z : Str) (H : Hp) (Q : VK) : Prop := (rdL (inn z) = none → ∀ H', Same H H' → Q .non H') ∧ (∀ p q, rdL (inn z) = some (p, q) → ∀ H' R, Same H H' → H' R = some (.lst [.str (S p), .str (S q), .bl (hd z), .bl (la z)]) → Q (.ref R) H')
def spReadL : Sp := fun vs H Q _ => ∃ z : Str, vs = [.str z] ∧ z.length ≤ 1000 ∧ PyData.strOk z = true ∧ Tells z H Q
def spBent : Sp := fun vs H Q _ => ∃ (c p : Addr) (n : Nat) (z : Str), vs = [.ref p, .str z] ∧ n ≤ 800000 ∧ PenAt c n H p ∧ z.length ≤ 500 ∧ PyData.strOk z = true ∧ ∀ (z' : Str) H', z'.length ≤ z.length + 2 → PyData.strOk z' = true → Ink c p (n + 3) H H' → Q (.str z') H'
theorem spl_mem : ∀ (I acc a : List Nat), a ∈ TL.spl [62] 0 acc I → a.length ≤ acc.length + I.length ∧ ∀ c ∈ a, c ∈ acc ∨ c ∈ I
  | [], acc, a, h => by
    rw [TL.spl_nil] at h
    rw [List.mem_singleton.mp h]
    exact ⟨by simp, fun c hc => .inl hc⟩
  | d :: r, acc, a, h => by
    by_cases e : d = 62
    · subst e
      rw [TL.spl_hit (by rw [pre62]; rfl)] at h
      rcases List.mem_cons.mp h with rfl | h
      · exact ⟨by simp, fun c hc => .inl hc⟩
      · obtain ⟨l, m⟩ := spl_mem r [] a h
        refine ⟨by simp only [List.length_cons, List.length_nil] at l ⊢; omega, fun c hc => ?_⟩
        rcases m c hc with x | x
        · cases x
        · exact .inr (List.mem_cons_of_mem _ x)
    · have q2 : (d == 62) = false := by simpa using e
      rw [TL.spl_miss (by rw [pre62, q2])] at h
      obtain ⟨l, m⟩ := spl_mem r (acc ++ [d]) a h
      refine ⟨by simp only [List.length_append, List.length_cons, List.length_nil] at l ⊢; omega, fun c hc => ?_⟩
      rcases m c hc with x | x
      · rcases List.mem_append.mp x with x | x
        · exact .inl x
        · exact .inr (by rw [List.mem_singleton.mp x]; exact List.mem_cons_self)
      · exact .inr (List.mem_cons_of_mem _ x)
theorem okIff (z : Str) : PyData.strOk z = true ↔ ∀ c ∈ z.cps.toList, c < 0x110000 := by
  unfold PyData.strOk
  rw [← Array.all_toList, List.all_eq_true]
  exact ⟨fun h c hc => of_decide_eq_true (h c hc), fun h c hc => decide_eq_true (h c hc)⟩
theorem inn_mem {z : Str} {c : Nat} (h : c ∈ inn z) : c ∈ z.cps.toList := List.mem_of_mem_drop (List.mem_of_mem_take h)
theorem piece_ok {z : Str} {a : List Nat} (h : a ∈ TL.spl [62] 0 [] (inn z)) (hz : z.length ≤ 1000) (o : PyData.strOk z = true) : (S a).length ≤ 1000 ∧ PyData.strOk (S a) = true := by
  obtain ⟨l, m⟩ := spl_mem _ _ _ h
  have l2 := inn_le z
  have l3 : (S (inn z)).length = (inn z).length := rfl
  simp only [List.length_nil] at l
  refine ⟨by show a.length ≤ 1000; omega, (okIff _).mpr fun c hc => ?_⟩
  have hc' : c ∈ a := hc
  rcases m c hc' with x | x
  · cases x
  · exact (okIff z).mp o c (inn_mem x)
theorem neLen (n : Nat) : (!decide (V.int (n : Int) = V.int 2)) = !decide (n = 2) := by
  by_cases q : n = 2
  · subst q; rfl
  · rw [decide_eq_false q]
    rw [decide_eq_false (fun z : V.int (n : Int) = V.int 2 => q (by have := V.int.inj z; omega))]
section
variable {P : Program} {w : World} {K : PySem.W.Frag} {mg : Str → Option Value} {base : Heap}
theorem scWritten : FnScope ["_law_parts"] ["_law_parts"] (defScope sWritten) := ⟨rfl, rfl, rfl, by decide +kernel, rfl, by decide +kernel, by decide +kernel⟩
theorem ok_written {f : Addr} {fd : FuncData} (F : L2.Fun K "_law_written" "_law_written" sWritten f fd) (T : Txt mg) : FnOk P w K mg base CX0 1 f fd ["_law_parts"] spWritten := by
  refine F.ok scWritten (fun vs H Q E h => ?_) (fun cdv A outer s H vs Q E hr h => ?_)
  · obtain ⟨a, o, n, l, r, rfl, _⟩ := h
    rfl
  · obtain ⟨a, o, n, l, r, rfl, ha, lo, ln, k⟩ := h
    refine ⟨_, pss_one (ps_ret (pe_op op_add_str (pe_op op_add_str (pe_op op_add_str (pe_op op_add_str (pe_op op_mul1 pe_str (bInt (by rfl) T.int (bIx (pv 0) pe_int))) (bIx (pv 0) pe_int)) pe_str) (bIx (pv 0) pe_int)) (pe_op op_mul1 pe_str (bInt (by rfl) T.int (bIx (pv 0) pe_int))))), ?_⟩
    have h1 := mark_len l "[" rfl
    have h2 := mark_len r "]" rfl
    have h3 : (">" : Str).length = 1 := rfl
    unfold wr at k
    refine ⟨_, rfl, a, _, 2, _, rfl, rfl, SqL.of ha, rfl, .inr ⟨l, rfl, "[", l, rfl, rfl, ?_⟩⟩
    have e1 : (if l = true then ("[" : Str) else Str.empty) = if l = true then ("[" : Str) else "" := rfl
    have e2 : (if r = true then ("]" : Str) else Str.empty) = if r = true then ("]" : Str) else "" := rfl
    rw [e1]
    generalize (if l = true then ("[" : Str) else "") = m1 at h1 k ⊢
    refine ⟨_, rfl, a, _, 0, _, rfl, rfl, SqL.of ha, rfl, _, _, rfl, rfl, by rw [sizeLine_eq]; omega, ?_⟩
    refine ⟨_, _, rfl, rfl, by rw [app_len, sizeLine_eq]; omega, ?_⟩
    refine ⟨_, rfl, a, _, 1, _, rfl, rfl, SqL.of ha, rfl, _, _, rfl, rfl, by rw [app_len, app_len, sizeLine_eq]; omega, ?_⟩
    refine ⟨_, rfl, a, _, 3, _, rfl, rfl, SqL.of ha, rfl, .inr ⟨r, rfl, "]", r, rfl, rfl, ?_⟩⟩
    rw [e2]
    generalize (if r = true then ("]" : Str) else "") = m2 at h2 k ⊢
    exact ⟨_, _, rfl, rfl, by rw [app_len, app_len, app_len, sizeLine_eq]; omega, k⟩
abbrev nRead : List Str := ["_law_text_here", "_law_begins", "_law_ends", "_law_inner"]
theorem scRead : FnScope nRead ["_law_text_here"] (defScope sRead) := ⟨rfl, rfl, rfl, by decide +kernel, rfl, by decide +kernel, by decide +kernel⟩
theorem ok_read {f f1 : Addr} {fd fd1 : FuncData} (F : L2.Fun K "_law_read" "_law_read" sRead f fd) (T : Txt mg)
    (G : FnOk P w K mg base CX0 1 f1 fd1 ["_law_thing", "_law_shortest"] (spStretch K)) (m1 : mg "_law_is_stretch" = some (.ref f1)) (k1 : PySem.W.keepIn K (.ref f1) = true) (b1 : L2.Binds K fd1 ["_law_thing", "_law_shortest"] []) :
    FnOk P w K mg base CX0 2 f fd ["_law_text_here"] spReadL := by
  refine F.ok scRead (fun vs H Q E h => ?_) (fun cdv A outer s H vs Q E hr h => ?_)
  · obtain ⟨z, rfl, _⟩ := h
    rfl
  · obtain ⟨z, rfl, few, okz, kn, ks⟩ := h
    have nd := scRead.nd
    refine ⟨_, pss_cons (ps_par (i := 1) (j := 2) rfl nd rfl rfl (by decide) rfl rfl (pa_cons (pe_cmpR op_eq (pe_slice sl_str (pv 0) po_none (po_some pe_int)) pe_str (nomark _)) (pa_cons (pe_cmpR op_eq (pe_slice sl_str (pv 0) (po_some (pe_un un_neg pe_int)) po_none) pe_str (nomark _)) pa_nil)) rfl)
      (pss_cons (ps_set (i := 3) nd rfl (.inl rfl) (pe_split (pe_slice sl_str (pv 0) (po_some (bInt (by rfl) T.int (pv 1))) (po_some (pe_op op_sub (bLen (by rfl) T.len (pv 0)) (bInt (by rfl) T.int (pv 2))))) pe_str))
      (pss_cons (ps_if (PW.pt (pw_or (pt_cmpR op_ne (bLen (by rfl) T.len (pv 3)) pe_int (nomark _)) (pw_or (pt_not (pt_val (pe_call G hr (by rfl) m1 k1 b1 .nil pass0 (pa_cons (bIx (pv 3) pe_int) (pa_cons pe_int pa_nil)))))
          (pw_or1 (pt_not (pt_val (pe_call G hr (by rfl) m1 k1 b1 .nil pass0 (pa_cons (bIx (pv 3) pe_int) (pa_cons pe_int pa_nil))))))))) (pss_one (ps_ret pe_non)) pss_nil)
      (pss_one (ps_ret (pe_lst (pa_cons (bIx (pv 3) pe_int) (pa_cons (bIx (pv 3) pe_int) (pa_cons (pv 1) (pa_cons (pv 2) pa_nil))))))))), ?_⟩
    refine ⟨_, rfl, 1, rfl, z, rfl, len_small few, rfl, ?_⟩
    rw [cut_hd]
    refine ⟨_, rfl, 1, rfl, _, rfl, z, rfl, len_small few, rfl, ?_⟩
    rw [show (-(1 : Int)) = -1 from rfl, cut_la]
    refine ⟨_, _, rfl, ?_⟩
    obtain ⟨H1, s1⟩ : ∃ H1, H1 = H := ⟨_, rfl⟩
    rw [← s1]
    replace s1 : Same H H1 := by rw [s1]; exact Same.refl H
    refine ⟨_, rfl, _, rfl, .inr ⟨hd z, rfl, _, rfl, _, rfl, _, z.length, rfl, ⟨len_small few, rfl⟩, _, rfl, .inr ⟨la z, rfl, _, _, rfl, rfl, _, rfl, z, rfl, len_small few, ?_⟩⟩⟩
    have eb : ∀ b : Bool, (if b = true then (1 : Int) else 0) = (bit b : Nat) := fun b => by cases b <;> rfl
    rw [eb, eb, cut_inn]
    refine ⟨⟨_, rfl⟩, _, _, rfl, rfl, rfl, by have := inn_le z; rw [sizeLine_eq]; omega, fun L hL => ?_⟩
    rw [show Txt.split (S (inn z)) ">" = (TL.spl [62] 0 [] (inn z)).map S from split_S (b := [62]) (List.cons_ne_nil _ _) (by decide)]
    have s2 : Same H (upd H1 L (.lst (((TL.spl [62] 0 [] (inn z)).map S).map V.str))) := Same.trans s1 (Same.new hL)
    have e2 : upd H1 L (.lst (((TL.spl [62] 0 [] (inn z)).map S).map V.str)) L = some (.lst (((TL.spl [62] 0 [] (inn z)).map S).map V.str)) := upd_same
    show tSeq _ _ _ _ (upd H1 L (.lst (((TL.spl [62] 0 [] (inn z)).map S).map V.str)))
    generalize upd H1 L (.lst (((TL.spl [62] 0 [] (inn z)).map S).map V.str)) = H2 at s2 e2 ⊢
    have piece : ∀ a ∈ TL.spl [62] 0 [] (inn z), (S a).length ≤ 1000 ∧ PyData.strOk (S a) = true := fun a ha => piece_ok ha few okz
    rw [rdL_spl] at kn
    simp only [rdL_spl] at ks
    refine ⟨_, rfl, _, _, rfl, .inl ⟨_, SqL.of e2, rfl⟩, rfl, _, rfl, ?_⟩
    rw [neLen, List.length_map, List.length_map]
    match hs : TL.spl [62] 0 [] (inn z) with
    | [] =>
      rw [hs] at kn
      exact iteT (kn rfl _ s2)
    | [a] =>
      rw [hs] at kn
      exact iteT (kn rfl _ s2)
    | a :: b :: c :: r =>
      rw [hs] at kn
      rw [show (!decide ((a :: b :: c :: r).length = 2)) = true by simp]
      exact iteT (kn rfl _ s2)
    | [a, b] =>
      rw [hs] at kn e2
      dsimp only at kn
      simp only [hs] at ks
      obtain ⟨la1, oa⟩ := piece a (by rw [hs]; simp)
      obtain ⟨lb1, ob⟩ := piece b (by rw [hs]; simp)
      refine iteF ⟨_, rfl, L, _, 0, .str (S a), rfl, rfl, SqL.of e2, rfl, .str (S a), 1, lets 1 (S a), rfl, .inl ⟨S a, rfl, la1, rfl⟩, fun wd e => by cases e; exact oa, fun H3 s3 => ⟨_, rfl, ?_⟩⟩
      cases ea : lets 1 (S a) with
      | false =>
        rw [ea] at kn
        exact iteT (kn rfl _ (Same.trans s2 s3))
      | true =>
        refine iteF ⟨_, rfl, L, _, 1, .str (S b), rfl, rfl, SqL.of (s3 _ _ e2), rfl, .str (S b), 0, lets 0 (S b), rfl, .inl ⟨S b, rfl, lb1, rfl⟩, fun wd e => by cases e; exact ob, fun H4 s4 => ⟨_, rfl, ?_⟩⟩
        cases eb' : lets 0 (S b) with
        | false =>
          rw [ea, eb'] at kn
          exact iteT (kn rfl _ (Same.trans s2 (Same.trans s3 s4)))
        | true =>
          have e4 := s4 _ _ (s3 _ _ e2)
          refine iteF ⟨_, rfl, L, _, 0, .str (S a), rfl, rfl, SqL.of e4, rfl, _, rfl, L, _, 1, .str (S b), rfl, rfl, SqL.of e4, rfl, _, rfl, _, rfl, by show 4 ≤ sizeLine; decide, fun R hR => ?_⟩
          exact ks a b (by rw [ea, eb']; rfl) _ R (Same.trans s2 (Same.trans s3 (Same.trans s4 (Same.new hR)))) upd_same
end
end Kx
set_option Elab.async false
set_option maxRecDepth 100000
set_option autoImplicit false
/-! _law_bent, _law_told -/
namespace Kx
open PySem L2 PySem.Spec PyProof.Rows Rg Er Ru SX
abbrev sTold : Stmt := top 27
theorem cutS_len (z : Str) (lo hi : Option Int) : (cutS z lo hi).length ≤ z.length := by
  unfold cutS
  show (List.toArray _).size ≤ z.cps.size
  rw [List.size_toArray, List.length_take, List.length_drop, Array.length_toList]
  omega
theorem cutS_mem {z : Str} {lo hi : Option Int} {c : Nat} (h : c ∈ (cutS z lo hi).cps.toList) : c ∈ z.cps.toList := by
  unfold cutS at h
  simp only at h
  exact List.mem_of_mem_drop (List.mem_of_mem_take h)
theorem cutS_ok {z : Str} (lo hi : Option Int) (h : PyData.strOk z = true) : PyData.strOk (cutS z lo hi) = true := (okIff _).mpr fun c hc => (okIff z).mp h c (cutS_mem hc)
theorem app_ok {x y : Str} (h : PyData.strOk x = true) (g : PyData.strOk y = true) : PyData.strOk (x ++ y) = true := (okIff _).mpr fun c hc => by
  have e : (x ++ y).cps.toList = x.cps.toList ++ y.cps.toList := by
    show (x.cps ++ y.cps).toList = _
    simp
  rw [e] at hc
  rcases List.mem_append.mp hc with h1 | h1
  · exact (okIff x).mp h c h1
  · exact (okIff y).mp g c h1
/-- a cut at i and at j behind it: two pieces are no longer than the whole -/
theorem cut_two (z : Str) (i j : Nat) (h : i ≤ j) : (cutS z none (some (i : Int))).length + (cutS z (some (j : Int)) none).length ≤ z.length := by
  unfold cutS
  show (List.toArray _).size + (List.toArray _).size ≤ z.cps.size
  rw [List.size_toArray, List.size_toArray, List.length_take, List.length_drop, List.length_take, List.length_drop, Array.length_toList, HT.sIx_nat, HT.sIx_nat]
  show min (min i z.cps.size - 0) (z.cps.size - 0) + min (z.cps.size - min j z.cps.size) (z.cps.size - min j z.cps.size) ≤ z.cps.size
  omega
def spTold (K : PySem.W.Frag) : Sp := fun vs H Q _ => ∃ x, vs = [x] ∧ ((∃ z : Str, x = .str z ∧ z.length ≤ 1000 ∧ Tells z H Q) ∨ ((∀ H', Same H H' → NoStr K H' x) ∧ ∀ H', Same H H' → Q .non H'))
section
variable {P : Program} {w : World} {K : PySem.W.Frag} {mg : Str → Option Value} {base : Heap}
abbrev nBent : List Str := ["_law_pen_here", "_law_text_here", "_law_at", "_law_sign"]
theorem scBent : FnScope nBent ["_law_pen_here", "_law_text_here"] (defScope sBent) := ⟨rfl, rfl, rfl, by decide +kernel, rfl, by decide +kernel, by decide +kernel⟩
theorem ok_bent {f f1 f2 : Addr} {fd fd1 fd2 : FuncData} (F : L2.Fun K "_law_bent" "_law_bent" sBent f fd) (T : Txt mg)
    (G1 : FnOk P w K mg base CX0 1 f1 fd1 ["_law_pen_here", "_law_many"] spDraw) (m1 : mg "_law_draw" = some (.ref f1)) (k1 : PySem.W.keepIn K (.ref f1) = true) (b1 : L2.Binds K fd1 ["_law_pen_here", "_law_many"] [])
    (G2 : FnOk P w K mg base CX0 2 f2 fd2 ["_law_pen_here", "_law_things"] spPick) (m2 : mg "_law_pick" = some (.ref f2)) (k2 : PySem.W.keepIn K (.ref f2) = true) (b2 : L2.Binds K fd2 ["_law_pen_here", "_law_things"] []) :
    FnOk P w K mg base CX0 3 f fd ["_law_pen_here", "_law_text_here"] spBent := by
  refine F.ok scBent (fun vs H Q E h => ?_) (fun cdv A outer s H vs Q E hr h => ?_)
  · obtain ⟨c, p, n, z, rfl, _⟩ := h
    rfl
  · obtain ⟨c, p, n, z, rfl, nb, pen, few, okz, k⟩ := h
    have nd := scBent.nd
    have hr1 := hr.mono (show 1 ≤ 2 by decide)
    refine ⟨_, pss_cons (ps_set (i := 2) nd rfl (.inl rfl) (pe_call G1 hr1 (by rfl) m1 k1 b1 .nil pass0 (pa_cons (pv 0) (pa_cons (pe_op op_add (bLen (by rfl) T.len (pv 1)) pe_int) pa_nil))))
      (pss_cons (ps_set (i := 3) nd rfl (.inl rfl) (pe_call G2 hr (by rfl) m2 k2 b2 .nil pass0 (pa_cons (pv 0) (pa_cons (pe_op op_cat (bListS rfl (by rfl) T.list pe_str) (pe_lst (pa_cons pe_str (pa_cons pe_str (pa_cons pe_str (pa_cons pe_str pa_nil)))))) pa_nil))))
      (pss_one (ps_ret (pe_op op_add_str (pe_op op_add_str (pe_slice sl_str (pv 1) po_none (po_some (pv 2))) (pv 3)) (pe_slice sl_str (pv 1) (po_some (pe_op op_add (pv 2) (pe_call G1 hr1 (by rfl) m1 k1 b1 .nil pass0 (pa_cons (pv 0) (pa_cons pe_int pa_nil))))) po_none))))), ?_⟩
    refine ⟨_, rfl, _, rfl, _, z.length, rfl, ⟨len_small (by omega), rfl⟩, _, _, rfl, rfl, c, p, _, n, rfl, by omega, by omega, by omega, pen, fun i H1 i0 i1 pen1 x1 => ?_⟩
    refine ⟨_, rfl, "[]>azx A0-~", rfl, len_small (by decide), fun q1 hq1 => ⟨by show 4 ≤ sizeLine; decide, fun q2 hq2 => ?_⟩⟩
    have j0 : Ink c p (n + 1) H H1 := ⟨x1, pen1⟩
    have j1 := j0.new (o := .lst (("[]>azx A0-~" : Str).cps.toList.map fun c => V.str ⟨#[c]⟩)) hq1
    have e1 : upd H1 q1 (.lst (("[]>azx A0-~" : Str).cps.toList.map fun c => V.str ⟨#[c]⟩)) q1 = some (.lst (("[]>azx A0-~" : Str).cps.toList.map fun c => V.str ⟨#[c]⟩)) := upd_same
    generalize upd H1 q1 (.lst (("[]>azx A0-~" : Str).cps.toList.map fun c => V.str ⟨#[c]⟩)) = H2 at j1 e1 hq2 ⊢
    have j2 := j1.new (o := .lst [.str "]", .str "[", .str ">>", .str ""]) hq2
    refine ⟨q1, q2, _, _, rfl, rfl, by rw [upd_ne (ne_of_none e1 hq2)]; exact e1, upd_same, by rw [List.length_map]; show 11 + 4 ≤ sizeLine; decide, fun q3 hq3 => ?_⟩
    have j3 := j2.new (o := .lst ((("[]>azx A0-~" : Str).cps.toList.map fun c => V.str ⟨#[c]⟩) ++ [.str "]", .str "[", .str ">>", .str ""])) hq3
    refine ⟨c, p, n + 1, by omega, j3.2, .inl ⟨q3, _, rfl, j2.2.ne1 hq3, upd_same, by rw [List.length_append]; show 0 < _ + 4; omega, by rw [List.length_append, List.length_map]; show 11 + 4 ≤ 1000; decide, fun v H5 hv pen5 x5 => ?_⟩⟩
    have j5 : Ink c p (n + 2) H H5 := ⟨Ext1.trans j3.1 x5, pen5⟩
    obtain ⟨sg', rfl, l2, ok2⟩ : ∃ y : Str, v = .str y ∧ y.length ≤ 2 ∧ PyData.strOk y = true := by
      rcases List.mem_append.mp hv with hv | hv
      · obtain ⟨d, hd, rfl⟩ := List.mem_map.mp hv
        have hd' : ("[]>azx A0-~" : Str).cps.toList.all (fun d => PyData.strOk ⟨#[d]⟩) = true := by decide +kernel
        exact ⟨_, rfl, by show 1 ≤ 2; decide, List.all_eq_true.mp hd' d hd⟩
      · simp only [List.mem_cons, List.not_mem_nil, or_false] at hv
        rcases hv with rfl | rfl | rfl | rfl
        · exact ⟨_, rfl, by decide, by decide +kernel⟩
        · exact ⟨_, rfl, by decide, by decide +kernel⟩
        · exact ⟨_, rfl, by decide, by decide +kernel⟩
        · exact ⟨_, rfl, by decide, by decide +kernel⟩
    have ei : ((i.toNat : Nat) : Int) = i := by omega
    have lA := cutS_len z none (some i)
    refine ⟨_, rfl, _, rfl, _, rfl, z, rfl, len_small (by omega), _, rfl, _, _, rfl, rfl, by rw [sizeLine_eq]; omega, ?_⟩
    refine ⟨_, rfl, _, rfl, _, rfl, c, p, 2, n + 2, rfl, by decide, by decide, by omega, pen5, fun t H6 t0 t2 pen6 x6 => ?_⟩
    have et : i + t = ((i.toNat + t.toNat : Nat) : Int) := by omega
    have lT := cut_two z i.toNat (i.toNat + t.toNat) (by omega)
    rw [← et, ei] at lT
    have lB := cutS_len z (some (i + t)) none
    refine ⟨_, _, rfl, rfl, _, rfl, z, rfl, len_small (by omega), _, _, rfl, rfl, by rw [app_len, sizeLine_eq]; omega, ?_⟩
    exact k _ _ (by rw [app_len, app_len]; omega) (app_ok (app_ok (cutS_ok _ _ okz) ok2) (cutS_ok _ _ okz)) ⟨Ext1.trans j5.1 x6, pen6⟩
end
end Kx
set_option Elab.async false
set_option maxRecDepth 100000
set_option autoImplicit false
/-! C.m(e, ..), m a classmethod: what is raised is wished for at the caller's slots -/
namespace Ru
open PySem L2 PySem.Spec PyProof.Rows PySem.Calls Er ClX
section
variable {X : Cx} {CX : CXT} {k : Nat} {C p g : Addr} {mc : Value} {sp : Sp} {E : L2.St → XK} {o e : Expr} {es : List Expr} {m : Str} {pos apos : Pos} {ta : TE} {t : TA} {pl : Sem Bool} {pins : List (Addr × Obj)} {σ : L2.St} {H : Hp} {s : Shared}
theorem run_cmS {q : Addr} {Q : VK} {us : List Value} {vs : List V} (F : FnR X.prog X.w X.K X.mg X.base CX k g sp) (hr : Room k X.A) (hx : PassesAt CX X σ (E σ)) (I : Inv X ((q, PySem.W.methodObj (.ref g) (.ref C)) :: pins) σ H s)
    (r : Vals vs us) (h : sp (.ref C :: vs) H Q (E σ)) : wpAny (model X.prog X.w) X.A (call (.ref q) us) (EP X pins σ Q) X.xe s := by
  have z : wpAny (model X.prog X.w) X.A (call (.ref q) us) (EP X ((q, PySem.W.methodObj (.ref g) (.ref C)) :: pins) σ Q) X.xe s := by
    refine wpAny_call (PySem.W.method_call (pin_at I) (codeAny_mono (F X.A X.stack s H (.ref C :: us) (.ref C :: vs) Q (E σ) hr I.env0 (.cons rfl r) h) fun res s' got => ?_))
    rcases res with er | fl
    · exact hx _ H s er s' I got
    · cases fl <;> first | exact I.after got | exact False.elim got
  exact thn z fun _ _ y => unpinE y
def tCMethS (C : Addr) (sp : Sp) (E : L2.St → XK) (ta : TE) (t : TA) : TE := fun σ H Q => ta σ H fun x H1 => x = .ref C ∧ t σ H1 fun vs H2 => sp (.ref C :: vs) H2 Q (E σ)
theorem pe_cmethS (he : PE X o ta) (r : CRead X.K C mc) (c : CMet X.K C mc m p g) (F : FnR X.prog X.w X.K X.mg X.base CX k g sp) (hr : Room k X.A) (hx : ∀ σ, PassesAt CX X σ (E σ)) (ha : PA X (e :: es) t)
    (hst : starEach (e :: es) X.env = (false, eval e X.env) :: starEach es X.env := by rfl) (hpl : (backTo pos (starEach es X.env)).any (·.1) = false := by rfl)
    (ht : eval (.Call (.Attribute o m apos) (e :: es) [] pos) X.env = (do
      let ov ← eval o X.env
      standAt apos.atName
      let (f, first) ← holding [ov] (getMethod ov m pl)
      callWith pos f first (backTo pos (starEach (e :: es) X.env)) (backToKw pos (keywordEach [] X.env))) := by rfl) :
    PE X (.Call (.Attribute o m apos) (e :: es) [] pos) (tCMethS C sp E ta t) := by
  refine ⟨fun pins s σ H Q I h => PySem.W.methodCall_KW (pl := pl) (thn (he.run pins s σ H _ I h) fun u s1 ⟨x, H1, I1, rx, ex, q⟩ => ?_) ht⟩
  subst ex
  obtain rfl : u = Value.ref C := rx
  refine getmethcm_ok I1 r c fun s2 I2 => callwith_cm I2 (base_none I1 (Nat.le_refl _)) c.fi (thn (ha.run pos _ s2 σ H1 _ I2 q) fun us s3 ⟨vs, H2, I3, rv, q2⟩ => ⟨⟨pin_at I3, I3.kIn⟩, ?_⟩) hst hpl
  exact run_cmS F hr (hx σ) I3 rv q2
end
end Ru
set_option Elab.async false
set_option maxRecDepth 100000
set_option autoImplicit false
/-! _law_told -/
namespace Kx
open PySem L2 PySem.Spec PyProof.Rows Rg Er Ru SX
theorem bRepr1 {X : Cx} {e : Expr} {te : TE} {q pos : Pos} (hg : X.A.guards = some []) (hr : Room 0 X.A) (gl : Gl X "repr") (m : X.mg "repr" = none) (he : PE X e te) (na : starEach [e] X.env = (false, eval e X.env) :: starEach [] X.env := by rfl) :
    PE X (.Call (.Name "repr" q) [e] [] pos) (tCB (rRepr X.K) (tCons te tNil)) :=
  pe_callB (cr_repr hg hr) gl m (by decide +kernel) (pa_cons he pa_nil na) (he := na)
theorem shown00 : (PyData.tuple [.int 0, .int 0]).shown = "(0, 0)" := by decide +kernel
section
variable {P : Program} {w : World} {K : PySem.W.Frag} {mg : Str → Option Value} {base : Heap}
abbrev nTold : List Str := ["_law_thing", "_law_found", "_law_told_here", "error"]
theorem scTold : FnScope nTold ["_law_thing"] (defScope sTold) := ⟨rfl, rfl, rfl, by decide +kernel, rfl, by decide +kernel, by decide +kernel⟩
theorem ok_told {C CT f g pm : Addr} {mc : Value} {fd : FuncData} (F : L2.Fun K "_law_told" "_law_told" sTold f fd) (T : Txt mg) (M : RT K mg C) (Hp_ : HearP K mg "BadText" CT) (n1 : PySem.W.findIn K (.ref CT) "line" = some none) (n2 : PySem.W.findIn K (.ref CT) "word" = some none)
    (rd : ClX.CRead K C mc) (cm : ClX.CMet K C mc "read" pm g) (FR : FnR P w K mg base (L2.CX P w) 5 g (spRead K C CT)) :
    FnG P w K mg base CX0 6 f fd ["_law_thing"] (spTold K) := by
  refine funG F scTold (fun vs H Q E h => ?_) (fun cdv A outer s H vs Q E hg hr h => ?_)
  · obtain ⟨x, rfl, _⟩ := h
    rfl
  · obtain ⟨x, rfl, h⟩ := h
    have nd := scTold.nd
    have hg' : (A.deeper (envOfC "_law_told" (defScope sTold) s.heap.objs.size f cdv)).guards = some [] := hg
    refine ⟨_, pss_cons (ps_asg (pe_tup (pa_cons pe_non (pa_cons pe_non pa_nil))) (pg_tup rfl (pgs_cons (pg_name (i := 1) nd rfl (Or.inl rfl)) (pgs_cons (pg_name (i := 2) nd rfl (Or.inl rfl)) pgs_nil))))
      (pss_cons (ps_try_val (i := 3) (j := 2) (c := .ref CT) (Wout := fun _ _ _ _ => False) (te := fun a cls d => tTup (tCons (tXf a cls d CT "line" (tVar 3)) (tCons (tXf a cls d CT "word" (tVar 3)) tNil)))
        (tb := fun W => tAsg (tCMethS C (spRead K C CT) (WE W) (tC (.ref C)) (tCons (tVar 0) tNil)) (gName 1))
        rfl rfl rfl nd rfl rfl rfl rfl ⟨rfl, by decide, .inl Hp_.g⟩ L2.takes0 rfl (fun a oe cls d pn hz hf => pe_tup (pa_cons (pe_xf Hp_.xf n1 hz hf (pv 3)) (pa_cons (pe_xf Hp_.xf n2 hz hf (pv 3)) pa_nil)))
        (fun W pn xe tk _ => pss_one (ps_set (i := 1) nd rfl (.inl rfl) (pe_cmethS (pe_glob (v := .ref C) (by rfl) M.mgC rfl) rd cm FR hr (fun σ => passAt tk σ) (pa_cons (pv 0) pa_nil)))))
      (pss_cons (ps_if (pt_cmp (pc_isN (pv 1))) (pss_one (ps_ret (pe_ifExp (pt_cmpR op_eq (bRepr1 hg' (hr.mono (by decide)) (by rfl) T.repr (pv 2)) pe_str (nomark _)) pe_non pe_str))) pss_nil)
      (pss_one (ps_ret (pe_lst (pa_cons (pe_fld (pv 1) rfl) (pa_cons (pe_fld (pv 1) rfl) (pa_cons (pe_fld (pv 1) rfl) (pa_cons (pe_fld (pv 1) rfl) pa_nil))))))))), ?_⟩
    refine ⟨by show 2 ≤ sizeLine; decide, fun t ht => ?_⟩
    have s1 : Same H (upd H t (.tup [.non, .non])) := Same.new ht
    refine ⟨t, _, rfl, SqT.of upd_same, rfl, _, _, rfl, _, _, rfl, rfl, ?_⟩
    generalize upd H t (.tup [.non, .non]) = H1 at s1 ⊢
    refine ⟨rfl, _, rfl, x, rfl, ?_⟩
    have two : (∃ (z : Str) (p q : List Nat), x = .str z ∧ z.length ≤ 1000 ∧ rdL (inn z) = some (p, q) ∧ ∀ H' R, Same H H' → H' R = some (.lst [.str (S p), .str (S q), .bl (hd z), .bl (la z)]) → Q (.ref R) H') ∨
        (((∃ z : Str, x = .str z ∧ z.length ≤ 1000 ∧ rdL (inn z) = none) ∨ NoStr K H1 x) ∧ ∀ H', Same H H' → Q .non H') := by
      rcases h with ⟨z, rfl, few, kn, ks⟩ | ⟨no, k⟩
      · cases e : rdL (inn z) with
        | none => exact .inr ⟨.inl ⟨z, rfl, few, e⟩, kn e⟩
        | some pq => exact .inl ⟨z, pq.1, pq.2, rfl, few, e, ks pq.1 pq.2 e⟩
      · exact .inr ⟨.inr (no H1 s1), k⟩
    rcases two with ⟨z, p, q, rfl, few, e, ks⟩ | ⟨why, k⟩
    · refine .inl ⟨z, p, q, rfl, few, e, fun H2 a s2 rl => ?_⟩
      obtain ⟨dx, ha⟩ := rl
      obtain ⟨e1, e2, e3, e4⟩ := rf_lookups (.str (S p)) (.str (S q)) (.bl (hd z)) (.bl (la z))
      refine ⟨_, rfl, _, rfl, iteF ?_⟩
      refine ⟨_, rfl, a, C, dx, _, _, rfl, ha, M.cl, M.n1, e1, _, rfl, a, C, dx, _, _, rfl, ha, M.cl, M.n2, e2, _, rfl, a, C, dx, _, _, rfl, ha, M.cl, M.n3, e3, _, rfl, a, C, dx, _, _, rfl, ha, M.cl, M.n4, e4, by show 4 ≤ sizeLine; decide, fun R hR => ?_⟩
      exact ks _ R (Same.trans s1 (Same.trans s2 (Same.new hR))) upd_same
    · refine .inr ⟨why, fun H2 s2 dd hdd => ?_⟩
      refine ⟨true, Hp_.em, fun _ hlen a' na => ?_, fun z => nomatch z⟩
      refine ⟨_, rfl, rfl, rfl, dd, _, .int 0, rfl, upd_same, rfl, _, rfl, rfl, rfl, dd, _, .int 0, rfl, upd_same, rfl, by show 2 ≤ sizeLine; decide, fun q hq => ?_⟩
      have s3 : Same H (upd (upd H2 dd (.xd [("word", .int 0), ("line", .int 0)])) q (.tup [.int 0, .int 0])) := Same.trans s1 (Same.trans s2 (Same.trans (Same.new hdd) (Same.new hq)))
      have e3 : upd (upd H2 dd (.xd [("word", .int 0), ("line", .int 0)])) q (.tup [.int 0, .int 0]) q = some (.tup [.int 0, .int 0]) := upd_same
      generalize upd (upd H2 dd (.xd [("word", .int 0), ("line", .int 0)])) q (.tup [.int 0, .int 0]) = H3 at s3 e3 ⊢
      refine ⟨_, rfl, _, rfl, iteT ?_⟩
      refine ⟨_, rfl, q, .tuple [.int 0, .int 0], rfl, .tup (SqT.of e3) (.cons (.int 0) (.cons (.int 0) .nil)), by decide +kernel, by decide +kernel, by decide +kernel, by rw [shown00]; decide, rfl, _, rfl, ?_⟩
      rw [shown00]
      exact iteT (k H3 s3)
end
end Kx
set_option Elab.async false
set_option maxRecDepth 100000
set_option autoImplicit false
/-! what is written is read again; four parts as data -/
namespace Kx
open PySem L2 PySem.Spec PyProof.Rows Rg Er Ru SX
theorem abc_small : abc.cps.toList.all (fun c => decide (c < 123) && decide (96 < c)) = true := by decide +kernel
theorem isL_lt {c : Nat} (h : isL c = true) : c < 123 ∧ 96 < c := by
  unfold isL at h
  have := List.all_eq_true.mp abc_small c (of_decide_eq_true h)
  simpa using this
theorem all_lt {L : List Nat} (h : L.all isL = true) : ∀ c ∈ L, c < 123 ∧ 96 < c := fun c hc => isL_lt (List.all_eq_true.mp h c hc)
theorem lets_ok {lo : Nat} {z : Str} (h : lets lo z = true) : lo ≤ z.length ∧ z.length ≤ 4 ∧ z.cps.toList.all isL = true ∧ PyData.strOk z = true := by
  unfold lets at h
  simp only [Bool.and_eq_true, decide_eq_true_eq] at h
  exact ⟨h.1.1, h.1.2, h.2, (okIff z).mpr fun c hc => by have := all_lt h.2 c hc; omega⟩
def D4 (o n : Str) (l r : Bool) : PyData := .list [.str o, .str n, .bool l, .bool r]
theorem dp4 {K : PySem.W.Frag} {H : Hp} {a : Addr} {o n : Str} {l r : Bool} (h : H a = some (.lst [.str o, .str n, .bl l, .bl r])) : Dp K H (.ref a) (D4 o n l r) := .lst (SqL.of h) (.cons (.str _) (.cons (.str _) (.cons (.bl _) (.cons (.bl _) .nil))))
theorem rp4 {K : PySem.W.Frag} {H : Hp} {a : Addr} {o n : Str} {l r : Bool} (h : H a = some (.lst [.str o, .str n, .bl l, .bl r])) : Rp K H (.ref a) (D4 o n l r) := .lst (SqL.of h) (.cons (.str _) (.cons (.str _) (.cons (.bl _) (.cons (.bl _) .nil))))
theorem shaped4 {o n : Str} {l r : Bool} (ho : PyData.strOk o = true) (hn : PyData.strOk n = true) : SeqAt.shaped (D4 o n l r) = true := by
  unfold D4 SeqAt.shaped
  simp [PyData.canLay0, PyData.canLayAll0, PyData.depth, PyData.depthAll, ho, hn]
theorem beqStr (x y : Str) : (x == y) = decide (x = y) := by
  by_cases q : x = y
  · subst q; simp
  · rw [decide_eq_false q]; simpa using q
theorem eqv4 {o n o' n' : Str} {l r l' r' : Bool} : PyData.eqv (D4 o n l r) (D4 o' n' l' r') = (decide (o = o') && decide (n = n') && decide (l = l') && decide (r = r')) := by
  unfold D4
  have hb : ∀ a b : Bool, (a == b) = decide (a = b) := fun a b => by cases a <;> cases b <;> rfl
  simp only [PyData.eqv, PyData.eqvAll, beqStr, hb, Bool.and_true, Bool.and_assoc]
theorem tameStr {z : Str} (h : z.length ≤ 4) (o : PyData.strOk z = true) : Tame (.str z) 0 4 := by
  refine ⟨by simp only [PyData.showable], by simp only [PyData.hasDict], by simp only [PyData.depth]; exact Nat.zero_le _, ?_, by simp only [PyData.weight]; exact h⟩
  simp only [PyData.leavesShort, List.all_eq_true, decide_eq_true_eq]
  intro c hc
  have := (okIff z).mp o c hc
  omega
theorem tame4 {o n : Str} {l r : Bool} (h1 : o.length ≤ 4) (h2 : n.length ≤ 4) (o1 : PyData.strOk o = true) (o2 : PyData.strOk n = true) : Tame (D4 o n l r) 1 100 :=
  .list (.cons (w1 := 4) (w2 := 50) (tameStr h1 o1) (.cons (w1 := 4) (w2 := 20) (tameStr h2 o2) (.cons (w1 := 0) (w2 := 5) (.bool l) (.cons (w1 := 0) (w2 := 0) (.bool r) .nil (by decide)) (by decide)) (by decide)) (by decide))
/-! ### a written rule is read -/
def wl (l : Bool) : List Nat := if l then [91] else []
def wt (r : Bool) : List Nat := if r then [93] else []
theorem wr_list (o n : Str) (l r : Bool) : (wr o n l r).cps.toList = wl l ++ (o.cps.toList ++ 62 :: n.cps.toList) ++ wt r := by
  have e : ∀ x y : Str, (x ++ y).cps.toList = x.cps.toList ++ y.cps.toList := fun x y => by
    show (x.cps ++ y.cps).toList = _
    simp
  have f0 : ("" : Str).cps.toList = [] := rfl
  have f1 : (">" : Str).cps.toList = [62] := by decide +kernel
  have f2 : ("[" : Str).cps.toList = [91] := by decide +kernel
  have f3 : ("]" : Str).cps.toList = [93] := by decide +kernel
  unfold wr
  rw [e, e, e, e]
  cases l <;> cases r <;> simp [wl, wt, f0, f1, f2, f3]
theorem par_at : ∀ (O acc N : List Nat), O.all isL = true → TL.par [62] acc (O ++ 62 :: N) = some (acc ++ O, N)
  | [], acc, N, _ => by
    rw [List.nil_append, TL.par, pre62]
    simp
  | c :: r, acc, N, h => by
    rw [List.all_cons, Bool.and_eq_true] at h
    have e : (c == 62) = false := by
      have := isL_lt h.1
      simp; omega
    rw [List.cons_append, TL.par, pre62, e, if_neg (by simp), par_at r (acc ++ [c]) N h.2]
    simp
theorem wr_read {o n : Str} {l r : Bool} (h1 : lets 1 o = true) (h2 : lets 0 n = true) : rdL (inn (wr o n l r)) = some (o.cps.toList, n.cps.toList) ∧ hd (wr o n l r) = l ∧ la (wr o n l r) = r := by
  obtain ⟨a1, a2, a3, a4⟩ := lets_ok h1
  obtain ⟨b1, b2, b3, b4⟩ := lets_ok h2
  have e1 : hd (wr o n l r) = l := by
    unfold hd
    rw [wr_list]
    cases l with
    | true => simp [wl]
    | false =>
      have hne : o.cps.toList ≠ [] := by
        intro q
        have : o.length = 0 := by show o.cps.size = 0; rw [← Array.length_toList, q]; rfl
        omega
      obtain ⟨c, t, ec⟩ := List.exists_cons_of_ne_nil hne
      have := all_lt a3 c (by rw [ec]; simp)
      simp only [wl, Bool.false_eq_true, if_false, List.nil_append, ec, List.cons_append, List.head?_cons]
      exact decide_eq_false fun q => by cases q; omega
  have e2 : la (wr o n l r) = r := by
    unfold la
    rw [wr_list]
    cases r with
    | true =>
      show decide ((wl l ++ (o.cps.toList ++ 62 :: n.cps.toList) ++ [93]).getLast? = some 93) = true
      rw [List.getLast?_concat]
      rfl
    | false =>
      simp only [wt, Bool.false_eq_true, if_false, List.append_nil]
      refine decide_eq_false fun q => ?_
      have q2 : ((62 :: n.cps.toList) : List Nat).getLast? = some 93 := by
        rw [← List.append_assoc, List.getLast?_append] at q
        cases h : ((62 :: n.cps.toList) : List Nat).getLast? with
        | none => simp at h
        | some v =>
          rw [h] at q
          exact q
      have hm2 := List.mem_of_getLast? q2
      rcases List.mem_cons.mp hm2 with z | z
      · cases z
      · have := all_lt b3 93 z
        omega
  refine ⟨?_, e1, e2⟩
  have e3 : inn (wr o n l r) = o.cps.toList ++ 62 :: n.cps.toList := by
    unfold inn
    rw [e1, e2, wr_list]
    generalize o.cps.toList ++ 62 :: n.cps.toList = X
    have g1 : (wl l ++ X ++ wt r).drop (bit l) = X ++ wt r := by cases l <;> rfl
    have g2 : (wl l ++ X ++ wt r).length - bit r - bit l = X.length := by
      rw [List.length_append, List.length_append]
      cases l <;> cases r <;> simp [wl, wt, bit] <;> omega
    rw [g1, g2]
    exact List.take_left' rfl
  unfold rdL
  rw [e3, par_at _ _ _ a3]
  have f1 : S o.cps.toList = o := rfl
  have f2 : S n.cps.toList = n := rfl
  simp only [List.nil_append, f1, f2, h1, h2, Bool.and_self, if_true]
theorem wr_ok {o n : Str} {l r : Bool} (h1 : PyData.strOk o = true) (h2 : PyData.strOk n = true) : PyData.strOk (wr o n l r) = true := (okIff _).mpr fun c hc => by
  rw [wr_list] at hc
  simp only [List.mem_append, List.mem_cons] at hc
  rcases hc with (hc | hc | hc | hc) | hc
  · unfold wl at hc
    split at hc
    · rw [List.mem_singleton.mp hc]; decide
    · cases hc
  · exact (okIff o).mp h1 c hc
  · subst hc; decide
  · exact (okIff n).mp h2 c hc
  · unfold wt at hc
    split at hc
    · rw [List.mem_singleton.mp hc]; decide
    · cases hc
end Kx
set_option Elab.async false
set_option maxRecDepth 100000
set_option autoImplicit false
/-! the law -/
namespace Kx
open PySem L2 PySem.Spec PyProof.Rows Rg Er Ru SX
abbrev sLaw : Stmt := top 29
theorem bStrOwn {X : Cx} {CX : CXT} {k : Nat} {C f : Addr} {fd : FuncData} {ps : List Str} {sp : Sp} {E : XK} {e : Expr} {te : TE} {q pos : Pos} (F : FnOk X.prog X.w X.K X.mg X.base CX k f fd ps sp) (room : Room (k + 2) X.A) (bd : L2.Binds X.K fd ps []) (ex : Passes CX X E)
    (at_ : PySem.W.findIn X.K (.ref C) "__str__" = some (some (.ref f))) (fn : PySem.W.isFn X.K (.ref f) = true) (gl : Gl X "str") (m : X.mg "str" = none) (he : PE X e te) (na : starEach [e] X.env = (false, eval e X.env) :: starEach [] X.env := by rfl) :
    PE X (.Call (.Name "str" q) [e] [] pos) (tCB (rStrOwn C sp E) (tCons te tNil)) :=
  pe_callTy (call_strOwn F room bd ex at_ fn) gl m (by decide +kernel) (pa_cons he pa_nil na) (he := na)
theorem Rl.ink {C c p a : Addr} {n m : Nat} {H H' : Hp} {o nw : Str} {l r : Bool} (h : Rl C H a o nw l r) (pen : PenAt c m H p) (i : Ink c p n H H') : Rl C H' a o nw l r := by
  obtain ⟨dx, e⟩ := h
  refine ⟨dx, i.1 _ _ ?_ e⟩
  rintro rfl
  obtain ⟨ns, x, g, h1, _⟩ := pen
  rw [h1] at e; cases e
def spLaw (K : PySem.W.Frag) : Sp := fun vs H Q _ => ∃ (a : Addr) (ns : List Int), vs = [.ref a] ∧ SqL K H a (ns.map V.int) ∧ ns.length ≤ 63 ∧ ∀ H', Q (.bl true) H'
/-- what the law asks of the class -/
structure Lw (K : PySem.W.Frag) (mg : Str → Option Value) (C : Addr) : Prop where
  I : InsT K C
  rk : PySem.W.kitOne K (.ref C) (.ref C) = some true
  ks : PySem.W.kitOne K (.type "str") (.ref C) = some false
  kl : PySem.W.kitOne K (.type "list") (.ref C) = some false
  nC : PySem.W.notFirst K C (.ref C) = true
  ns : PySem.W.notFirst K C (.type "str") = true
  nl : PySem.W.notFirst K C (.type "list") = true
  mS : mg "str" = none
theorem eqvAns {z : Str} {p q : List Nat} (h : rdL (inn z) = some (p, q)) : PyData.strOk (S p) = true ∧ PyData.strOk (S q) = true := by
  unfold rdL at h
  split at h
  · cases h
  · split at h
    · rename_i h5
      cases h
      rw [Bool.and_eq_true] at h5
      exact ⟨(lets_ok h5.1).2.2.2, (lets_ok h5.2).2.2.2⟩
    · cases h
theorem eqv4_self {o n : Str} {l r : Bool} : PyData.eqv (D4 o n l r) (D4 o n l r) = true := by rw [eqv4]; simp
section
variable {P : Program} {w : World} {K : PySem.W.Frag} {mg : Str → Option Value} {base : Heap}
abbrev nLaw : List Str := ["_law_script", "_law_pen_here", "_law_turn", "_law_parts", "_law_others", "_law_one", "_law_other", "_law_plain", "_law_k", "_law_bent_here", "_law_text_here", "_law_odd"]
theorem scLaw : FnScope nLaw ["_law_script"] (defScope sLaw) := ⟨rfl, rfl, rfl, by decide +kernel, rfl, by decide +kernel, by decide +kernel⟩
theorem ok_law {C CR CT f fi fs fe f1 f2 f3 f4 f5 f6 f7 f8 f9 g1 g2 : Addr} {fd fdi fds fde d1 d2 d3 d4 d5 d6 d7 d8 d9 e1 e2 : FuncData} {vds : List Value} (F : L2.Fun K "law" "law" sLaw f fd) (T : Txt mg) (M : RT K mg C) (L : Lw K mg C)
    (mk_ : Mk K C fi) (GI : FnOk P w K mg base (L2.CX P w) 3 fi fdi nInit (spRInit K C CR)) (kb : KBn K fdi nInit 3 ["left", "right"] gKw gKwV) (kb0 : KBn K fdi nInit 1 ["old", "new", "left", "right"] gKw gKwV) (bI : L2.Binds K fdi nInit vds) (vI : Vals [.bl false, .bl false] vds)
    (GS : FnOk P w K mg base CX0 1 fs fds ["self"] (spStr C)) (bS : L2.Binds K fds ["self"] []) (aS : PySem.W.findIn K (.ref C) "__str__" = some (some (.ref fs))) (nS : PySem.W.isFn K (.ref fs) = true)
    (GE : FnOk P w K mg base CX0 1 fe fde ["self", "other"] (spREq K C)) (bE : L2.Binds K fde ["self", "other"] []) (aE : PySem.W.findIn K (.ref C) "__eq__" = some (some (.ref fe))) (nE : PySem.W.isFn K (.ref fe) = true)
    (G1 : FnOk P w K mg base CX0 1 f1 d1 ["_law_script"] (spPen K)) (m1 : mg "_law_pen" = some (.ref f1)) (k1 : PySem.W.keepIn K (.ref f1) = true) (b1 : L2.Binds K d1 ["_law_script"] [])
    (G2 : FnOk P w K mg base CX0 1 f2 d2 ["_law_pen_here", "_law_many"] spDraw) (m2 : mg "_law_draw" = some (.ref f2)) (k2 : PySem.W.keepIn K (.ref f2) = true) (b2 : L2.Binds K d2 ["_law_pen_here", "_law_many"] [])
    (G3 : FnOk P w K mg base CX0 2 f3 d3 ["_law_pen_here", "_law_things"] spPick) (m3 : mg "_law_pick" = some (.ref f3)) (k3 : PySem.W.keepIn K (.ref f3) = true) (b3 : L2.Binds K d3 ["_law_pen_here", "_law_things"] [])
    (G4 : FnOk P w K mg base CX0 4 f4 d4 ["_law_pen_here"] spDrawn) (m4 : mg "_law_drawn" = some (.ref f4)) (k4 : PySem.W.keepIn K (.ref f4) = true) (b4 : L2.Binds K d4 ["_law_pen_here"] [])
    (G5 : FnOk P w K mg base CX0 2 f5 d5 ["_law_parts"] spDue) (m5 : mg "_law_due" = some (.ref f5)) (k5 : PySem.W.keepIn K (.ref f5) = true) (b5 : L2.Binds K d5 ["_law_parts"] [])
    (G6 : FnOk P w K mg base CX0 5 f6 d6 ["_law_parts"] spRefused) (m6 : mg "_law_refused" = some (.ref f6)) (k6 : PySem.W.keepIn K (.ref f6) = true) (b6 : L2.Binds K d6 ["_law_parts"] [])
    (G7 : FnOk P w K mg base CX0 3 f7 d7 ["_law_pen_here", "_law_parts"] spSpoilt) (m7 : mg "_law_spoilt" = some (.ref f7)) (k7 : PySem.W.keepIn K (.ref f7) = true) (b7 : L2.Binds K d7 ["_law_pen_here", "_law_parts"] [])
    (G8 : FnOk P w K mg base CX0 1 f8 d8 ["_law_parts"] spWritten) (m8 : mg "_law_written" = some (.ref f8)) (k8 : PySem.W.keepIn K (.ref f8) = true) (b8 : L2.Binds K d8 ["_law_parts"] [])
    (G9 : FnOk P w K mg base CX0 2 f9 d9 ["_law_text_here"] spReadL) (m9 : mg "_law_read" = some (.ref f9)) (k9 : PySem.W.keepIn K (.ref f9) = true) (b9 : L2.Binds K d9 ["_law_text_here"] [])
    (GT : FnG P w K mg base CX0 6 g1 e1 ["_law_thing"] (spTold K)) (mT : mg "_law_told" = some (.ref g1)) (kT : PySem.W.keepIn K (.ref g1) = true) (bT : L2.Binds K e1 ["_law_thing"] [])
    (GB : FnOk P w K mg base CX0 3 g2 e2 ["_law_pen_here", "_law_text_here"] spBent) (mB : mg "_law_bent" = some (.ref g2)) (kB : PySem.W.keepIn K (.ref g2) = true) (bB : L2.Binds K e2 ["_law_pen_here", "_law_text_here"] []) :
    FnG P w K mg base CX0 7 f fd ["_law_script"] (spLaw K) := by
  obtain ⟨mc, lu, rd, cv⟩ := M.rd
  refine funG F scLaw (fun vs H Q E h => ?_) (fun cdv A outer s H vs Q E hg hr h => ?_)
  · obtain ⟨a, ns, rfl, _⟩ := h
    rfl
  · obtain ⟨a, ns, rfl, hs, hl, k⟩ := h
    have nd := scLaw.nd
    have hg' : (A.deeper (envOfC "law" (defScope sLaw) s.heap.objs.size f cdv)).guards = some [] := hg
    have hr0 := hr.mono (show 0 ≤ 6 by decide)
    have hr1 := hr.mono (show 1 ≤ 6 by decide)
    have hr2 := hr.mono (show 2 ≤ 6 by decide)
    have hr3 := hr.mono (show 3 ≤ 6 by decide)
    have hr4 := hr.mono (show 4 ≤ 6 by decide)
    have hr5 := hr.mono (show 5 ≤ 6 by decide)
    refine ⟨_, pss_cons (ps_set (i := 1) nd rfl (.inl rfl) (pe_call G1 hr1 (by rfl) m1 k1 b1 .nil pass0 (pa_cons (pv 0) pa_nil)))
        (pss_cons (ps_if (pt_cmpR op_ne (ClX.pe_cval (pe_glob (v := .ref C) (by rfl) M.mgC rfl)) (pe_int) (nomark _)) (pss_one (ps_ret (pe_bl))) pss_nil)
        (pss_cons (ps_for PassesOwn.never rfl (pi_range1 (by rfl) T.range (pa_cons pe_int pa_nil)) (pg_name (i := 2) nd rfl (Or.inl rfl)) (pss_cons (ps_par (i := 3) (j := 4) rfl nd rfl rfl (by decide) rfl rfl (pa_cons (pe_call G4 hr4 (by rfl) m4 k4 b4 .nil pass0 (pa_cons (pv 1) pa_nil)) (pa_cons (pe_call G4 hr4 (by rfl) m4 k4 b4 .nil pass0 (pa_cons (pv 1) pa_nil)) pa_nil)) rfl)
        (pss_cons (ps_set (i := 5) nd rfl (.inl rfl) (pe_makeK mk_ GI hr4 (by rfl) M.mgC kb passesF (pa_cons (bIx (pv 3) pe_int) (pa_cons (bIx (pv 3) pe_int) pa_nil)) (pk_cons (bIx (pv 3) pe_int) (pk_cons (bIx (pv 3) pe_int) pk_nil))))
        (pss_cons (ps_if (PW.pt (pw_or (pt_cmpR op_ne (bRepr1 hg' hr0 (by rfl) T.repr (pe_lst (pa_cons (pe_fld (pv 5) rfl) (pa_cons (pe_fld (pv 5) rfl) (pa_cons (pe_fld (pv 5) rfl) (pa_cons (pe_fld (pv 5) rfl) pa_nil)))))) (bRepr1 hg' hr0 (by rfl) T.repr (pv 3)) (nomark _)) (pw_or1 (pt_cmpR op_ne (bStrOwn GS hr3 bS pass0 aS nS (by rfl) L.mS (pv 5)) (pe_call G8 hr1 (by rfl) m8 k8 b8 .nil pass0 (pa_cons (pv 3) pa_nil)) (nomark _))))) (pss_one (ps_ret (pe_bl))) pss_nil)
        (C8.pss_cut (ps_if (pt_cmpR op_eq (pe_call G2 hr1 (by rfl) m2 k2 b2 .nil pass0 (pa_cons (pv 1) (pa_cons (pe_int) pa_nil))) (pe_int) (nomark _)) (pss_cons (ps_set (i := 4) nd rfl (.inl rfl) (bList (by rfl) T.list (pv 3)))
        (pss_cons (ps_asg (pe_ix ix_list (pe_call G4 hr4 (by rfl) m4 k4 b4 .nil pass0 (pa_cons (pv 1) pa_nil)) (pe_call G2 hr1 (by rfl) m2 k2 b2 .nil pass0 (pa_cons (pv 1) (pa_cons (pe_int) pa_nil))) (fun _ _ => rfl)) (pg_sub (pv 4) (pe_call G2 hr1 (by rfl) m2 k2 b2 .nil pass0 (pa_cons (pv 1) (pa_cons (pe_int) pa_nil))) set_list))
        (pss_one (ps_set (i := 4) nd rfl (.inl rfl) (pe_lst (pa_cons (bIx (pv 4) pe_int) (pa_cons (bIx (pv 4) pe_int) (pa_cons (pe_cmpR op_isBS (bIx (pv 4) pe_int) (pe_bl) (nomark _)) (pa_cons (pe_cmpR op_isBS (bIx (pv 4) pe_int) (pe_bl) (nomark _)) pa_nil))))))))) pss_nil)
        (C8.pss_cut (ps_if (pt_cmp (pc_isN (pe_call G5 hr2 (by rfl) m5 k5 b5 .nil pass0 (pa_cons (pv 4) pa_nil)))) (pss_cons (ps_set (i := 6) nd rfl (.inl rfl) (pe_makeK0 mk_ GI hr4 (by rfl) M.mgC kb0 passesF (pk_cons (bIx (pv 4) pe_int) (pk_cons (bIx (pv 4) pe_int) (pk_cons (bIx (pv 4) pe_int) (pk_cons (bIx (pv 4) pe_int) pk_nil))))))
        (pss_one (ps_if (PW.pt (pw_or (pt_cmpR op_ne (pe_cmpR (op_eqOwn GE hr1 bE pass0 aE nE) (pv 5) (pv 6) (nomark _)) (pe_cmpR (op_eqD hr.units) (pv 3) (pv 4) (nomark _)) (nomark _)) (pw_or (pt_cmpR (op_eqOwn GE hr1 bE pass0 aE nE) (pv 5) (bStrOwn GS hr3 bS pass0 aS nS (by rfl) L.mS (pv 5)) (nomark _)) (pw_or1 (pt_cmpR (op_eqOwn GE hr1 bE pass0 aE nE) (pv 5) (pv 3) (nomark _)))))) (pss_one (ps_ret (pe_bl))) pss_nil))) pss_nil)
        (pss_cons (ps_set (i := 7) nd rfl (.inl rfl) (pe_make mk_ GI hr4 (by rfl) M.mgC bI vI passesF (pa_cons (bIx (pv 3) pe_int) (pa_cons (bIx (pv 3) pe_int) pa_nil))))
        (pss_cons (ps_if (PW.pt (pw_or (pt_cmpR op_notBl (pe_fld (pv 7) rfl) (pe_bl) (nomark _)) (pw_or1 (pt_cmpR op_notBl (pe_fld (pv 7) rfl) (pe_bl) (nomark _))))) (pss_one (ps_ret (pe_bl))) pss_nil)
        (pss_cons (ps_for PassesOwn.never rfl (pi_range1 (by rfl) T.range (pa_cons pe_int pa_nil)) (pg_name (i := 8) nd rfl (Or.inl rfl)) (pss_cons (ps_set (i := 9) nd rfl (.inl rfl) (pe_call G7 hr3 (by rfl) m7 k7 b7 .nil pass0 (pa_cons (pv 1) (pa_cons (pv 3) pa_nil))))
        (pss_cons (ps_if (pt_cmpR op_ne (pe_call G6 hr5 (by rfl) m6 k6 b6 .nil pass0 (pa_cons (pv 9) pa_nil)) (pe_call G5 hr2 (by rfl) m5 k5 b5 .nil pass0 (pa_cons (pv 9) pa_nil)) (nomark _)) (pss_one (ps_ret (pe_bl))) pss_nil)
        (pss_cons (ps_set (i := 10) nd rfl (.inl rfl) (pe_call GB hr3 (by rfl) mB kB bB .nil pass0 (pa_cons (pv 1) (pa_cons (pe_call G8 hr1 (by rfl) m8 k8 b8 .nil pass0 (pa_cons (pv 3) pa_nil)) pa_nil))))
        (pss_cons (ps_set (i := 10) nd rfl (.inl rfl) (pe_call G3 hr2 (by rfl) m3 k3 b3 .nil pass0 (pa_cons (pv 1) (pa_cons (pe_lst (pa_cons (pv 10) (pa_cons (pe_call GB hr3 (by rfl) mB kB bB .nil pass0 (pa_cons (pv 1) (pa_cons (pv 10) pa_nil))) pa_nil))) pa_nil))))
        (pss_one (ps_if (pt_cmpR (op_neD hr.units) (pe_callG hg' GT hr (by rfl) mT kT bT pass0 (pa_cons (pv 10) pa_nil)) (pe_call G9 hr2 (by rfl) m9 k9 b9 .nil pass0 (pa_cons (pv 10) pa_nil)) (nomark _)) (pss_one (ps_ret (pe_bl))) pss_nil)))))))
        (pss_cons (ps_if (pt_cmpR (op_neD hr.units) (pe_callG hg' GT hr (by rfl) mT kT bT pass0 (pa_cons (pe_call G8 hr1 (by rfl) m8 k8 b8 .nil pass0 (pa_cons (pv 3) pa_nil)) pa_nil)) (pv 3) (nomark _)) (pss_one (ps_ret (pe_bl))) pss_nil)
        (pss_one (ps_if (pt_cmpR (op_neD hr.units) (pe_lc (own := [("_law_odd", 11)]) (g := gName 11) (tt := tYes) rfl nd (pi_list (pe_lst (pa_cons (pe_non) (pa_cons (pe_int) (pa_cons (pe_lst (pa_cons (pe_str) pa_nil)) (pa_cons (pe_tup (pa_cons (pe_str) pa_nil)) (pa_cons (pe_str) pa_nil))))))) (blkOk_by (N := nLaw) (sc := defScope sLaw) (by decide +kernel)) (fun _ _ _ _ _ => pg_name (i := 11) nd rfl (Or.inl rfl)) (fun _ _ _ _ _ => pts_nil) (fun _ _ _ _ _ => pe_callG hg' GT hr (by rfl) mT kT bT pass0 (pa_cons (pv 11) pa_nil))) (pe_op op_rep (pe_lst (pa_cons (pe_non) pa_nil)) pe_int) (nomark _)) (pss_one (ps_ret (pe_bl))) pss_nil))))))))))))
        (pss_one (ps_ret pe_bl)))), ?_⟩
    refine ⟨_, rfl, a, ns, rfl, hs, hl, fun c p H1 s1 pen => ?_⟩
    refine ⟨C, mc, _, lu, rfl, rd, cv, rfl, _, rfl, iteF ?_⟩
    refine ⟨6, rfl, by decide, by decide, for_it walk_range (fun i σ' H' => ∃ y2 y3 y4 y5 y6 y7 y8 y9 y10 y11, σ' = [some (.ref a), some (.ref p), y2, y3, y4, y5, y6, y7, y8, y9, y10, y11] ∧ PenAt c (300 * i) H' p)
      ⟨none, none, none, none, none, none, none, none, none, none, rfl, pen⟩ (fun _ _ _ _ _ => trivial) ?_ ?_⟩
    · rintro i xx σ' H' H'' hi ⟨y2, y3, y4, y5, y6, y7, y8, y9, y10, y11, rfl, pen⟩ yy
      obtain ⟨e6, ex⟩ := yy
      subst e6
      subst ex
      have hi6 : i < 6 := hi
      refine ⟨_, rfl, c, p, 300 * i, rfl, by omega, pen, fun A1 H1 o nw l r _ lo ln hA iA => ?_⟩
      obtain ⟨o1, o4, o5, ook⟩ := lets_ok lo
      obtain ⟨n1, n4, n5, nok⟩ := lets_ok ln
      refine ⟨_, rfl, c, p, 300 * i + 40, rfl, by omega, iA.2, fun B H2 o2 nw2 l2 r2 _ lo2 ln2 hB iB => ⟨_, _, rfl, ?_⟩⟩
      have A1p : A1 ≠ p := by
        rintro rfl
        obtain ⟨_, _, _, h1, _⟩ := iA.2
        rw [h1] at hA; cases hA
      have Bp : B ≠ p := by
        rintro rfl
        obtain ⟨_, _, _, h1, _⟩ := iB.2
        rw [h1] at hB; cases hB
      have hA2 := iB.1 _ _ A1p hA
      have i2 := Ink.trans iA iB
      refine ⟨_, rfl, A1, _, 0, _, rfl, rfl, SqL.of hA2, rfl, _, rfl, A1, _, 1, _, rfl, rfl, SqL.of hA2, rfl, _, rfl, A1, _, 2, _, rfl, rfl, SqL.of hA2, rfl, _, rfl, A1, _, 3, _, rfl, rfl, SqL.of hA2, rfl, rfl, rfl, fun q dx hq hdx ne => ?_⟩
      refine ⟨q, dx, _, _, _, _, true, true, true, true, rfl, upd_same, tx_lets lo, tx_lets ln, tb_bl _, tb_bl _, fun H3 x3 hq3 => ⟨rfl, ?_⟩⟩
      have s23 : Same H2 H3 := same_ext1 hq (made_same hq hdx) x3
      have i3 := i2.same s23
      have hA3 := s23 _ _ hA2
      have hB3 := s23 _ _ hB
      have rl : Rl C H3 q o nw l r := ⟨dx, hq3⟩
      clear iA iB i2 hA hA2 hB s23 x3 hq hdx
      obtain ⟨g1', g2', g3', g4'⟩ := rf_lookups (.str o) (.str nw) (.bl l) (.bl r)
      refine ⟨_, rfl, q, C, dx, _, _, rfl, hq3, M.cl, M.n1, g1', _, rfl, q, C, dx, _, _, rfl, hq3, M.cl, M.n2, g2', _, rfl, q, C, dx, _, _, rfl, hq3, M.cl, M.n3, g3', _, rfl, q, C, dx, _, _, rfl, hq3, M.cl, M.n4, g4', by show 4 ≤ sizeLine; decide, fun L1 hL1 => ?_⟩
      have s34 : Same H3 (upd H3 L1 (.lst [.str o, .str nw, .bl l, .bl r])) := Same.new hL1
      have e4 : upd H3 L1 (.lst [.str o, .str nw, .bl l, .bl r]) L1 = some (.lst [.str o, .str nw, .bl l, .bl r]) := upd_same
      dsimp only [tNil]
      generalize upd H3 L1 (.lst [.str o, .str nw, .bl l, .bl r]) = H4 at s34 e4 ⊢
      refine rRepr_of (rp4 e4) (tame4 (l := l) (r := r) o4 n4 ook nok) (by decide) (by decide) ?_
      refine ⟨_, rfl, ?_⟩
      dsimp only [tNil]
      refine rRepr_of (rp4 (s34 _ _ hA3)) (tame4 (l := l) (r := r) o4 n4 ook nok) (by decide) (by decide) ?_
      refine ⟨rfl, _, rfl, ?_⟩
      rw [neSame]
      refine iteF ?_
      refine ⟨_, rfl, q, dx, _, rfl, s34 _ _ hq3, q, o, nw, l, r, rfl, rl.same s34, by omega, by omega, _, rfl, ?_⟩
      refine ⟨_, rfl, A1, o, nw, l, r, rfl, s34 _ _ hA3, by omega, by omega, rfl, _, rfl, ?_⟩
      rw [neSame]
      refine iteF ?_
      have i4 := i3.same s34
      have hA4 := s34 _ _ hA3
      have hB4 := s34 _ _ hB3
      have rl4 := rl.same s34
      clear hq3 hA3 hB3 rl i3 s34 e4
      refine ⟨fun σ' H' => ∃ B w1 w2 u v, σ' = [some (.ref a), some (.ref p), some (.int (0 + i)), some (.ref A1), some (.ref B), some (.ref q), y6, y7, y8, y9, y10, y11] ∧ H' B = some (.lst [.str w1, .str w2, .bl u, .bl v]) ∧ w1.length ≤ 4 ∧ w2.length ≤ 4 ∧ PyData.strOk w1 = true ∧ PyData.strOk w2 = true ∧ Ink c p (300 * i + 130) H4 H', ?_, ?_⟩
      · refine ⟨_, rfl, c, p, 2, 300 * i + 80, rfl, by decide, by decide, by omega, i4.2.mono (by omega), fun t H5 t0 t2 pen5 x5 => ?_⟩
        have j5 : Ink c p (300 * i + 81) H4 H5 := ⟨x5, pen5⟩
        refine ⟨rfl, _, rfl, ?_⟩
        by_cases ht : t = 0
        · subst ht
          refine iteT ?_
          have A1ne : H5 A1 = some (.lst [.str o, .str nw, .bl l, .bl r]) := x5 _ _ A1p hA4
          refine ⟨_, rfl, A1, _, rfl, .inl (SqL.of A1ne), fun Lx hLx => ?_⟩
          have Lxp := j5.2.ne1 hLx
          have j6 : Ink c p (300 * i + 81) H4 (upd H5 Lx (.lst [.str o, .str nw, .bl l, .bl r])) := j5.new hLx
          have hLx4 : H4 Lx = none := j5.freeOf hLx
          have e6 : upd H5 Lx (.lst [.str o, .str nw, .bl l, .bl r]) Lx = some (.lst [.str o, .str nw, .bl l, .bl r]) := upd_same
          generalize upd H5 Lx (.lst [.str o, .str nw, .bl l, .bl r]) = H6 at j6 e6 ⊢
          refine ⟨_, rfl, c, p, 300 * i + 81, rfl, by omega, j6.2, fun A2 H7 o3 nw3 l3 r3 _ lo3 ln3 hA7 iA7 => ?_⟩
          have A2p : A2 ≠ p := by
            rintro rfl
            obtain ⟨_, _, _, h1, _⟩ := iA7.2
            rw [h1] at hA7; cases hA7
          refine ⟨_, rfl, c, p, 2, 300 * i + 121, rfl, by decide, by decide, by omega, iA7.2, fun t7 H8 u0 u2 pen8 x8 => ?_⟩
          obtain ⟨wv, ev, wl4, wok⟩ : ∃ wv : Str, atI ([.str o3, .str nw3, .bl l3, .bl r3] : List V) t7 = some (.str wv) ∧ wv.length ≤ 4 ∧ PyData.strOk wv = true := by
            have : t7 = 0 ∨ t7 = 1 := by omega
            rcases this with rfl | rfl
            · exact ⟨o3, rfl, (lets_ok lo3).2.1, (lets_ok lo3).2.2.2⟩
            · exact ⟨nw3, rfl, (lets_ok ln3).2.1, (lets_ok ln3).2.2.2⟩
          refine ⟨A2, _, t7, _, rfl, rfl, SqL.of (x8 _ _ A2p hA7), ev, ?_⟩
          have j8 : Ink c p (300 * i + 122) H4 H8 := ⟨Ext1.trans j6.1 (Ext1.trans iA7.1 x8), pen8⟩
          have e8 := x8 _ _ Lxp (iA7.1 _ _ Lxp e6)
          refine ⟨_, rfl, _, rfl, c, p, 4, 300 * i + 122, rfl, by decide, by decide, by omega, pen8, fun t9 H9 v0 v4 pen9 x9 => ?_⟩
          have j9 : Ink c p (300 * i + 123) H4 H9 := ⟨Ext1.trans j8.1 x9, pen9⟩
          have e9 := x9 _ _ Lxp e8
          obtain ⟨kk, w1, w2, e3, e4, hix, hset, a1, a2, a3, a4, a5, a6⟩ : ∃ (kk : Nat) (w1 w2 : Str) (e3 e4 : V), ixN 4 t9 = some kk ∧ ([.str o, .str nw, .bl l, .bl r] : List V).set kk (.str wv) = [.str w1, .str w2, e3, e4] ∧ w1.length ≤ 4 ∧ w2.length ≤ 4 ∧ PyData.strOk w1 = true ∧ PyData.strOk w2 = true ∧ ((∃ x, e3 = .bl x) ∨ ∃ z, e3 = .str z) ∧ ((∃ x, e4 = .bl x) ∨ ∃ z, e4 = .str z) := by
            have : t9 = 0 ∨ t9 = 1 ∨ t9 = 2 ∨ t9 = 3 := by omega
            rcases this with rfl | rfl | rfl | rfl
            · exact ⟨0, wv, nw, _, _, rfl, rfl, wl4, n4, wok, nok, .inl ⟨_, rfl⟩, .inl ⟨_, rfl⟩⟩
            · exact ⟨1, o, wv, _, _, rfl, rfl, o4, wl4, ook, wok, .inl ⟨_, rfl⟩, .inl ⟨_, rfl⟩⟩
            · exact ⟨2, o, nw, _, _, rfl, rfl, o4, n4, ook, nok, .inr ⟨_, rfl⟩, .inl ⟨_, rfl⟩⟩
            · exact ⟨3, o, nw, _, _, rfl, rfl, o4, n4, ook, nok, .inl ⟨_, rfl⟩, .inr ⟨_, rfl⟩⟩
          refine ⟨Lx, _, t9, kk, rfl, rfl, e9, hix, ?_⟩
          rw [hset]
          have j10 : Ink c p (300 * i + 123) H4 (upd H9 Lx (.lst [.str w1, .str w2, e3, e4])) := Ink.putNew j9 i4.2 hLx4
          have e10 : upd H9 Lx (.lst [.str w1, .str w2, e3, e4]) Lx = some (.lst [.str w1, .str w2, e3, e4]) := upd_same
          generalize upd H9 Lx (.lst [.str w1, .str w2, e3, e4]) = H10 at j10 e10 ⊢
          refine ⟨_, rfl, Lx, _, 0, _, rfl, rfl, SqL.of e10, rfl, _, rfl, Lx, _, 1, _, rfl, rfl, SqL.of e10, rfl, _, rfl, Lx, _, 2, _, rfl, rfl, SqL.of e10, rfl, true, rfl, a5, _, rfl, Lx, _, 3, _, rfl, rfl, SqL.of e10, rfl, true, rfl, a6, by show 4 ≤ sizeLine; decide, fun B2 hB2 => ?_⟩
          exact ⟨B2, w1, w2, _, _, rfl, upd_same, a1, a2, a3, a4, (j10.new hB2).mono (by omega)⟩
        · rw [show decide (V.int t = V.int 0) = false from decide_eq_false fun z => ht (V.int.inj z)]
          refine iteF ⟨B, o2, nw2, l2, r2, rfl, x5 _ _ Bp hB4, (lets_ok lo2).2.1, (lets_ok ln2).2.1, (lets_ok lo2).2.2.2, (lets_ok ln2).2.2.2, j5.mono (by omega)⟩
      · rintro σ' H5 ⟨B, w1, w2, u, v, rfl, hB5, a1, a2, a3, a4, j5⟩
        have hA5 := j5.1 _ _ A1p hA4
        have rl5 := rl4.ink i4.2 j5
        have Bp' : B ≠ p := by
          rintro rfl
          obtain ⟨_, _, _, h1, _⟩ := j5.2
          rw [h1] at hB5; cases hB5
        clear hB4 Bp
        refine ⟨fun σ' H' => ∃ y6, σ' = [some (.ref a), some (.ref p), some (.int (0 + i)), some (.ref A1), some (.ref B), some (.ref q), y6, y7, y8, y9, y10, y11] ∧ Same H5 H', ?_, ?_⟩
        · have four : Four H5 (.str w1) (.str w2) (.bl u) (.bl v) (lets 1 w1) (lets 0 w2) true true := ⟨.inl ⟨w1, rfl, by omega, a3, rfl⟩, .inl ⟨w2, rfl, by omega, a4, rfl⟩, .inl ⟨u, rfl, rfl⟩, .inl ⟨v, rfl, rfl⟩⟩
          refine ⟨_, rfl, B, _, _, _, _, _, _, _, _, rfl, hB5, four, fun H6 s6 => ⟨_, rfl, ?_⟩⟩
          cases c1 : lets 1 w1 with
          | false => exact iteF ⟨_, rfl, s6⟩
          | true =>
          cases c2 : lets 0 w2 with
          | false => exact iteF ⟨_, rfl, s6⟩
          | true =>
          have hB6 := s6 _ _ hB5
          refine iteT ?_
          refine ⟨_, rfl, B, _, 0, _, rfl, rfl, SqL.of hB6, rfl, _, rfl, B, _, 1, _, rfl, rfl, SqL.of hB6, rfl, _, rfl, B, _, 2, _, rfl, rfl, SqL.of hB6, rfl, _, rfl, B, _, 3, _, rfl, rfl, SqL.of hB6, rfl, rfl, rfl, fun q2 dx2 hq2 hdx2 ne2 => ?_⟩
          refine ⟨q2, dx2, _, _, _, _, true, true, true, true, rfl, upd_same, tx_lets c1, tx_lets c2, tb_bl _, tb_bl _, fun H7 x7 hq7 => ⟨rfl, ?_⟩⟩
          have s67 : Same H6 H7 := same_ext1 hq2 (made_same hq2 hdx2) x7
          have s57 := Same.trans s6 s67
          have rl7 := rl5.same s57
          obtain ⟨dx7, hq7'⟩ := rl7
          have hA7 := s57 _ _ hA5
          have hB7 := s57 _ _ hB5
          refine ⟨_, rfl, _, rfl, q, dx7, _, .ref C, rfl, hq7', L.I.ty hq7, L.nC, q, .ref q2, o, nw, l, r, rfl, ⟨dx7, hq7'⟩, .inl ⟨q2, w1, w2, u, v, rfl, ⟨dx2, hq7⟩, _, rfl, ?_⟩⟩
          refine ⟨_, rfl, _, rfl, D4 o nw l r, D4 w1 w2 u v, dp4 hA7, dp4 hB7, shaped4 ook nok, shaped4 a3 a4, rfl, _, rfl, ?_⟩
          rw [eqv4, neSame]
          refine iteF ?_
          refine ⟨_, rfl, _, rfl, q, dx7, _, rfl, hq7', q, o, nw, l, r, rfl, ⟨dx7, hq7'⟩, by omega, by omega, wr o nw l r, rfl, ?_⟩
          refine ⟨q, dx7, _, _, rfl, hq7', .base (.str _), L.ns, q, .str (wr o nw l r), o, nw, l, r, rfl, ⟨dx7, hq7'⟩, .inr ⟨⟨_, .base (.str _), L.ks⟩, _, rfl, _, rfl, iteF ?_⟩⟩
          refine ⟨_, rfl, _, rfl, q, dx7, _, _, rfl, hq7', .base (.lst hA7), L.nl, q, .ref A1, o, nw, l, r, rfl, ⟨dx7, hq7'⟩, .inr ⟨⟨_, .base (.lst hA7), L.kl⟩, _, rfl, _, rfl, iteF ⟨_, rfl, s57⟩⟩⟩
        · rintro σ' H6 ⟨y6, rfl, s56⟩
          have j6 := j5.same s56
          have hA6 := s56 _ _ hA5
          have i6 : Ink c p (300 * i + 130) H'' H6 := Ink.trans i4 j6
          clear hA5 rl5 hB5 j5 s56 j6 rl4 hA4
          refine ⟨_, rfl, A1, _, 0, _, rfl, rfl, SqL.of hA6, rfl, _, rfl, A1, _, 1, _, rfl, rfl, SqL.of hA6, rfl, fun q7 dx7 hq7 hdx7 ne7 => ?_⟩
          refine ⟨q7, dx7, _, _, _, _, true, true, true, true, rfl, upd_same, tx_lets lo, tx_lets ln, tb_bl _, tb_bl _, fun H7 x7 hq7' => ⟨rfl, ?_⟩⟩
          have s67 : Same H6 H7 := same_ext1 hq7 (made_same hq7 hdx7) x7
          obtain ⟨h1', h2', h3', h4'⟩ := rf_lookups (.str o) (.str nw) (.bl false) (.bl false)
          refine ⟨_, rfl, q7, C, dx7, _, _, rfl, hq7', M.cl, M.n3, h3', false, false, rfl, rfl, _, rfl, iteF ?_⟩
          refine ⟨_, rfl, q7, C, dx7, _, _, rfl, hq7', M.cl, M.n4, h4', false, false, rfl, rfl, _, rfl, iteF ?_⟩
          have i7 := i6.same s67
          have hA7 := s67 _ _ hA6
          clear hq7' x7 s67 hA6 i6 hq7 hdx7
          have four0 : ∀ G, Four G (.str o) (.str nw) (.bl l) (.bl r) (lets 1 o) (lets 0 nw) true true := fun G => ⟨.inl ⟨o, rfl, by omega, ook, rfl⟩, .inl ⟨nw, rfl, by omega, nok, rfl⟩, .inl ⟨l, rfl, rfl⟩, .inl ⟨r, rfl, rfl⟩⟩
          refine ⟨3, rfl, by decide, by decide, for_it walk_range (fun j σ' H' => ∃ y8 y9 y10, σ' = [some (.ref a), some (.ref p), some (.int (0 + i)), some (.ref A1), some (.ref B), some (.ref q), y6, some (.ref q7), y8, y9, y10, y11] ∧ H' A1 = some (.lst [.str o, .str nw, .bl l, .bl r]) ∧ Ink c p (300 * i + 130 + 20 * j) H'' H')
            ⟨y8, y9, y10, rfl, hA7, i7⟩ (fun _ _ _ _ _ => trivial) ?_ ?_⟩
          · rintro j xx σ' H8 H8' hj ⟨y8, y9, y10, rfl, hA8, i8⟩ yy
            obtain ⟨e8, ex8⟩ := yy
            subst e8
            subst ex8
            have hj3 : j < 3 := hj
            have wl := wr_len o nw l r
            refine ⟨_, rfl, _, rfl, c, p, 300 * i + 130 + 20 * j, A1, _, _, _, _, _, _, _, _, rfl, by omega, i8.2, A1p, hA8, four0 _, fun Lb H9 x y u v fa fb fc fd' hLb0 hLb four ink9 => ?_⟩
            have i9 := Ink.trans i8 ink9
            have hA9 := ink9.1 _ _ A1p hA8
            refine ⟨_, rfl, Lb, _, _, _, _, _, _, _, _, rfl, hLb, four, fun H10 s10 => ?_⟩
            refine ⟨_, rfl, Lb, _, _, _, _, _, _, _, _, rfl, s10 _ _ hLb, four.keep (Same.keepL s10), fun H11 s11 => ?_⟩
            have sc : scal (dueV (bad4 fa fb fc fd')) (dueV (bad4 fa fb fc fd')) = true := by cases bad4 fa fb fc fd' <;> rfl
            refine ⟨sc, _, rfl, ?_⟩
            rw [neSame]
            refine iteF ?_
            have s911 := Same.trans s10 s11
            have i11 := i9.same s911
            have hA11 := s911 _ _ hA9
            refine ⟨_, rfl, _, rfl, A1, o, nw, l, r, rfl, hA11, by omega, by omega, c, p, 300 * i + 130 + 20 * j + 8, wr o nw l r, rfl, by omega, i11.2, by omega, wr_ok ook nok, fun z1 H12 l1 ok1 ink12 => ?_⟩
            have i12 := Ink.trans i11 ink12
            refine ⟨_, rfl, _, rfl, _, rfl, _, rfl, c, p, _, z1, rfl, by omega, i12.2, by omega, ok1, fun z2 H13 l2 ok2 ink13 => ⟨by show 2 ≤ sizeLine; decide, fun Lp hLp => ?_⟩⟩
            have i13 := Ink.trans i12 ink13
            have i13' := i13.new (o := .lst [.str z1, .str z2]) hLp
            refine ⟨c, p, _, by omega, i13'.2, .inl ⟨Lp, _, rfl, i13.2.ne1 hLp, upd_same, by show 0 < 2; decide, by show 2 ≤ 1000; decide, fun vv H14 hvv pen14 x14 => ?_⟩⟩
            have i14 : Ink c p (300 * i + 130 + 20 * j + 15) H'' H14 := ⟨Ext1.trans i13'.1 x14, pen14⟩
            have hA14 : H14 A1 = some (.lst [.str o, .str nw, .bl l, .bl r]) := by
              refine x14 _ _ A1p ?_
              have h := ink13.1 _ _ A1p (ink12.1 _ _ A1p hA11)
              rw [upd_ne (ne_of_none h hLp)]
              exact h
            obtain ⟨z, rfl, lz, okz⟩ : ∃ z : Str, vv = .str z ∧ z.length ≤ 100 ∧ PyData.strOk z = true := by
              simp only [List.mem_cons, List.not_mem_nil, or_false] at hvv
              rcases hvv with rfl | rfl
              · exact ⟨z1, rfl, by omega, ok1⟩
              · exact ⟨z2, rfl, by omega, ok2⟩
            refine ⟨_, rfl, .str z, rfl, .inl ⟨z, rfl, by omega, fun e H15 s15 => ?_, fun p' q' e H15 R15 s15 h15 => ?_⟩⟩
            · refine ⟨_, rfl, z, rfl, by omega, okz, fun _ H16 s16 => ?_, fun p' q' e' => by rw [e] at e'; cases e'⟩
              exact ⟨.none, .none, .non, .non, rfl, rfl, _, rfl, iteF ⟨_, _, _, rfl, s16 _ _ (s15 _ _ hA14), (i14.same (Same.trans s15 s16)).mono (by omega)⟩⟩
            · refine ⟨_, rfl, z, rfl, by omega, okz, (fun e' => by rw [e] at e'; cases e'), fun p2 q2 e' H16 R16 s16 h16 => ?_⟩
              rw [e] at e'
              cases e'
              obtain ⟨k5', k6'⟩ := eqvAns e
              refine ⟨_, _, dp4 (s16 _ _ h15), dp4 h16, shaped4 k5' k6', shaped4 k5' k6', _, rfl, ?_⟩
              rw [eqv4_self]
              exact iteF ⟨_, _, _, rfl, s16 _ _ (s15 _ _ hA14), (i14.same (Same.trans s15 s16)).mono (by omega)⟩
          · rintro σ' H8 ⟨y8, y9, y10, rfl, hA8, i8⟩
            have wl := wr_len o nw l r
            obtain ⟨wr1, wr2, wr3⟩ := wr_read (l := l) (r := r) lo ln
            have f1' : S o.cps.toList = o := rfl
            have f2' : S nw.cps.toList = nw := rfl
            refine ⟨_, rfl, A1, o, nw, l, r, rfl, hA8, by omega, by omega, .str (wr o nw l r), rfl, .inl ⟨wr o nw l r, rfl, by omega, (fun e' => by rw [wr1] at e'; cases e'), fun p' q' e' H9 R9 s9 h9 => ?_⟩⟩
            rw [wr1] at e'
            cases e'
            rw [wr2, wr3, f1', f2'] at h9
            have hA9 := s9 _ _ hA8
            refine ⟨_, rfl, _, _, dp4 h9, dp4 hA9, shaped4 ook nok, shaped4 ook nok, _, rfl, ?_⟩
            rw [eqv4_self]
            refine iteF ?_
            have i9 := i8.same s9
            refine ⟨by show 1 ≤ sizeLine; decide, fun t1 ht1 => ⟨by show 1 ≤ sizeLine; decide, fun t2 ht2 => ⟨by show 5 ≤ sizeLine; decide, fun t3 ht3 => ?_⟩⟩⟩
            have s10 : Same H9 (upd H9 t1 (.lst [.str "x>o"])) := Same.new ht1
            have u1 : upd H9 t1 (.lst [.str "x>o"]) t1 = some (.lst [.str "x>o"]) := upd_same
            generalize upd H9 t1 (.lst [.str "x>o"]) = H10 at s10 u1 ht2 ht3 ⊢
            have s11 : Same H10 (upd H10 t2 (.tup [.str "x>o"])) := Same.new ht2
            have u2 : upd H10 t2 (.tup [.str "x>o"]) t2 = some (.tup [.str "x>o"]) := upd_same
            generalize upd H10 t2 (.tup [.str "x>o"]) = H11 at s11 u2 ht3 ⊢
            have u1' := s11 _ _ u1
            have s12 : Same H11 (upd H11 t3 (.lst [.non, .int 5, .ref t1, .ref t2, .str ""])) := Same.new ht3
            have u3 : upd H11 t3 (.lst [.non, .int 5, .ref t1, .ref t2, .str ""]) t3 = some (.lst [.non, .int 5, .ref t1, .ref t2, .str ""]) := upd_same
            dsimp only [tNil]
            generalize upd H11 t3 (.lst [.non, .int 5, .ref t1, .ref t2, .str ""]) = H12 at s12 u3 ⊢
            have v1 := s12 _ _ u1'
            have v2 := s12 _ _ u2
            have s912 := Same.trans s10 (Same.trans s11 s12)
            refine ⟨t3, rfl, ⟨_, SqL.of u3⟩, fun D hD => ?_⟩
            refine lcGen walk_list (fun j H' acc => Same H12 H' ∧ acc = List.replicate j .non) (by rw [sizeLine_eq]; show 5 < 16777216; decide) ⟨Same.new hD, rfl⟩ (fun j H' acc _ q => SqL.of (q.1 _ _ u3)) (fun _ _ _ _ y => y.1) ?_ ?_
            · rintro j x H' acc Q' hj hDl hl' ⟨s13, rfl⟩ ⟨_, hx⟩ qq
              have hj5 : j < 5 := hj
              have told : (∃ z : Str, x = .str z ∧ z.length ≤ 1000 ∧ rdL (inn z) = none) ∨ (∀ H2, Same H' H2 → NoStr K H2 x) := by
                match j, hj5, hx with
                | 0, _, hx => cases hx; exact .inr fun _ _ => ⟨_, .base .non, kit_ty (by decide +kernel)⟩
                | 1, _, hx => cases hx; exact .inr fun _ _ => ⟨_, .base (.int 5), kit_ty (by decide +kernel)⟩
                | 2, _, hx => cases hx; exact .inr fun H2 s2 => ⟨_, .base (.lst (s2 _ _ (s13 _ _ v1))), kit_ty (by decide +kernel)⟩
                | 3, _, hx => cases hx; exact .inr fun H2 s2 => ⟨_, .base (.tup (s2 _ _ (s13 _ _ v2))), kit_ty (by decide +kernel)⟩
                | 4, _, hx => cases hx; exact .inl ⟨"", rfl, by decide, by decide +kernel⟩
                | j + 5, h, _ => omega
              have go : ∀ H2, Same H' H2 → Q' .non H2 := fun H2 s2 => qq _ H2 (s2 _ _ hDl) ⟨Same.putNew hD (Same.trans s13 s2), by rw [List.replicate_succ', ]⟩
              rcases told with ⟨z, rfl, lz, e'⟩ | no
              · exact ⟨_, rfl, .str z, rfl, .inl ⟨z, rfl, lz, fun _ => go, fun p' q' e2 => by rw [e'] at e2; cases e2⟩⟩
              · exact ⟨_, rfl, x, rfl, .inr ⟨no, go⟩⟩
            · rintro H13 acc hDl _ ⟨s13, rfl⟩
              refine ⟨by show 1 ≤ sizeLine; decide, fun t4 ht4 => ?_⟩
              have s14 : Same H13 (upd H13 t4 (.lst [.non])) := Same.new ht4
              have u4 : upd H13 t4 (.lst [.non]) t4 = some (.lst [.non]) := upd_same
              generalize upd H13 t4 (.lst [.non]) = H14 at s14 u4 ⊢
              refine ⟨t4, 5, _, rfl, rfl, u4, by decide, by decide, by show 1 * 5 ≤ sizeLine; decide, fun t5 ht5 => ?_⟩
              have s15 : Same H14 (upd H14 t5 (.lst (List.replicate (5 : Int).toNat [V.non]).flatten)) := Same.new ht5
              have u5 : upd H14 t5 (.lst (List.replicate (5 : Int).toNat [V.non]).flatten) t5 = some (.lst [.non, .non, .non, .non, .non]) := upd_same
              generalize upd H14 t5 (.lst (List.replicate (5 : Int).toNat [V.non]).flatten) = H15 at s15 u5 ⊢
              have hD15 : H15 D = some (.lst [.non, .non, .non, .non, .non]) := s15 _ _ (s14 _ _ hDl)
              refine ⟨.list [.none, .none, .none, .none, .none], .list [.none, .none, .none, .none, .none], .lst (SqL.of hD15) (.cons .non (.cons .non (.cons .non (.cons .non (.cons .non .nil))))), .lst (SqL.of u5) (.cons .non (.cons .non (.cons .non (.cons .non (.cons .non .nil))))), rfl, rfl, _, rfl, iteF ?_⟩
              exact ⟨_, _, _, _, _, _, _, _, _, _, rfl, (i9.2.ext (Same.trans s912 (Same.trans s13 (Same.trans s14 s15)))).mono (by omega)⟩
    · rintro σ' H' ⟨y2, y3, y4, y5, y6, y7, y8, y9, y10, y11, rfl, pen⟩
      exact k H'
end
end Kx
set_option Elab.async false
set_option maxRecDepth 100000
set_option autoImplicit false
namespace Er
open PySem L2 PySem.Spec PyProof.Rows
/-- a promise of a def by its place, of a promise of it -/
theorem fnR_of {P : Program} {w : World} {K : PySem.W.Frag} {mg : Str → Option Value} {base : Heap} {CX : CXT} {k : Nat} {f : Addr} {fd : FuncData} {ps : List Str} {sp : Sp} (F : FnOk P w K mg base CX k f fd ps sp) (bd : Binds K fd ps []) : FnR P w K mg base CX k f sp := by
  intro A outer s H us vs Q E hr e0 r want
  have len : us.length = ps.length := r.length.symm.trans (F.len _ _ _ _ want)
  have bt : BindsTo s fd ⟨us, []⟩ (ps.zip us) := by
    have z := bd s us (e0.mod.kin.keeps fun b o e => (e0.bs b o e).1) (by rw [List.append_nil]; exact len)
    rw [List.append_nil] at z
    exact z
  exact F.run A outer s H ⟨us, []⟩ us vs Q E hr e0 bt r want
end Er
namespace Kx
open PySem L2 PySem.Spec PyProof.Rows Rg Er Ru
abbrev sInit_R : Stmt := inClass (top 4) 0
abbrev sInit_T : Stmt := inClass (top 6) 0
theorem free_of {ns : List (Str × NameKind)} (h : ns.all (fun y => decide (y.2 ≠ .free) || y.1 == "__class__") = true) : ∀ x, ns.lookup x = some .free → x = "__class__" := by
  intro x e
  have m : (x, NameKind.free) ∈ ns := by
    induction ns with
    | nil => cases e
    | cons y r ih =>
      obtain ⟨y1, y2⟩ := y
      by_cases q : (x == y1) = true
      · simp only [List.lookup, q] at e
        rw [beq_iff_eq.mp q]
        cases e
        exact List.mem_cons_self
      · have q' : (x == y1) = false := by simpa using q
        simp only [List.lookup, q'] at e
        exact List.mem_cons_of_mem _ (ih (by
          rw [List.all_cons, Bool.and_eq_true] at h
          exact h.2) e)
  have := List.all_eq_true.mp h _ m
  simpa using this
theorem esR : ErrS ["self", "part"] (defScope sInit_R) := ⟨rfl, by decide +kernel, by decide +kernel, by decide +kernel, rfl, rfl, free_of (by decide +kernel), rfl, rfl, rfl⟩
theorem esT : ErrS ["self", "line", "word"] (defScope sInit_T) := ⟨rfl, by decide +kernel, by decide +kernel, by decide +kernel, rfl, rfl, free_of (by decide +kernel), rfl, rfl, rfl⟩
section
variable {P : Program} {w : World} {K : PySem.W.Frag} {mg : Str → Option Value} {base : Heap}
theorem ok_initR {C f cda cc : Addr} {oc dV kV doc pm ct : Value} {od an : Option Addr} {osl : Array (Option Value)} (T : ErrC P K C f cc cda) (O : OexC K C) (no : PySem.W.findIn K (.ref C) "part" = some none)
    (lk : K.lookup f = some ⟨oc, od, .func (PySem.W.ksFn "__init__" "BadRule.__init__" (defArgs sInit_R) (defBody sInit_R) (defScope sInit_R) dV kV doc pm an (.ref cda) ct cc), osl⟩) (hcd : PySem.W.codeIn K (.ref cda) "BadRule.__init__" = true) (gs : mg "super" = none) :
    FnOk P w K mg base CX0 1 f (PySem.W.ksFn "__init__" "BadRule.__init__" (defArgs sInit_R) (defBody sInit_R) (defScope sInit_R) dV kV doc pm an (.ref cda) ct cc) ["self", "part"] (spErr1 C "part") := by
  refine ok_err T esR lk hcd gs rfl rfl rfl (fun vs H Q E h => ?_) (fun vs H Q E h => ?_) (fun A outer s H vs Q E h => rest1 esR O no rfl rfl A outer s H vs Q E h) (fun _ => rfl) (fun _ => rfl) (fun _ => rfl)
  · obtain ⟨a, v, rfl, _⟩ := h
    rfl
  · obtain ⟨a, v, rfl, ea, _⟩ := h
    exact ⟨a, _, rfl, ea⟩
theorem ok_initT {C f cda cc : Addr} {oc dV kV doc pm ct : Value} {od an : Option Addr} {osl : Array (Option Value)} (T : ErrC P K C f cc cda) (O : OexC K C) (no : PySem.W.findIn K (.ref C) "line" = some none) (no2 : PySem.W.findIn K (.ref C) "word" = some none)
    (lk : K.lookup f = some ⟨oc, od, .func (PySem.W.ksFn "__init__" "BadText.__init__" (defArgs sInit_T) (defBody sInit_T) (defScope sInit_T) dV kV doc pm an (.ref cda) ct cc), osl⟩) (hcd : PySem.W.codeIn K (.ref cda) "BadText.__init__" = true) (gs : mg "super" = none) :
    FnOk P w K mg base CX0 1 f (PySem.W.ksFn "__init__" "BadText.__init__" (defArgs sInit_T) (defBody sInit_T) (defScope sInit_T) dV kV doc pm an (.ref cda) ct cc) ["self", "line", "word"] (spErr2 C "line" "word") := by
  refine ok_err T esT lk hcd gs rfl rfl rfl (fun vs H Q E h => ?_) (fun vs H Q E h => ?_) (fun A outer s H vs Q E h => rest2 esT O no no2 rfl rfl rfl rfl A outer s H vs Q E h) (fun _ => rfl) (fun _ => rfl) (fun _ => rfl)
  · obtain ⟨a, v, u, rfl, _⟩ := h
    rfl
  · obtain ⟨a, v, u, rfl, ea, _⟩ := h
    exact ⟨a, _, rfl, ea⟩
end
set_option maxHeartbeats 0 in
theorem all_mk {l : PySem.W.OpenLaw} {w : World} {K : PySem.W.Frag} {h : Heap} {mg : Str → Option Value} {fa C : Addr} {tk : Tok} (X : K.In h) (G : h.Ns mainGlobals mg) (hfa : mg "law" = some (.ref fa))
    {CR : Addr} {nm_R q_R : Str} {N_R : Addr} {bs_R bm_R : List Value} {sn_R : List Str} {sub_R : List Value} {ab_R : Bool} {col_R : Option Bool} {dd_R : Option Addr} {w0_R w1_R w2_R w3_R w5_R : Option Value} {fe_R cc_R cda_R : Addr} {oce_R kVe_R doce_R pme_R cte_R : Value} {ode_R ane_R : Option Addr} {osle_R : Array (Option Value)} {cl_R ccl_R : Value} {cld_R cdd_R : Option Addr} {csl_R ccs_R : Array (Option Value)} {vs_R : Array Value} {file_R : Str} {tf_R : Tok}
    {CT : Addr} {nm_T q_T : Str} {N_T : Addr} {bs_T bm_T : List Value} {sn_T : List Str} {sub_T : List Value} {ab_T : Bool} {col_T : Option Bool} {dd_T : Option Addr} {w0_T w1_T w2_T w3_T w5_T : Option Value} {fe_T cc_T cda_T : Addr} {oce_T kVe_T doce_T pme_T cte_T : Value} {ode_T ane_T : Option Addr} {osle_T : Array (Option Value)} {cl_T ccl_T : Value} {cld_T cdd_T : Option Addr} {csl_T ccs_T : Array (Option Value)} {vs_T : Array Value} {file_T : Str} {tf_T : Tok}
    {f_letrs : Addr} {od_letrs an_letrs : Option Addr} {sl_letrs : Array (Option Value)} {oc_letrs kV_letrs dc_letrs pm_letrs cd_letrs ct_letrs : Value}
    {f_parts : Addr} {od_parts an_parts : Option Addr} {sl_parts : Array (Option Value)} {oc_parts kV_parts dc_parts pm_parts cd_parts ct_parts : Value}
    {f_istxt : Addr} {od_istxt an_istxt : Option Addr} {sl_istxt : Array (Option Value)} {oc_istxt kV_istxt dc_istxt pm_istxt cd_istxt ct_istxt : Value}
    {f_pen : Addr} {od_pen an_pen : Option Addr} {sl_pen : Array (Option Value)} {oc_pen kV_pen dc_pen pm_pen cd_pen ct_pen : Value}
    {f_draw : Addr} {od_draw an_draw : Option Addr} {sl_draw : Array (Option Value)} {oc_draw kV_draw dc_draw pm_draw cd_draw ct_draw : Value}
    {f_pick : Addr} {od_pick an_pick : Option Addr} {sl_pick : Array (Option Value)} {oc_pick kV_pick dc_pick pm_pick cd_pick ct_pick : Value}
    {f_lett : Addr} {od_lett an_lett : Option Addr} {sl_lett : Array (Option Value)} {oc_lett kV_lett dc_lett pm_lett cd_lett ct_lett : Value}
    {f_drawn : Addr} {od_drawn an_drawn : Option Addr} {sl_drawn : Array (Option Value)} {oc_drawn kV_drawn dc_drawn pm_drawn cd_drawn ct_drawn : Value}
    {f_strt : Addr} {od_strt an_strt : Option Addr} {sl_strt : Array (Option Value)} {oc_strt kV_strt dc_strt pm_strt cd_strt ct_strt : Value}
    {f_due : Addr} {od_due an_due : Option Addr} {sl_due : Array (Option Value)} {oc_due kV_due dc_due pm_due cd_due ct_due : Value}
    {f_refd : Addr} {od_refd an_refd : Option Addr} {sl_refd : Array (Option Value)} {oc_refd kV_refd dc_refd pm_refd cd_refd ct_refd : Value}
    {f_splt : Addr} {od_splt an_splt : Option Addr} {sl_splt : Array (Option Value)} {oc_splt kV_splt dc_splt pm_splt cd_splt ct_splt : Value}
    {f_wrtn : Addr} {od_wrtn an_wrtn : Option Addr} {sl_wrtn : Array (Option Value)} {oc_wrtn kV_wrtn dc_wrtn pm_wrtn cd_wrtn ct_wrtn : Value}
    {f_lread : Addr} {od_lread an_lread : Option Addr} {sl_lread : Array (Option Value)} {oc_lread kV_lread dc_lread pm_lread cd_lread ct_lread : Value}
    {f_told : Addr} {od_told an_told : Option Addr} {sl_told : Array (Option Value)} {oc_told kV_told dc_told pm_told cd_told ct_told : Value}
    {f_bent : Addr} {od_bent an_bent : Option Addr} {sl_bent : Array (Option Value)} {oc_bent kV_bent dc_bent pm_bent cd_bent ct_bent : Value}
    {f_law : Addr} {od_law an_law : Option Addr} {sl_law : Array (Option Value)} {oc_law kV_law dc_law pm_law cd_law ct_law : Value}
    {f_init : Addr} {od_init an_init : Option Addr} {sl_init : Array (Option Value)} {oc_init dc_init pm_init cd_init ct_init : Value}
    {kd_init : Addr}
    {f_rread : Addr} {od_rread an_rread : Option Addr} {sl_rread : Array (Option Value)} {oc_rread kV_rread dc_rread pm_rread cd_rread ct_rread : Value}
    {p_rread : Addr} {r_rread : List Value}
    {f_rstr : Addr} {od_rstr an_rstr : Option Addr} {sl_rstr : Array (Option Value)} {oc_rstr kV_rstr dc_rstr pm_rstr cd_rstr ct_rstr : Value}
    {f_req : Addr} {od_req an_req : Option Addr} {sl_req : Array (Option Value)} {oc_req kV_req dc_req pm_req cd_req ct_req : Value}
    {tM : Tok}
    (aC : PySem.W.nsIn K mainGlobals "Rule" = some (some (.ref C)))
    (aCR : PySem.W.nsIn K mainGlobals "BadRule" = some (some (.ref CR)))
    (xL_R : K.lookup CR = some (excClassObj nm_R q_R CR N_R bs_R bm_R true sn_R sub_R ab_R col_R dd_R w0_R w1_R w2_R w3_R w5_R "ValueError.__new__"))
    (rv_R : PySem.HandSPX.refsVE bm_R = true)
    (sa_R : PySem.W.findIn K (.ref CR) "__setattr__" = some (some (.builtin "object.__setattr__")))
    (ex_R : PySem.W.subIn K (.ref CR) (.type "BaseException") = some true)
    (ty_R : PySem.W.typeIn K (.ref CR) = some (.type "type"))
    (kC_R : PySem.W.keepIn K (.ref CR) = true)
    (ga_R : PySem.W.findIn K (.ref CR) "__getattribute__" = some (some (.builtin "BaseException.__getattribute__")))
    (gg_R : PySem.W.findIn K (.ref CR) "__getattr__" = some none)
    (hdc_R : PySem.W.hasDictIn K CR = true)
    (ini_R : PySem.W.findIn K (.ref CR) "__init__" = some (some (.ref fe_R)))
    (ti_R : PySem.W.typeIn K (.ref fe_R) = some (.type "function"))
    (le_R : K.lookup fe_R = some ⟨oce_R, ode_R, .func (PySem.W.ksFn "__init__" "BadRule.__init__" (defArgs sInit_R) (defBody sInit_R) (defScope sInit_R) .none kVe_R doce_R pme_R ane_R (.ref cda_R) cte_R cc_R), osle_R⟩)
    (ce_R : PySem.W.codeIn K (.ref cda_R) "BadRule.__init__" = true)
    (no_part_R : PySem.W.findIn K (.ref CR) "part" = some none)
    (su_R : PySem.W.ks_superIn K CR CR "__init__" = some (some (.builtin veInit)))
    (ve_R : PySem.W.subIn K (.ref CR) (.type "ValueError") = some true)
    (se_R : PySem.W.mroIn K CR (.ref CR) = some true)
    (cel_R : K.lookup cc_R = some ⟨cl_R, cld_R, .cell (some (.ref CR)), csl_R⟩)
    (cod_R : K.lookup cda_R = some ⟨ccl_R, cdd_R, .fields vs_R, ccs_R⟩)
    (v2_R : vs_R[2]? = some (.str file_R tf_R))
    (fl_R : ((l.prog.main.file : Str) == file_R) = true)
    (em_R : PySem.W.exmOne K (.ref CR) (.ref CR) = some true)
    (aCT : PySem.W.nsIn K mainGlobals "BadText" = some (some (.ref CT)))
    (xL_T : K.lookup CT = some (excClassObj nm_T q_T CT N_T bs_T bm_T true sn_T sub_T ab_T col_T dd_T w0_T w1_T w2_T w3_T w5_T "ValueError.__new__"))
    (rv_T : PySem.HandSPX.refsVE bm_T = true)
    (sa_T : PySem.W.findIn K (.ref CT) "__setattr__" = some (some (.builtin "object.__setattr__")))
    (ex_T : PySem.W.subIn K (.ref CT) (.type "BaseException") = some true)
    (ty_T : PySem.W.typeIn K (.ref CT) = some (.type "type"))
    (kC_T : PySem.W.keepIn K (.ref CT) = true)
    (ga_T : PySem.W.findIn K (.ref CT) "__getattribute__" = some (some (.builtin "BaseException.__getattribute__")))
    (gg_T : PySem.W.findIn K (.ref CT) "__getattr__" = some none)
    (hdc_T : PySem.W.hasDictIn K CT = true)
    (ini_T : PySem.W.findIn K (.ref CT) "__init__" = some (some (.ref fe_T)))
    (ti_T : PySem.W.typeIn K (.ref fe_T) = some (.type "function"))
    (le_T : K.lookup fe_T = some ⟨oce_T, ode_T, .func (PySem.W.ksFn "__init__" "BadText.__init__" (defArgs sInit_T) (defBody sInit_T) (defScope sInit_T) .none kVe_T doce_T pme_T ane_T (.ref cda_T) cte_T cc_T), osle_T⟩)
    (ce_T : PySem.W.codeIn K (.ref cda_T) "BadText.__init__" = true)
    (no_line_T : PySem.W.findIn K (.ref CT) "line" = some none)
    (no_word_T : PySem.W.findIn K (.ref CT) "word" = some none)
    (su_T : PySem.W.ks_superIn K CT CT "__init__" = some (some (.builtin veInit)))
    (ve_T : PySem.W.subIn K (.ref CT) (.type "ValueError") = some true)
    (se_T : PySem.W.mroIn K CT (.ref CT) = some true)
    (cel_T : K.lookup cc_T = some ⟨cl_T, cld_T, .cell (some (.ref CT)), csl_T⟩)
    (cod_T : K.lookup cda_T = some ⟨ccl_T, cdd_T, .fields vs_T, ccs_T⟩)
    (v2_T : vs_T[2]? = some (.str file_T tf_T))
    (fl_T : ((l.prog.main.file : Str) == file_T) = true)
    (em_T : PySem.W.exmOne K (.ref CT) (.ref CT) = some true)
    (ay : PySem.W.nsIn K cStatics "thirdparty.any" = some none)
    (tp : (l.prog.main.scope.names.lookup ("super" : Str)).isSome = false)
    (cg : PySem.W.specialIn K (.builtin "object.__class__") "__get__" = some (some (.builtin "getset_descriptor.__get__")))
    (ct : PySem.W.takesIn K (.builtin "object.__class__") = some true)
    (a_letrs : PySem.W.nsIn K mainGlobals "are_letters" = some (some (.ref f_letrs)))
    (l_letrs : K.lookup f_letrs = some ⟨oc_letrs, od_letrs, .func (PySem.W.fnOf "are_letters" "are_letters" (defArgs sAreLetters) (defBody sAreLetters) (defScope sAreLetters) .none kV_letrs dc_letrs pm_letrs an_letrs cd_letrs ct_letrs), sl_letrs⟩)
    (c_letrs : PySem.W.codeIn K cd_letrs "are_letters" = true)
    (k_letrs : PySem.W.keepIn K (.ref f_letrs) = true)
    (a_parts : PySem.W.nsIn K mainGlobals "parts_of_text" = some (some (.ref f_parts)))
    (l_parts : K.lookup f_parts = some ⟨oc_parts, od_parts, .func (PySem.W.fnOf "parts_of_text" "parts_of_text" (defArgs sParts) (defBody sParts) (defScope sParts) .none kV_parts dc_parts pm_parts an_parts cd_parts ct_parts), sl_parts⟩)
    (c_parts : PySem.W.codeIn K cd_parts "parts_of_text" = true)
    (k_parts : PySem.W.keepIn K (.ref f_parts) = true)
    (a_istxt : PySem.W.nsIn K mainGlobals "is_text_of_rule" = some (some (.ref f_istxt)))
    (l_istxt : K.lookup f_istxt = some ⟨oc_istxt, od_istxt, .func (PySem.W.fnOf "is_text_of_rule" "is_text_of_rule" (defArgs sIsText) (defBody sIsText) (defScope sIsText) .none kV_istxt dc_istxt pm_istxt an_istxt cd_istxt ct_istxt), sl_istxt⟩)
    (c_istxt : PySem.W.codeIn K cd_istxt "is_text_of_rule" = true)
    (k_istxt : PySem.W.keepIn K (.ref f_istxt) = true)
    (a_pen : PySem.W.nsIn K mainGlobals "_law_pen" = some (some (.ref f_pen)))
    (l_pen : K.lookup f_pen = some ⟨oc_pen, od_pen, .func (PySem.W.fnOf "_law_pen" "_law_pen" (defArgs sPen) (defBody sPen) (defScope sPen) .none kV_pen dc_pen pm_pen an_pen cd_pen ct_pen), sl_pen⟩)
    (c_pen : PySem.W.codeIn K cd_pen "_law_pen" = true)
    (k_pen : PySem.W.keepIn K (.ref f_pen) = true)
    (a_draw : PySem.W.nsIn K mainGlobals "_law_draw" = some (some (.ref f_draw)))
    (l_draw : K.lookup f_draw = some ⟨oc_draw, od_draw, .func (PySem.W.fnOf "_law_draw" "_law_draw" (defArgs sDraw) (defBody sDraw) (defScope sDraw) .none kV_draw dc_draw pm_draw an_draw cd_draw ct_draw), sl_draw⟩)
    (c_draw : PySem.W.codeIn K cd_draw "_law_draw" = true)
    (k_draw : PySem.W.keepIn K (.ref f_draw) = true)
    (a_pick : PySem.W.nsIn K mainGlobals "_law_pick" = some (some (.ref f_pick)))
    (l_pick : K.lookup f_pick = some ⟨oc_pick, od_pick, .func (PySem.W.fnOf "_law_pick" "_law_pick" (defArgs sPick) (defBody sPick) (defScope sPick) .none kV_pick dc_pick pm_pick an_pick cd_pick ct_pick), sl_pick⟩)
    (c_pick : PySem.W.codeIn K cd_pick "_law_pick" = true)
    (k_pick : PySem.W.keepIn K (.ref f_pick) = true)
    (a_lett : PySem.W.nsIn K mainGlobals "_law_letters" = some (some (.ref f_lett)))
    (l_lett : K.lookup f_lett = some ⟨oc_lett, od_lett, .func (PySem.W.fnOf "_law_letters" "_law_letters" (defArgs sLett) (defBody sLett) (defScope sLett) .none kV_lett dc_lett pm_lett an_lett cd_lett ct_lett), sl_lett⟩)
    (c_lett : PySem.W.codeIn K cd_lett "_law_letters" = true)
    (k_lett : PySem.W.keepIn K (.ref f_lett) = true)
    (a_drawn : PySem.W.nsIn K mainGlobals "_law_drawn" = some (some (.ref f_drawn)))
    (l_drawn : K.lookup f_drawn = some ⟨oc_drawn, od_drawn, .func (PySem.W.fnOf "_law_drawn" "_law_drawn" (defArgs sDrawn) (defBody sDrawn) (defScope sDrawn) .none kV_drawn dc_drawn pm_drawn an_drawn cd_drawn ct_drawn), sl_drawn⟩)
    (c_drawn : PySem.W.codeIn K cd_drawn "_law_drawn" = true)
    (k_drawn : PySem.W.keepIn K (.ref f_drawn) = true)
    (a_strt : PySem.W.nsIn K mainGlobals "_law_is_stretch" = some (some (.ref f_strt)))
    (l_strt : K.lookup f_strt = some ⟨oc_strt, od_strt, .func (PySem.W.fnOf "_law_is_stretch" "_law_is_stretch" (defArgs sStretch) (defBody sStretch) (defScope sStretch) .none kV_strt dc_strt pm_strt an_strt cd_strt ct_strt), sl_strt⟩)
    (c_strt : PySem.W.codeIn K cd_strt "_law_is_stretch" = true)
    (k_strt : PySem.W.keepIn K (.ref f_strt) = true)
    (a_due : PySem.W.nsIn K mainGlobals "_law_due" = some (some (.ref f_due)))
    (l_due : K.lookup f_due = some ⟨oc_due, od_due, .func (PySem.W.fnOf "_law_due" "_law_due" (defArgs sDue) (defBody sDue) (defScope sDue) .none kV_due dc_due pm_due an_due cd_due ct_due), sl_due⟩)
    (c_due : PySem.W.codeIn K cd_due "_law_due" = true)
    (k_due : PySem.W.keepIn K (.ref f_due) = true)
    (a_refd : PySem.W.nsIn K mainGlobals "_law_refused" = some (some (.ref f_refd)))
    (l_refd : K.lookup f_refd = some ⟨oc_refd, od_refd, .func (PySem.W.fnOf "_law_refused" "_law_refused" (defArgs sRefused) (defBody sRefused) (defScope sRefused) .none kV_refd dc_refd pm_refd an_refd cd_refd ct_refd), sl_refd⟩)
    (c_refd : PySem.W.codeIn K cd_refd "_law_refused" = true)
    (k_refd : PySem.W.keepIn K (.ref f_refd) = true)
    (a_splt : PySem.W.nsIn K mainGlobals "_law_spoilt" = some (some (.ref f_splt)))
    (l_splt : K.lookup f_splt = some ⟨oc_splt, od_splt, .func (PySem.W.fnOf "_law_spoilt" "_law_spoilt" (defArgs sSpoilt) (defBody sSpoilt) (defScope sSpoilt) .none kV_splt dc_splt pm_splt an_splt cd_splt ct_splt), sl_splt⟩)
    (c_splt : PySem.W.codeIn K cd_splt "_law_spoilt" = true)
    (k_splt : PySem.W.keepIn K (.ref f_splt) = true)
    (a_wrtn : PySem.W.nsIn K mainGlobals "_law_written" = some (some (.ref f_wrtn)))
    (l_wrtn : K.lookup f_wrtn = some ⟨oc_wrtn, od_wrtn, .func (PySem.W.fnOf "_law_written" "_law_written" (defArgs sWritten) (defBody sWritten) (defScope sWritten) .none kV_wrtn dc_wrtn pm_wrtn an_wrtn cd_wrtn ct_wrtn), sl_wrtn⟩)
    (c_wrtn : PySem.W.codeIn K cd_wrtn "_law_written" = true)
    (k_wrtn : PySem.W.keepIn K (.ref f_wrtn) = true)
    (a_lread : PySem.W.nsIn K mainGlobals "_law_read" = some (some (.ref f_lread)))
    (l_lread : K.lookup f_lread = some ⟨oc_lread, od_lread, .func (PySem.W.fnOf "_law_read" "_law_read" (defArgs sRead) (defBody sRead) (defScope sRead) .none kV_lread dc_lread pm_lread an_lread cd_lread ct_lread), sl_lread⟩)
    (c_lread : PySem.W.codeIn K cd_lread "_law_read" = true)
    (k_lread : PySem.W.keepIn K (.ref f_lread) = true)
    (a_told : PySem.W.nsIn K mainGlobals "_law_told" = some (some (.ref f_told)))
    (l_told : K.lookup f_told = some ⟨oc_told, od_told, .func (PySem.W.fnOf "_law_told" "_law_told" (defArgs sTold) (defBody sTold) (defScope sTold) .none kV_told dc_told pm_told an_told cd_told ct_told), sl_told⟩)
    (c_told : PySem.W.codeIn K cd_told "_law_told" = true)
    (k_told : PySem.W.keepIn K (.ref f_told) = true)
    (a_bent : PySem.W.nsIn K mainGlobals "_law_bent" = some (some (.ref f_bent)))
    (l_bent : K.lookup f_bent = some ⟨oc_bent, od_bent, .func (PySem.W.fnOf "_law_bent" "_law_bent" (defArgs sBent) (defBody sBent) (defScope sBent) .none kV_bent dc_bent pm_bent an_bent cd_bent ct_bent), sl_bent⟩)
    (c_bent : PySem.W.codeIn K cd_bent "_law_bent" = true)
    (k_bent : PySem.W.keepIn K (.ref f_bent) = true)
    (a_law : PySem.W.nsIn K mainGlobals "law" = some (some (.ref f_law)))
    (l_law : K.lookup f_law = some ⟨oc_law, od_law, .func (PySem.W.fnOf "law" "law" (defArgs sLaw) (defBody sLaw) (defScope sLaw) .none kV_law dc_law pm_law an_law cd_law ct_law), sl_law⟩)
    (c_law : PySem.W.codeIn K cd_law "law" = true)
    (k_law : PySem.W.keepIn K (.ref f_law) = true)
    (a_init : PySem.W.findIn K (.ref C) "__init__" = some (some (.ref f_init)))
    (i_init : PySem.W.isFn K (.ref f_init) = true)
    (l_init : K.lookup f_init = some ⟨oc_init, od_init, .func (PySem.W.fnOf "__init__" "Rule.__init__" (defArgs sRInit) (defBody sRInit) (defScope sRInit) .none (.ref kd_init) dc_init pm_init an_init cd_init ct_init), sl_init⟩)
    (c_init : PySem.W.codeIn K cd_init "Rule.__init__" = true)
    (k_init : PySem.W.keepIn K (.ref f_init) = true)
    (kl_init : PySem.W.nsIn K kd_init "left" = some (some (.bool false)))
    (kr_init : PySem.W.nsIn K kd_init "right" = some (some (.bool false)))
    (q_rread_a : PySem.W.findIn K (.ref C) "read" = some (some (.ref p_rread)))
    (q_rread : PySem.W.recIn K p_rread "classmethod" = some (.ref f_rread :: r_rread))
    (fc_rread : PySem.W.findCls K (.ref C) (.type "type") "read" = some (.get (.builtin "classmethod.__get__") (.ref p_rread) .none (.ref C)))
    (fi_rread : PySem.W.fnIn K f_rread = true)
    (l_rread : K.lookup f_rread = some ⟨oc_rread, od_rread, .func (PySem.W.fnOf "read" "Rule.read" (defArgs sRRead) (defBody sRRead) (defScope sRRead) .none kV_rread dc_rread pm_rread an_rread cd_rread ct_rread), sl_rread⟩)
    (c_rread : PySem.W.codeIn K cd_rread "Rule.read" = true)
    (k_rread : PySem.W.keepIn K (.ref f_rread) = true)
    (a_rstr : PySem.W.findIn K (.ref C) "__str__" = some (some (.ref f_rstr)))
    (i_rstr : PySem.W.isFn K (.ref f_rstr) = true)
    (l_rstr : K.lookup f_rstr = some ⟨oc_rstr, od_rstr, .func (PySem.W.fnOf "__str__" "Rule.__str__" (defArgs sRStr) (defBody sRStr) (defScope sRStr) .none kV_rstr dc_rstr pm_rstr an_rstr cd_rstr ct_rstr), sl_rstr⟩)
    (c_rstr : PySem.W.codeIn K cd_rstr "Rule.__str__" = true)
    (k_rstr : PySem.W.keepIn K (.ref f_rstr) = true)
    (a_req : PySem.W.findIn K (.ref C) "__eq__" = some (some (.ref f_req)))
    (i_req : PySem.W.isFn K (.ref f_req) = true)
    (l_req : K.lookup f_req = some ⟨oc_req, od_req, .func (PySem.W.fnOf "__eq__" "Rule.__eq__" (defArgs sREq) (defBody sREq) (defScope sREq) .none kV_req dc_req pm_req an_req cd_req ct_req), sl_req⟩)
    (c_req : PySem.W.codeIn K cd_req "Rule.__eq__" = true)
    (k_req : PySem.W.keepIn K (.ref f_req) = true)
    (pg : PySem.W.plainGet K C Str.empty = true)
    (hdi : PySem.W.hasDictIn K C = true)
    (po : PySem.W.plainOver K C = true)
    (sat : PySem.W.findIn K (.ref C) "__setattr__" = some (some (.builtin "object.__setattr__")))
    (mk : PySem.W.makesIn K C = true)
    (kc : PySem.W.keepIn K (.ref C) = true)
    (ca : PySem.W.findIn K (.ref C) "__class__" = some (some (.builtin "object.__class__")))
    (ob : PySem.W.mroIn K C (.type "object") = some true)
    (n_old : PySem.W.findIn K (.ref C) "old" = some none)
    (n_new : PySem.W.findIn K (.ref C) "new" = some none)
    (n_left : PySem.W.findIn K (.ref C) "left" = some none)
    (n_right : PySem.W.findIn K (.ref C) "right" = some none)
    (kk : PySem.W.kitOne K (.ref C) (.ref C) = some true)
    (ksC : PySem.W.kitOne K (.type "str") (.ref C) = some false)
    (klC : PySem.W.kitOne K (.type "list") (.ref C) = some false)
    (nfC : PySem.W.notFirst K C (.ref C) = true)
    (nfS : PySem.W.notFirst K C (.type "str") = true)
    (nfL : PySem.W.notFirst K C (.type "list") = true)
    (rdC : PySem.W.readsIn K C (.type "type") = true)
    (gaC : PySem.W.specialIn K (.ref C) "__getattribute__" = some (some (.builtin "type.__getattribute__")))
    (aMost : PySem.W.findIn K (.ref C) "LONGEST" = some (some (.int 4 tM)))
    (fMost : PySem.W.findCls K (.ref C) (.type "type") "LONGEST" = some (.val (.int 4 tM)))
    (aL : PySem.W.nsIn K mainGlobals "LETTERS" = some (some (.str "abcdefghijklmnopqrstuvwxyz" tk)))
    (z_len : PySem.W.nsIn K mainGlobals "len" = some none)
    (z_int : PySem.W.nsIn K mainGlobals "int" = some none)
    (z_abs : PySem.W.nsIn K mainGlobals "abs" = some none)
    (z_list : PySem.W.nsIn K mainGlobals "list" = some none)
    (z_tuple : PySem.W.nsIn K mainGlobals "tuple" = some none)
    (z_range : PySem.W.nsIn K mainGlobals "range" = some none)
    (z_repr : PySem.W.nsIn K mainGlobals "repr" = some none)
    (z_isinstance : PySem.W.nsIn K mainGlobals "isinstance" = some none)
    (z_all : PySem.W.nsIn K mainGlobals "all" = some none)
    (z_set : PySem.W.nsIn K mainGlobals "set" = some none)
    (z_bool : PySem.W.nsIn K mainGlobals "bool" = some none)
    (z_str : PySem.W.nsIn K mainGlobals "str" = some none)
    (z_super : PySem.W.nsIn K mainGlobals "super" = some none)
    : ∃ fd : FuncData, (∀ (s : Shared) (v : Value), BindsTo s fd ⟨[v], []⟩ [("_law_script", v)]) ∧ ∀ base : Heap, K.In base → base.Ns mainGlobals mg → FnG l.prog w K mg base CX0 7 fa fd ["_law_script"] (spLaw K) := by
  have e := hfa.symm.trans (PySem.W.mg_of X G a_law)
  cases e
  have T : Txt mg := ⟨PySem.W.mg_none_of X G z_len, PySem.W.mg_none_of X G z_int, PySem.W.mg_none_of X G z_abs, PySem.W.mg_none_of X G z_list, PySem.W.mg_none_of X G z_tuple, PySem.W.mg_none_of X G z_range, PySem.W.mg_none_of X G z_repr, PySem.W.mg_none_of X G z_isinstance, PySem.W.mg_none_of X G z_all, PySem.W.mg_none_of X G z_set⟩
  have zB := PySem.W.mg_none_of X G z_bool
  have zS := PySem.W.mg_none_of X G z_str
  have zP := PySem.W.mg_none_of X G z_super
  have mL : mg "LETTERS" = some (.str abc tk) := PySem.W.mg_of X G aL
  have cl : Cls K C := ⟨pg, hdi, po, sat⟩
  have rdd : ClX.CRead K C (.type "type") := ⟨rdC, gaC⟩
  have M : RT K mg C := ⟨cl, n_old, n_new, n_left, n_right, PySem.W.mg_of X G aC, _, _, rdd, ⟨fMost, ⟨_, rfl⟩⟩⟩
  have I : InsT K C := ⟨cl, ca, cg, ct, ob⟩
  have L : Lw K mg C := ⟨I, kk, ksC, klC, nfC, nfS, nfL, zS⟩
  have O_R : OexC K CR := ⟨⟨_, _, _, _, _, _, _, _, _, _, _, _, _, _, _, xL_R, rv_R⟩, sa_R, ex_R, ty_R, kC_R⟩
  have R_R : ErrC l.prog K CR fe_R cc_R cda_R := ⟨⟨_, _, _, _, _, _, _, _, _, _, _, _, _, _, _, xL_R, rv_R⟩, su_R, ay, ve_R, se_R, ⟨_, _, _, cel_R⟩, ⟨_, _, _, _, _, _, cod_R, v2_R, fl_R⟩, tp⟩
  have Hp_R : HearP K mg "BadRule" CR := ⟨PySem.W.mg_of X G aCR, ⟨ga_R, gg_R, ex_R, hdc_R⟩, em_R⟩
  have O_T : OexC K CT := ⟨⟨_, _, _, _, _, _, _, _, _, _, _, _, _, _, _, xL_T, rv_T⟩, sa_T, ex_T, ty_T, kC_T⟩
  have R_T : ErrC l.prog K CT fe_T cc_T cda_T := ⟨⟨_, _, _, _, _, _, _, _, _, _, _, _, _, _, _, xL_T, rv_T⟩, su_T, ay, ve_T, se_T, ⟨_, _, _, cel_T⟩, ⟨_, _, _, _, _, _, cod_T, v2_T, fl_T⟩, tp⟩
  have Hp_T : HearP K mg "BadText" CT := ⟨PySem.W.mg_of X G aCT, ⟨ga_T, gg_T, ex_T, hdc_T⟩, em_T⟩
  have F_letrs := fun_mk (st := sAreLetters) l_letrs c_letrs k_letrs
  have b_letrs := F_letrs.binds (ps := ["value", "least", "most"]) fun _ _ _ _ _ _ us hl => match us, hl with | [_, _, _], _ => rfl
  have m_letrs := PySem.W.mg_of X G a_letrs
  have F_parts := fun_mk (st := sParts) l_parts c_parts k_parts
  have b_parts := F_parts.binds (ps := ["text"]) fun _ _ _ _ _ _ us hl => match us, hl with | [_], _ => rfl
  have m_parts := PySem.W.mg_of X G a_parts
  have F_istxt := fun_mk (st := sIsText) l_istxt c_istxt k_istxt
  have b_istxt := F_istxt.binds (ps := ["value"]) fun _ _ _ _ _ _ us hl => match us, hl with | [_], _ => rfl
  have m_istxt := PySem.W.mg_of X G a_istxt
  have F_pen := fun_mk (st := sPen) l_pen c_pen k_pen
  have b_pen := F_pen.binds (ps := ["_law_script"]) fun _ _ _ _ _ _ us hl => match us, hl with | [_], _ => rfl
  have m_pen := PySem.W.mg_of X G a_pen
  have F_draw := fun_mk (st := sDraw) l_draw c_draw k_draw
  have b_draw := F_draw.binds (ps := ["_law_pen_here", "_law_many"]) fun _ _ _ _ _ _ us hl => match us, hl with | [_, _], _ => rfl
  have m_draw := PySem.W.mg_of X G a_draw
  have F_pick := fun_mk (st := sPick) l_pick c_pick k_pick
  have b_pick := F_pick.binds (ps := ["_law_pen_here", "_law_things"]) fun _ _ _ _ _ _ us hl => match us, hl with | [_, _], _ => rfl
  have m_pick := PySem.W.mg_of X G a_pick
  have F_lett := fun_mk (st := sLett) l_lett c_lett k_lett
  have b_lett := F_lett.binds (ps := ["_law_pen_here", "_law_many"]) fun _ _ _ _ _ _ us hl => match us, hl with | [_, _], _ => rfl
  have m_lett := PySem.W.mg_of X G a_lett
  have F_drawn := fun_mk (st := sDrawn) l_drawn c_drawn k_drawn
  have b_drawn := F_drawn.binds (ps := ["_law_pen_here"]) fun _ _ _ _ _ _ us hl => match us, hl with | [_], _ => rfl
  have m_drawn := PySem.W.mg_of X G a_drawn
  have F_strt := fun_mk (st := sStretch) l_strt c_strt k_strt
  have b_strt := F_strt.binds (ps := ["_law_thing", "_law_shortest"]) fun _ _ _ _ _ _ us hl => match us, hl with | [_, _], _ => rfl
  have m_strt := PySem.W.mg_of X G a_strt
  have F_due := fun_mk (st := sDue) l_due c_due k_due
  have b_due := F_due.binds (ps := ["_law_parts"]) fun _ _ _ _ _ _ us hl => match us, hl with | [_], _ => rfl
  have m_due := PySem.W.mg_of X G a_due
  have F_refd := fun_mk (st := sRefused) l_refd c_refd k_refd
  have b_refd := F_refd.binds (ps := ["_law_parts"]) fun _ _ _ _ _ _ us hl => match us, hl with | [_], _ => rfl
  have m_refd := PySem.W.mg_of X G a_refd
  have F_splt := fun_mk (st := sSpoilt) l_splt c_splt k_splt
  have b_splt := F_splt.binds (ps := ["_law_pen_here", "_law_parts"]) fun _ _ _ _ _ _ us hl => match us, hl with | [_, _], _ => rfl
  have m_splt := PySem.W.mg_of X G a_splt
  have F_wrtn := fun_mk (st := sWritten) l_wrtn c_wrtn k_wrtn
  have b_wrtn := F_wrtn.binds (ps := ["_law_parts"]) fun _ _ _ _ _ _ us hl => match us, hl with | [_], _ => rfl
  have m_wrtn := PySem.W.mg_of X G a_wrtn
  have F_lread := fun_mk (st := sRead) l_lread c_lread k_lread
  have b_lread := F_lread.binds (ps := ["_law_text_here"]) fun _ _ _ _ _ _ us hl => match us, hl with | [_], _ => rfl
  have m_lread := PySem.W.mg_of X G a_lread
  have F_told := fun_mk (st := sTold) l_told c_told k_told
  have b_told := F_told.binds (ps := ["_law_thing"]) fun _ _ _ _ _ _ us hl => match us, hl with | [_], _ => rfl
  have m_told := PySem.W.mg_of X G a_told
  have F_bent := fun_mk (st := sBent) l_bent c_bent k_bent
  have b_bent := F_bent.binds (ps := ["_law_pen_here", "_law_text_here"]) fun _ _ _ _ _ _ us hl => match us, hl with | [_, _], _ => rfl
  have m_bent := PySem.W.mg_of X G a_bent
  have F_law := fun_mk (st := sLaw) l_law c_law k_law
  have b_law := F_law.binds (ps := ["_law_script"]) fun _ _ _ _ _ _ us hl => match us, hl with | [_], _ => rfl
  have m_law := PySem.W.mg_of X G a_law
  have F_rread := fun_mk (st := sRRead) l_rread c_rread k_rread
  have b_rread := F_rread.binds (ps := ["cls", "text"]) fun _ _ _ _ _ _ us hl => match us, hl with | [_, _], _ => rfl
  have F_rstr := fun_mk (st := sRStr) l_rstr c_rstr k_rstr
  have b_rstr := F_rstr.binds (ps := ["self"]) fun _ _ _ _ _ _ us hl => match us, hl with | [_], _ => rfl
  have F_req := fun_mk (st := sREq) l_req c_req k_req
  have b_req := F_req.binds (ps := ["self", "other"]) fun _ _ _ _ _ _ us hl => match us, hl with | [_, _], _ => rfl
  have F_init : FunD K "__init__" "Rule.__init__" (defArgs sRInit) (defBody sRInit) (defScope sRInit) [] [("left", .bl false), ("right", .bl false)] f_init (PySem.W.fnOf "__init__" "Rule.__init__" (defArgs sRInit) (defBody sRInit) (defScope sRInit) .none (.ref kd_init) dc_init pm_init an_init cd_init ct_init) := ⟨⟨_, _, _, _, _, _, _, _, _, _, rfl, l_init, c_init, .inl ⟨rfl, rfl⟩, .inr ⟨kd_init, rfl, fun q hq => by
    rcases List.mem_cons.mp hq with rfl | hq
    · exact ⟨_, kl_init, rfl⟩
    · rcases List.mem_cons.mp hq with rfl | hq
      · exact ⟨_, kr_init, rfl⟩
      · cases hq⟩⟩, k_init⟩
  obtain ⟨vds, vI, bI⟩ := F_init.binds0 (ps := nInit) 3 (by simp) rfl (fun D doc pm an cdv ct us ks h1 h2 => match us, ks, h1, h2 with
    | [_, _, _], [_, _], _, _ => ⟨_, _, _, _, _, _, rfl, rfl, _, _, _, _, _, _, rfl, rfl, rfl⟩)
  obtain ⟨_, kb⟩ := F_init.kbinds0 (ps := nInit) 3 ["left", "right"] [] (fun us _ ws => us ++ ws) (by simp) (fun q hq => nomatch hq) (fun r1 _ r3 => vapp r1 r3) (fun D doc pm an cdv ct us mv ws h1 h2 h3 => match us, mv, ws, h1, h2, h3 with
    | [_, _, _], [], [_, _], _, _, _ => rfl)
  obtain ⟨_, kb0⟩ := F_init.kbinds0 (ps := nInit) 1 ["old", "new", "left", "right"] [] (fun us _ ws => us ++ ws) (by simp) (fun q hq => nomatch hq) (fun r1 _ r3 => vapp r1 r3) (fun D doc pm an cdv ct us mv ws h1 h2 h3 => match us, mv, ws, h1, h2, h3 with
    | [_], [], [_, _, _, _], _, _, _ => rfl)
  refine ⟨PySem.W.fnOf "law" "law" (defArgs sLaw) (defBody sLaw) (defScope sLaw) .none kV_law dc_law pm_law an_law cd_law ct_law, fun s v => .of_eq rfl, fun base _ _ => ?_⟩
  have B_R : ErrB l.prog w K mg base "BadRule" "part" CR := ⟨O_R, PySem.W.mg_of X G aCR, _, _, ["self", "part"], ini_R, ti_R, ok_initR R_R O_R no_part_R le_R ce_R zP, L2.Binds.all fun us hl => match us, hl with | [_, _], _ => rfl⟩
  have B_T : ErrD l.prog w K mg base "BadText" "line" "word" CT := ⟨O_T, PySem.W.mg_of X G aCT, _, _, ["self", "line", "word"], ini_T, ti_T, ok_initT R_T O_T no_line_T no_word_T le_T ce_T zP, L2.Binds.all fun us hl => match us, hl with | [_, _, _], _ => rfl⟩
  have mk' : Mk K C f_init := ⟨mk, a_init, i_init, kc⟩
  have G_letrs := ok_areLetters (P := l.prog) (w := w) (base := base) F_letrs T zS mL
  have G_init := ok_rInit F_init T M B_R zB G_letrs m_letrs k_letrs b_letrs
  have G_parts := ok_parts (P := l.prog) (w := w) (mg := mg) (base := base) F_parts
  have G_istxt := ok_isText F_istxt T M zS G_parts m_parts k_parts b_parts G_letrs m_letrs k_letrs b_letrs
  have G_rread := ok_rRead F_rread B_T G_parts m_parts k_parts b_parts G_istxt m_istxt k_istxt b_istxt mk' G_init kb
  have G_rstr := ok_rStr (P := l.prog) (w := w) (base := base) F_rstr M
  have G_req := ok_rEq (P := l.prog) (w := w) (base := base) F_req T M I kk
  have G_draw := ok_draw (P := l.prog) (w := w) (base := base) F_draw T
  have G_pick := ok_pick F_pick T G_draw m_draw k_draw b_draw
  have G_lett := ok_lett F_lett T G_pick m_pick k_pick b_pick
  have G_drawn := ok_drawn F_drawn G_draw m_draw k_draw b_draw G_pick m_pick k_pick b_pick G_lett m_lett k_lett b_lett
  have G_strt := ok_stretch (P := l.prog) (w := w) (base := base) F_strt T zS
  have G_due := ok_due F_due T zB G_strt m_strt k_strt b_strt
  have G_refd := ok_refused F_refd M Hp_R no_part_R mk' G_init kb
  have G_splt := ok_spoilt F_splt T G_draw m_draw k_draw b_draw G_pick m_pick k_pick b_pick
  have G_wrtn := ok_written (P := l.prog) (w := w) (base := base) F_wrtn T
  have G_lread := ok_read F_lread T G_strt m_strt k_strt b_strt
  have G_bent := ok_bent F_bent T G_draw m_draw k_draw b_draw G_pick m_pick k_pick b_pick
  have cm : ClX.CMet K C (.type "type") "read" p_rread f_rread := ⟨fc_rread, ⟨_, q_rread⟩, fi_rread⟩
  have G_told := ok_told F_told T M Hp_T no_line_T no_word_T rdd cm (fnR_of G_rread b_rread)
  exact ok_law (CT := CT) F_law T M L mk' G_init kb kb0 bI vI G_rstr b_rstr a_rstr i_rstr G_req b_req a_req i_req (ok_pen F_pen T) m_pen k_pen b_pen G_draw m_draw k_draw b_draw G_pick m_pick k_pick b_pick G_drawn m_drawn k_drawn b_drawn G_due m_due k_due b_due G_refd m_refd k_refd b_refd G_splt m_splt k_splt b_splt G_wrtn m_wrtn k_wrtn b_wrtn G_lread m_lread k_lread b_lread G_told m_told k_told b_told G_bent m_bent k_bent b_bent
end Kx
set_option Elab.async false
open PySem PySem.W PyProof.Rows in
set_option maxRecDepth 100000 in
set_option maxHeartbeats 0 in
theorem PySem.Challenge.cw_rowgames_k04_rules_made_holds : PySem.Challenge.rw_rowgames_k04_rules_made.Holds := by
  w_on; o_law; k_head; (case hw => w_witness2)
  k_fill
  refine Rg.walkG (l := PySem.Challenge.rw_rowgames_k04_rules_made) (n := 63) (k := 7) (x := "_law_script") (sp := fun w => Kx.spLaw _) rfl (by decide) rfl ⟨rfl, by decide, by decide⟩ (fun w h Y => PySem.W.kIn_of Y) ?F (fun _ _ a ns hl _ _ hS => ⟨a, ns, rfl, hS, hl, fun _ => rfl⟩)
  case F =>
    intro w mg fa h KX G hmg
    refine' Kx.all_mk KX G hmg ?aC ?aCR ?xL_R ?rv_R ?sa_R ?ex_R ?ty_R ?kC_R ?ga_R ?gg_R ?hdc_R ?ini_R ?ti_R ?le_R ?ce_R ?no_part_R ?su_R ?ve_R ?se_R ?cel_R ?cod_R ?v2_R ?fl_R ?em_R ?aCT ?xL_T ?rv_T ?sa_T ?ex_T ?ty_T ?kC_T ?ga_T ?gg_T ?hdc_T ?ini_T ?ti_T ?le_T ?ce_T ?no_line_T ?no_word_T ?su_T ?ve_T ?se_T ?cel_T ?cod_T ?v2_T ?fl_T ?em_T ?ay ?tp ?cg ?ct ?a_letrs ?l_letrs ?c_letrs ?k_letrs ?a_parts ?l_parts ?c_parts ?k_parts ?a_istxt ?l_istxt ?c_istxt ?k_istxt ?a_pen ?l_pen ?c_pen ?k_pen ?a_draw ?l_draw ?c_draw ?k_draw ?a_pick ?l_pick ?c_pick ?k_pick ?a_lett ?l_lett ?c_lett ?k_lett ?a_drawn ?l_drawn ?c_drawn ?k_drawn ?a_strt ?l_strt ?c_strt ?k_strt ?a_due ?l_due ?c_due ?k_due ?a_refd ?l_refd ?c_refd ?k_refd ?a_splt ?l_splt ?c_splt ?k_splt ?a_wrtn ?l_wrtn ?c_wrtn ?k_wrtn ?a_lread ?l_lread ?c_lread ?k_lread ?a_told ?l_told ?c_told ?k_told ?a_bent ?l_bent ?c_bent ?k_bent ?a_law ?l_law ?c_law ?k_law ?a_init ?i_init ?l_init ?c_init ?k_init ?kl_init ?kr_init ?q_rread_a ?q_rread ?fc_rread ?fi_rread ?l_rread ?c_rread ?k_rread ?a_rstr ?i_rstr ?l_rstr ?c_rstr ?k_rstr ?a_req ?i_req ?l_req ?c_req ?k_req ?pg ?hdi ?po ?sat ?mk ?kc ?ca ?ob ?n_old ?n_new ?n_left ?n_right ?kk ?ksC ?klC ?nfC ?nfS ?nfL ?rdC ?gaC ?aMost ?fMost ?aL ?z_len ?z_int ?z_abs ?z_list ?z_tuple ?z_range ?z_repr ?z_isinstance ?z_all ?z_set ?z_bool ?z_str ?z_super
    (case aC => k_is)
    (case aCR => k_is)
    (case xL_R => k_is)
    (case rv_R => first | rfl | decide +kernel | k_is)
    (case sa_R => k_is)
    (case ex_R => k_is)
    (case ty_R => k_is)
    (case kC_R => k_is)
    (case ga_R => k_is)
    (case gg_R => k_is)
    (case hdc_R => k_is)
    (case ini_R => k_is)
    (case ti_R => k_is)
    (case le_R => k_is)
    (case ce_R => k_is)
    (case no_part_R => k_is)
    (case su_R => first | kernel_rfl | decide +kernel | rfl | k_is)
    (case ve_R => k_is)
    (case se_R => first | k_is | kernel_rfl | decide +kernel)
    (case cel_R => k_is)
    (case cod_R => k_is)
    (case v2_R => first | rfl | decide +kernel | k_is)
    (case fl_R => first | rfl | decide +kernel | k_is)
    (case em_R => first | kernel_rfl | decide +kernel | rfl | k_is)
    (case aCT => k_is)
    (case xL_T => k_is)
    (case rv_T => first | rfl | decide +kernel | k_is)
    (case sa_T => k_is)
    (case ex_T => k_is)
    (case ty_T => k_is)
    (case kC_T => k_is)
    (case ga_T => k_is)
    (case gg_T => k_is)
    (case hdc_T => k_is)
    (case ini_T => k_is)
    (case ti_T => k_is)
    (case le_T => k_is)
    (case ce_T => k_is)
    (case no_line_T => k_is)
    (case no_word_T => k_is)
    (case su_T => first | kernel_rfl | decide +kernel | rfl | k_is)
    (case ve_T => k_is)
    (case se_T => first | k_is | kernel_rfl | decide +kernel)
    (case cel_T => k_is)
    (case cod_T => k_is)
    (case v2_T => first | rfl | decide +kernel | k_is)
    (case fl_T => first | rfl | decide +kernel | k_is)
    (case em_T => first | kernel_rfl | decide +kernel | rfl | k_is)
    (case ay => k_is)
    (case tp => first | rfl | decide +kernel | k_is)
    (case cg => k_is)
    (case ct => k_is)
    (case a_letrs => k_is)
    (case l_letrs => k_is)
    (case c_letrs => k_is)
    (case k_letrs => k_is)
    (case a_parts => k_is)
    (case l_parts => k_is)
    (case c_parts => k_is)
    (case k_parts => k_is)
    (case a_istxt => k_is)
    (case l_istxt => k_is)
    (case c_istxt => k_is)
    (case k_istxt => k_is)
    (case a_pen => k_is)
    (case l_pen => k_is)
    (case c_pen => k_is)
    (case k_pen => k_is)
    (case a_draw => k_is)
    (case l_draw => k_is)
    (case c_draw => k_is)
    (case k_draw => k_is)
    (case a_pick => k_is)
    (case l_pick => k_is)
    (case c_pick => k_is)
    (case k_pick => k_is)
    (case a_lett => k_is)
    (case l_lett => k_is)
    (case c_lett => k_is)
    (case k_lett => k_is)
    (case a_drawn => k_is)
    (case l_drawn => k_is)
    (case c_drawn => k_is)
    (case k_drawn => k_is)
    (case a_strt => k_is)
    (case l_strt => k_is)
    (case c_strt => k_is)
    (case k_strt => k_is)
    (case a_due => k_is)
    (case l_due => k_is)
    (case c_due => k_is)
    (case k_due => k_is)
    (case a_refd => k_is)
    (case l_refd => k_is)
    (case c_refd => k_is)
    (case k_refd => k_is)
    (case a_splt => k_is)
    (case l_splt => k_is)
    (case c_splt => k_is)
    (case k_splt => k_is)
    (case a_wrtn => k_is)
    (case l_wrtn => k_is)
    (case c_wrtn => k_is)
    (case k_wrtn => k_is)
    (case a_lread => k_is)
    (case l_lread => k_is)
    (case c_lread => k_is)
    (case k_lread => k_is)
    (case a_told => k_is)
    (case l_told => k_is)
    (case c_told => k_is)
    (case k_told => k_is)
    (case a_bent => k_is)
    (case l_bent => k_is)
    (case c_bent => k_is)
    (case k_bent => k_is)
    (case a_law => k_is)
    (case l_law => k_is)
    (case c_law => k_is)
    (case k_law => k_is)
    (case a_init => k_is)
    (case i_init => k_is)
    (case l_init => k_is)
    (case c_init => k_is)
    (case k_init => k_is)
    (case kl_init => k_is)
    (case kr_init => k_is)
    (case q_rread_a => k_is)
    (case q_rread => k_is)
    (case fc_rread => first | kernel_rfl | decide +kernel | rfl | k_is)
    (case fi_rread => k_is)
    (case l_rread => k_is)
    (case c_rread => k_is)
    (case k_rread => k_is)
    (case a_rstr => k_is)
    (case i_rstr => k_is)
    (case l_rstr => k_is)
    (case c_rstr => k_is)
    (case k_rstr => k_is)
    (case a_req => k_is)
    (case i_req => k_is)
    (case l_req => k_is)
    (case c_req => k_is)
    (case k_req => k_is)
    (case pg => k_is)
    (case hdi => k_is)
    (case po => k_is)
    (case sat => k_is)
    (case mk => k_is)
    (case kc => k_is)
    (case ca => k_is)
    (case ob => k_is)
    (case n_old => k_is)
    (case n_new => k_is)
    (case n_left => k_is)
    (case n_right => k_is)
    (case kk => first | kernel_rfl | decide +kernel | rfl | k_is)
    (case ksC => first | kernel_rfl | decide +kernel | rfl | k_is)
    (case klC => first | kernel_rfl | decide +kernel | rfl | k_is)
    (case nfC => first | kernel_rfl | decide +kernel | rfl | k_is)
    (case nfS => first | kernel_rfl | decide +kernel | rfl | k_is)
    (case nfL => first | kernel_rfl | decide +kernel | rfl | k_is)
    (case rdC => first | kernel_rfl | decide +kernel | rfl | k_is)
    (case gaC => first | k_is | kernel_rfl | decide +kernel)
    (case aMost => k_is)
    (case fMost => first | kernel_rfl | decide +kernel | rfl | k_is)
    (case aL => k_is)
    (case z_len => k_is)
    (case z_int => k_is)
    (case z_abs => k_is)
    (case z_list => k_is)
    (case z_tuple => k_is)
    (case z_range => k_is)
    (case z_repr => k_is)
    (case z_isinstance => k_is)
    (case z_all => k_is)
    (case z_set => k_is)
    (case z_bool => k_is)
    (case z_str => k_is)
    (case z_super => k_is)
#print axioms PySem.Challenge.cw_rowgames_k04_rules_made_holds
